import PyProof.Rows.All
import Wide.All
import OpenK.AllK
import Wide.FinOn
import Lean
import PyProof.EqAt
import PyProof.EqKinds
import PyProof.TupleCall
import PyProof.NeKinds
import PyProof.ListMulAny
import PyProof.Rows.CallKwBuiltin
import PyProof.MinMaxWalk
import PyProof.SeqI3
import PyProof.Rows.TupAdd
import PyProof.MeetsDict
import PyProof.DictList
import PyProof.ZipIter
import PyProof.Rows.ZipGen
import PyProof.ListRange
import PyProof.TupleOfStr
import PyProof.Rows.FStr
import PyProof.Rows.StrJoin2
import PyProof.Rows.Range3
import PyProof.EnumMake
import PyProof.EnumFor
import PyProof.EnumStmt
import KE.KUnpackStar
import KE.KDictList
import PyProof.Rows.SortWalk
import KE.RegKIsAll
import PyProof.NsDelKeeps
import PyProof.Rows.CountFlat
import KE.KRevIter
import PyProof.Draws
import PyProof.ExcInit
import PyProof.InstStoreFacts
import PyProof.DictCompW
import PyProof.DictIter
import PyProof.DictWalks
import PyProof.Rows.SetFrom
import PyProof.SetRoads
import KE.KDictOf
import PyProof.Rows.SortShellK
import PyProof.ReprRoads
import PyProof.CallFns
import PySem.Challenge.RW_fewjoins_k68_bounds_shown
set_option Elab.async false
set_option linter.all false
set_option maxRecDepth 100000
namespace L2
open PySem PySem.Spec PyProof.Rows
abbrev Key:=Sum Int Str
def y0v:Key->Value->Bool
 | .inl k,v=>Value.isInt k v
 | .inr x,v=>Value.isStrOf x v
def keyH (w:World):Key->Int
 | .inl k=>hashInt k
 | .inr x=>hashStr w x
theorem d0i:∀ {k:Key} {v:Value},y0v k v=true->(∃i t,k=Sum.inl i/\v=Value.int i t)∨(∃x t,k=Sum.inr x/\v=Value.str x t)
 | .inl i,v,h=>by
  obtain⟨t,e⟩:=Value.isInt_shape (k:=i) (v:=v) h
  exact .inl ⟨i,t,rfl,e⟩
 | .inr x,v,h=>by
  obtain⟨t,e⟩:=Value.isStrOf_shape (x:=x) (v:=v) h
  exact .inr ⟨x,t,rfl,e⟩
theorem b1o (i:Int)(t:Tok):y0v (.inl i) (.int i t)=true:=by simp[y0v,Value.isInt]
theorem b1n (x:Str)(t:Tok):y0v (.inr x) (.str x t)=true:=by simp[y0v,Value.isStrOf]
theorem l1l (a b:Int):decide ((Sum.inl a:Key)=Sum.inl b)=(a==b):=by
 by_cases e:a=b
 ·subst e;simp
 ·have h:¬(Sum.inl a:Key)=Sum.inl b:=λq=>e (Sum.inl.inj q)
  rw[decide_eq_false h]
  exact(beq_eq_false_iff_ne.mpr e).symm
theorem l1i (a b:Str):decide ((Sum.inr a:Key)=Sum.inr b)=decide (a=b):=by
 by_cases e:a=b
 ·subst e;simp
 ·have h:¬(Sum.inr a:Key)=Sum.inr b:=λq=>e (Sum.inr.inj q)
  rw[decide_eq_false h,decide_eq_false e]
theorem l1k (a:Int)(b:Str):decide ((Sum.inl a:Key)=Sum.inr b)=false:=decide_eq_false (λq=>nomatch q)
theorem l1j (a:Str)(b:Int):decide ((Sum.inr a:Key)=Sum.inl b)=false:=decide_eq_false (λq=>nomatch q)
def e0k (prog:Program)(w:World):PySem.KeyKind prog w Key where
 is:=y0v
 hash:=keyH w
 inj:=λv a b ha hb=>by
  rcases d0i ha with⟨i,t,rfl,rfl⟩ | ⟨x,t,rfl,rfl⟩
  ·rcases d0i hb with⟨j,u,rfl,e⟩ | ⟨y,u,rfl,e⟩
   ·injection e with e1 _;rw[e1]
   ·exact nomatch e
  ·rcases d0i hb with⟨j,u,rfl,e⟩ | ⟨y,u,rfl,e⟩
   ·exact nomatch e
   ·injection e with e1 _;rw[e1]
 byValue:=λk v h=>by
  rcases d0i h with⟨i,t,rfl,rfl⟩ | ⟨x,t,rfl,rfl⟩ <;> rfl
 pyHash:=λhv h=>by
  rcases d0i hv with⟨i,t,rfl,rfl⟩ | ⟨x,t,rfl,rfl⟩
  ·exact wpAny_pyHash_int h
  ·exact wpAny_pyHash_str h
 eqBool:=λhu hv h=>by
  rcases d0i hu with⟨i,t,rfl,rfl⟩ | ⟨x,t,rfl,rfl⟩
  ·rcases d0i hv with⟨j,u,rfl,rfl⟩ | ⟨y,u,rfl,rfl⟩
   ·rw[l1l]at h;exact wpAny_eqBool_int h
   ·rw[l1k]at h;exact SeqAt.EqAt.int_str i t y u _ _ _ _ h
  ·rcases d0i hv with⟨j,u,rfl,rfl⟩ | ⟨y,u,rfl,rfl⟩
   ·rw[l1j]at h;exact SeqAt.EqAt.str_int x t j u _ _ _ _ h
   ·rw[l1i]at h;exact wpAny_eqBool_str h
 «strs»:=λk x t v h=>by
  rcases d0i h with⟨i,u,rfl,e⟩ | ⟨y,u,rfl,e⟩
  ·exact nomatch e
  ·injection e with e1 _
   subst e1
   cases v <;> rfl
theorem v0l (prog:Program)(w:World)(i:Int)(t:Tok):(e0k prog w).is (.inl i) (.int i t)=true:=b1o i t
theorem v0k (prog:Program)(w:World)(x:Str)(t:Tok):(e0k prog w).is (.inr x) (.str x t)=true:=b1n x t
inductive V where
 | non | bl (b:Bool) | int (i:Int) | str (x:Str) | byt (b:Array UInt8) | flt (b:UInt64) | ref (a:Addr) | ty (n:String)
 deriving DecidableEq
def RelV:V->Value->Prop
 | .non,u=>u=Value.none
 | .bl b,u=>u=Value.bool b
 | .int i,u=>∃t,u=Value.int i t
 | .str x,u=>∃t,u=Value.str x t
 | .byt b,u=>∃t,u=Value.bytes b t
 | .flt b,u=>∃t,u=Value.float b t
 | .ref a,u=>u=Value.ref a
 | .ty n,u=>u=Value.type n
abbrev Vals:List V->List Value->Prop:=Paired RelV
theorem Vals.length {xs:List V}{us:List Value}(r:Vals xs us):xs.length=us.length:=Paired.length r
theorem Vals.get:∀ {xs:List V} {us:List Value} {i:Nat} {x:V},Vals xs us->xs[i]? = some x->∃u,us[i]? = some u/\RelV x u
 | _,_,_,_,.nil,e=>by simp at e
 | _,_,0,_,.cons r _,e=>by simp at e;subst e;exact⟨_,rfl,r⟩
 | _,_,i+1,x,.cons _ t,e=>by
  obtain⟨u,h1,h2⟩:=Vals.get (i:=i) (x:=x) t (by simpa using e)
  exact⟨u,by simpa using h1,h2⟩
theorem Vals.append:∀ {xs ys:List V} {us ws:List Value},Vals xs us->Vals ys ws->Vals (xs++ys) (us++ws)
 | _,_,_,_,.nil,s=>s
 | _,_,_,_,.cons r t,s=>.cons r (Vals.append t s)
theorem Vals.take:∀ {xs:List V} {us:List Value} (n:Nat),Vals xs us->Vals (xs.take n) (us.take n)
 | _,_,0,_=>.nil
 | _,_,_+1,.nil=>.nil
 | _,_,n+1,.cons r t=>.cons r (Vals.take n t)
theorem Vals.drop:∀ {xs:List V} {us:List Value} (n:Nat),Vals xs us->Vals (xs.drop n) (us.drop n)
 | _,_,0,r=>r
 | _,_,_+1,.nil=>.nil
 | _,_,n+1,.cons _ t=>Vals.drop n t
def RelO:Option V->Option Value->Prop
 | some v,some u=>RelV v u
 | none,none=>True
 | _,_=>False
def KV {κ:Type}:List (κ×V)->List (κ×Value)->Prop:=Paired λ(p:κ×V) (q:κ×Value)=>p.1=q.1/\RelV p.2 q.2
def kV:Key->V
 | .inl i=>.int i
 | .inr x=>.str x
inductive HO where
 | lst (xs:List V)
 | tup (xs:List V)
 | dK (kvs:List (Key×V)) | dT (kvs:List (List Key×V))
 | set (S:Int->Bool) (n:Nat)
 | ins (C dx:Addr) (fs:List (Str×V))
 | own (x:Addr)
 | xd (fs:List (Str×V))
 | met (f x:Addr)
 | rng (lo hi:Int)
 | frz (o:Obj) (u:HO)
 | tbl (ps:Array Value)
 | ext (φ:Heap->Prop)
 | big (ps:List Addr) (φ:Program->World->Heap->Prop)
abbrev Hp:=Addr->Option HO
def upd (H:Hp)(a:Addr)(o:HO):Hp:=λb=>if b=a then some o else H b
theorem c0v {H:Hp}{a:Addr}{o:HO}:upd H a o a=some o:=by unfold upd;rw[if_pos rfl]
theorem b0l {H:Hp}{a b:Addr}{o:HO}(h:b≠a):upd H a o b=H b:=by unfold upd;rw[if_neg h]
theorem h1c {H:Hp}{a:Addr}{o u:HO}:upd (upd H a o) a u=upd H a u:=by
 funext b;unfold upd;split <;> rfl
theorem i1g {H:Hp}{a b:Addr}{o u:HO}(h:H a=some o)(h':H b=some u)(d:o≠u):a≠b:=by
 intro e;subst e;rw[h]at h';exact d (Option.some.inj h')
theorem b0y {H:Hp}{a b:Addr}{o:HO}(h:H a=some o)(h':H b=none):a≠b:=by
 intro e;subst e;rw[h]at h';cases h'
section
variable (P:Program)(w:World)
def e0s (H:Hp)(h:Heap)(a:Addr):HO->Prop
 | .lst xs=>xs.length<=sizeLine/\∃(its:List Value) (n:Nat),Vals xs its/\h.get? a=some {cls:=.type "list",data:=.seq its.toArray n}
 | .tup xs=>xs.length<=sizeLine/\∃its:List Value,Vals xs its/\IsTup h a its.toArray
 | .dK kvs=>kvs.length<=sizeLine/\(a==sysModules)=false/\∃vs,KV kvs vs/\h.DictOf (e0k P w) a vs
 | .dT kvs=>kvs.length<=sizeLine/\(a==sysModules)=false/\∃xs:List (List Key×Addr×Value),
   Paired (λ(p:List Key×V) (q:List Key×Addr×Value)=>p.1=q.1/\H q.2.1=some (.tup (p.1.map kV))/\RelV p.2 q.2.2) kvs xs /\
   ∃o es ep,h.get? a=some o/\o.ExactDict/\o.data = .dict es ep/\es.toList=xs.map (entryOfKey (tupleKind (e0k P w)))/\(xs.map (·.1)).Nodup
 | .set S n=>h.SetOf (intKind P w) a S n
 | .ins C dx fs=>H dx=some (.own a)/\fs.length<=1000/\dx≠a/\h.get? a=some (PySem.W.instObj C dx) /\
   ∃mA,h.Ns1 dx mA/\(∀f,RelO (fs.lookup f) (mA f))/\PySem.Within mA (fs.map (·.1))
 | .own _=>∃o,h.get? a=some o
 | .xd fs=>∃mA,h.Ns1 a mA/\∀f,RelO (fs.lookup f) (mA f)
 | .rng lo hi=>∃t u v,h.get? a=some {cls:=.type "range",data:=.fields #[.int lo t,.int hi u,.int 1 v]}
 | .frz o u=>h.get? a=some o/\e0s H h a u
 | .tbl ps=>h.get? a=some {cls:=.none,data:=.fields ps}
 | .met f x=>h.get? a=some (PySem.W.methodObj (.ref f) (.ref x))
 | .ext φ=>φ h/\(∃o,h.get? a=some o)/\∀h1 h2:Heap,φ h1->(∀o,h1.get? a=some o->h2.get? a=some o)->φ h2
 | .big ps φ=>(∀p∈ps,p≠a/\H p=some (.own a))/\φ P w h/\(∃o,h.get? a=some o)/\∀h1 h2:Heap,φ P w h1->(∀b o,(b=a∨b∈ps)->h1.get? b=some o->h2.get? b=some o)->φ P w h2
def HOk (H:Hp)(h:Heap):Prop:=∀a o,H a=some o->e0s P w H h a o
end
section
variable {P:Program}{w:World}{H H':Hp}{h h':Heap}{a:Addr}{o:HO}
theorem e0s.lt (x:e0s P w H h a o):a<h.objs.size:=by
 cases o with
 | lst xs=>obtain⟨_,_,_,_,e⟩:=x;exact Heap.lt_size e
 | tup xs=>obtain⟨_,_,_,p⟩:=x;exact p.lt
 | dK kvs=>obtain⟨_,_,_,_,o,_,_,e,_⟩:=x;exact Heap.lt_size e
 | dT kvs=>obtain⟨_,_,_,_,o,_,_,e,_⟩:=x;exact Heap.lt_size e
 | set S n=>obtain⟨o,_,_,_,e,_⟩:=x;exact Heap.lt_size e
 | ins C dx fs=>obtain⟨_,_,_,e,_⟩:=x;exact Heap.lt_size e
 | own y=>obtain⟨_,e⟩:=x;exact Heap.lt_size e
 | xd fs=>obtain⟨_,⟨_,_,_,e,_⟩,_⟩:=x;exact Heap.lt_size e
 | rng lo hi=>obtain⟨_,_,_,e⟩:=x;exact Heap.lt_size e
 | frz ob u=>obtain⟨e,_⟩:=x;exact Heap.lt_size e
 | tbl ps=>exact Heap.lt_size (show h.get? a=some _ from x)
 | met f y=>exact Heap.lt_size (show h.get? a=some _ from x)
 | ext φ=>obtain⟨_,⟨_,e⟩,_⟩:=x;exact Heap.lt_size e
 | big ps φ=>obtain⟨_,_,⟨_,e⟩,_⟩:=x;exact Heap.lt_size e
theorem Paired.mapP {α β:Type}{F G:α->β->Prop}:∀ {l₁:List α} {l₂:List β},Paired F l₁ l₂->(∀a b,F a b->G a b)->Paired G l₁ l₂
 | _,_,.nil,_=>.nil
 | _,_,.cons r t,f=>.cons (f _ _ r) (Paired.mapP t f)
theorem e0s.stay (x:e0s P w H h a o)(k:∀b u,(b=a∨H b=some (.own a))->h.get? b=some u->h'.get? b=some u)
  (ho:∀b,H b=some (.own a)->H' b=some (.own a)) (ht:∀b xs,H b=some (.tup xs)->H' b=some (.tup xs)):e0s P w H' h' a o:=by
 induction o with
 | lst xs=>obtain⟨z,its,n,r,e⟩:=x;exact⟨z,its,n,r,k _ _ (.inl rfl) e⟩
 | tup xs=>obtain⟨z,its,r,ob,e,c⟩:=x;exact⟨z,its,r,ob,k _ _ (.inl rfl) e,c⟩
 | dK kvs=>obtain⟨z,y,vs,r,ob,es,ep,e,c⟩:=x;exact⟨z,y,vs,r,ob,es,ep,k _ _ (.inl rfl) e,c⟩
 | dT kvs =>
  obtain⟨z,y,xs,r,ob,es,ep,e,c⟩:=x
  exact⟨z,y,xs,Paired.mapP r λp q z=>⟨z.1,ht _ _ z.2.1,z.2.2⟩,ob,es,ep,k _ _ (.inl rfl) e,c⟩
 | set S n=>obtain⟨ob,es,ep,t,e,c⟩:=x;exact⟨ob,es,ep,t,k _ _ (.inl rfl) e,c⟩
 | ins C dx fs =>
  obtain⟨d,z,ne,e,mA,⟨od,es,ep,e2,c⟩,r⟩:=x
  exact⟨ho _ d,z,ne,k _ _ (.inl rfl) e,mA,⟨od,es,ep,k _ _ (.inr d) e2,c⟩,r⟩
 | own y=>obtain⟨ob,e⟩:=x;exact⟨ob,k _ _ (.inl rfl) e⟩
 | xd fs=>obtain⟨mA,⟨od,es,ep,e,c⟩,r⟩:=x;exact⟨mA,⟨od,es,ep,k _ _ (.inl rfl) e,c⟩,r⟩
 | rng lo hi=>obtain⟨t,u,v,e⟩:=x;exact⟨t,u,v,k _ _ (.inl rfl) e⟩
 | frz ob u ih=>obtain⟨e,q⟩:=x;exact⟨k _ _ (.inl rfl) e,ih q⟩
 | tbl ps =>
  have e:h.get? a=some {cls:=.none,data:=.fields ps}:=x
  show h'.get? a=some {cls:=.none,data:=.fields ps}
  exact k a _ (.inl rfl) e
 | met f y =>
  have e:h.get? a=some (PySem.W.methodObj (.ref f) (.ref y)):=x
  show h'.get? a=some (PySem.W.methodObj (.ref f) (.ref y))
  exact k a _ (.inl rfl) e
 | ext φ=>obtain⟨p,⟨o,e⟩,st⟩:=x;exact⟨st _ _ p λo q=>k _ _ (.inl rfl) q,⟨o,k _ _ (.inl rfl) e⟩,st⟩
 | big ps φ=>obtain⟨ow,p,⟨o,e⟩,st⟩:=x;exact⟨λb hb=>⟨(ow b hb).1,ho _ (ow b hb).2⟩,st _ _ p λb o hb q=>k _ _ (hb.imp id λz=>(ow b z).2) q,⟨o,k _ _ (.inl rfl) e⟩,st⟩
theorem HOk.lt (x:HOk P w H h)(e:H a=some o):a<h.objs.size:=(x a o e).lt
theorem HOk.fresh (x:HOk P w H h)(e:h.objs.size<=a):H a=none:=by
 cases q:H a with
 | none=>rfl
 | some u=>exact absurd (Nat.lt_of_lt_of_le (x.lt q) e) (Nat.lt_irrefl _)
theorem HOk.kept (x:HOk P w H h)(k:∀b u,h.get? b=some u->h'.get? b=some u):HOk P w H h':=λa o e =>
 (x a o e).stay (λb u _ q=>k b u q) (λ_ q=>q) λ_ _ q=>q
theorem HOk.laid (x:HOk P w H h)(k:∀b u,h.get? b=some u->h'.get? b=some u)(hp:h.objs.size<=a)(new:e0s P w (upd H a o) h' a o):HOk P w (upd H a o) h':=λb u e=>by
 have hn:=x.fresh hp
 by_cases hb:b=a
 ·subst hb;rw[c0v]at e;cases e;exact new
 ·rw[b0l hb]at e
  exact(x b u e).stay (λc v _ q=>k c v q) (λc q=>by rw[b0l (b0y q hn)];exact q) λc xs q=>by rw[b0l (b0y q hn)];exact q
end
def Rd (H:Hp)(a:Addr)(u:HO):Prop:=H a=some u ∨ ∃o,H a=some (.frz o u)
theorem Rd.ok {P:Program}{w:World}{H:Hp}{h:Heap}{a:Addr}{u:HO}(r:Rd H a u)(x:HOk P w H h):e0s P w H h a u:=by
 rcases r with r | ⟨o,r⟩
 ·exact x a u r
 ·obtain⟨_,q⟩:=x a _ r
  exact q
def Mut:Option HO->Prop
 | some (.lst _)=>True
 | some (.dK _)=>True
 | some (.dT _)=>True
 | some (.set _ _)=>True
 | some (.ins _ _ _)=>True
 | some (.ext _)=>True
 | some (.big _ _)=>True
 | _=>False
section
variable {P:Program}{w:World}{H:Hp}{h h':Heap}{x e:Addr}{o':HO}
theorem HOk.write (ok:HOk P w H h)(mu:Mut (H x))(he:e=x∨H e=some (.own x))(k:∀b u,b≠e->h.get? b=some u->h'.get? b=some u)(heo:∃u,h'.get? e=some u)
  (new:e0s P w (upd H x o') h' x o'):HOk P w (upd H x o') h':=λb u q=>by
 have nown:∀c y,H c=some (.own y)->c≠x:=λc y r z=>by subst z;rw[r]at mu;exact mu
 have ntup:∀c xs,H c=some (.tup xs)->c≠x:=λc xs r z=>by subst z;rw[r]at mu;exact mu
 by_cases hb:b=x
 ·subst hb;rw[c0v]at q;cases q;exact new
 ·rw[b0l hb]at q
  by_cases hbe:b=e
  ·have q':H b=some (.own x):=by
    rcases he with z | z
    ·exact absurd (hbe.trans z) hb
    ·rw[hbe];exact z
   rw[q]at q';cases q'
   obtain⟨v,hv⟩:=heo
   exact⟨v,by rw[hbe];exact hv⟩
  ·refine(ok b u q).stay (λc v hc r=>k c v ?_ r) (λc r=>by rw[b0l (nown c b r)];exact r) λc xs r=>by rw[b0l (ntup c xs r)];exact r
   rcases hc with rfl | hc
   ·exact hbe
   ·rintro rfl
    rcases he with z | z
    ·exact nown c b hc z
    ·rw[hc]at z;cases z;exact hb rfl
end
structure Un (fs ex:List Addr)(H H':Hp)(h h':Heap):Prop where
 keep:∀b o,h.get? b=some o->H b=none->b∉fs->b∉ex->h'.get? b=some o
 slot:∀b o,h.get? b=some o->H b=none->b∈fs->b∉ex->∃sl,h'.get? b=some {o with slots:=sl}
 free:∀b o,h.get? b=some o->H b=none->b∉ex->H' b=none
 there:∀b o,h.get? b=some o->b∉ex->∃o',h'.get? b=some o'
 tups:∀b xs,H b=some (.tup xs)->H' b=some (.tup xs)
 frzs:∀b o u,H b=some (.frz o u)->H' b=some (.frz o u)
 tbls:∀b ps,H b=some (.tbl ps)->∃more,H' b=some (.tbl (ps++more))
section
variable {fs fs' ex ex':List Addr}{H H1 H2:Hp}{h h1 h2 h':Heap}{a x e:Addr}{o:HO}
theorem Un.any (u:Un fs ex H H1 h h1){b:Addr}{ob:Obj}(q:h.get? b=some ob)(n:H b=none)(hx:b∉ex):∃sl,h1.get? b=some {ob with slots:=sl}:=by
 by_cases hb:b∈fs
 ·exact u.slot b ob q n hb hx
 ·exact⟨ob.slots,u.keep b ob q n hb hx⟩
theorem Un.kept (k:∀b u,h.get? b=some u->h'.get? b=some u):Un fs ex H H h h' :=
 ⟨λb ob q _ _ _=>k b ob q,λb ob q _ _ _=>⟨ob.slots,k b ob q⟩,λ_ _ _ n _=>n,λb ob q _=>⟨ob,k b ob q⟩,λ_ _ q=>q,λ_ _ _ q=>q,λ_ ps q=>⟨#[],by rw[q];simp⟩⟩
theorem Un.refl:Un fs ex H H h h:=Un.kept λ_ _ q=>q
theorem Un.laid (k:∀b u,h.get? b=some u->h'.get? b=some u)(hp:h.objs.size<=a)(hn:H a=none):Un fs ex H (upd H a o) h h' where
 keep:=λb u q _ _ _=>k b u q
 slot:=λb u q _ _ _=>⟨u.slots,k b u q⟩
 free:=λb u q n _=>by rw[b0l (Nat.ne_of_lt (Nat.lt_of_lt_of_le (Heap.lt_size q) hp))];exact n
 there:=λb u q _=>⟨u,k b u q⟩
 tups:=λb xs q=>by rw[b0l (b0y q hn)];exact q
 frzs:=λb u xs q=>by rw[b0l (b0y q hn)];exact q
 tbls:=λb ps q=>⟨#[],by rw[b0l (b0y q hn),q];simp⟩
theorem Un.write (mu:Mut (H x))(he:e=x∨H e=some (.own x))(k:∀b u,b≠e->h.get? b=some u->h'.get? b=some u)(heo:∃u,h'.get? e=some u):Un fs ex H (upd H x o) h h':=by
 have hx:∀b,H b=none->b≠x:=λb n z=>by subst z;rw[n]at mu;exact mu
 have hb:∀b,H b=none->b≠e:=λb n z=>by
  subst z
  rcases he with r | r
  ·exact hx b n r
  ·rw[n]at r;cases r
 have hm:∀b u,H b=some u->¬Mut (some u)->b≠x:=λb u q nm z=>by subst z;rw[q]at mu;exact nm mu
 refine⟨λb u q n _ _=>k b u (hb b n) q,λb u q n _ _=>⟨u.slots,k b u (hb b n) q⟩,λb u q n _=>by rw[b0l (hx b n)];exact n,λb u q _=>?_,
  λb xs q=>by rw[b0l (hm b _ q λz=>z)];exact q,λb u xs q=>by rw[b0l (hm b _ q λz=>z)];exact q,λb ps q=>⟨#[],by rw[b0l (hm b _ q λz=>z),q];simp⟩⟩
 by_cases hbe:b=e
 ·subst hbe;exact heo
 ·exact⟨u,k b u hbe q⟩
end
def trk (h:Heap)(H:Hp):List Addr:=(List.range h.objs.size).filter λa=>(H a).isSome
def hidT (h:Heap)(H:Hp):Heap:=PySem.W.hideAll h (trk h H)
theorem b1t (h:Heap)(H:Hp):(hidT h H).objs.size=h.objs.size:=PySem.W.hideAll_size _ _
theorem e1v {h:Heap}{H:Hp}{b:Addr}{o:Obj}(e:h.get? b=some o)(n:H b=none):(hidT h H).get? b=some o :=
 PySem.W.hideAll_get _ e λhm=>by
  have q:(H b).isSome=true:=(List.mem_filter.mp hm).2
  rw[n]at q;simp at q
theorem i1d {h:Heap}{H:Hp}{b:Addr}{o:Obj}(e:(hidT h H).get? b=some o):h.get? b=some o/\H b=none:=by
 have e':h.get? b=some o:=PySem.W.of_hideAll (trk h H) e
 refine⟨e',?_⟩
 cases q:H b with
 | none=>rfl
 | some x =>
  have hm:b∈trk h H:=List.mem_filter.mpr ⟨List.mem_range.mpr (Heap.lt_size e'),by simp[q]⟩
  have z:(hidT h H).get? b=none:=PySem.W.hideAll_none (trk h H) hm
  rw[z]at e;cases e
structure Mod (K:PySem.W.Frag)(mg:Str->Option Value)(base:Heap):Prop where
 kin:K.In base
 glob:base.Ns mainGlobals mg
 blt:∃mb,base.Ns builtinsNs mb/\∀x:Str,x ≠ "__name__" -> mb x=bootBuiltins x
 nolimit:base.NoLimit
structure Cx where
 prog:Program
 w:World
 K:PySem.W.Frag
 mg:Str->Option Value
 base:Heap
 A:Around
 N:List Str
 s₀:Shared
 H₀:Hp
 env:Env
 outer:List Env
 stack:List Env
 ex:List Addr
 fn:Str->Bool
 calm:Bool
 pn:List (Addr×Obj)
 xe:Value->Shared->Prop
def frs (l:List Env):List Addr:=l.filterMap (·.frame)
abbrev Cx.fs (X:Cx):List Addr:=frs X.outer
def Vis (sc:Scope)(x:Str):Prop:=sc.names.lookup x=some .local∨sc.names.lookup x=some .cell∨sc.names.lookup x=some .free
def Loc (sc:Scope)(x:Str):Prop:=sc.names.lookup x=some .local∨sc.names.lookup x=some .cell
def Look (env:Env)(h:Heap)(m:Str->Option Value)(x:Str)(u:Value):Prop :=
 (env.kindOf x=some .local/\m x=some u)∨((env.kindOf x=some .cell∨env.kindOf x=some .free)/\∃c,env.cells.lookup x=some c/\h.IsCell c (some u))
structure Cx.Ok (X:Cx):Prop where
 mod:Mod X.K X.mg X.base
 kind:X.env.scope.kind = .function
 glob:X.env.globals=mainGlobals
 blt:X.env.builtins=builtinsNs
 above:X.s₀.heap.objs.size<=X.env.locals
 inj:∀x y c,X.env.cells.lookup x=some c->X.env.cells.lookup y=some c->x=y
 has:∀x,(X.env.kindOf x=some .cell∨X.env.kindOf x=some .free)->∃c,X.env.cells.lookup x=some c
 cab:∀x c,X.fn x=true->X.env.cells.lookup x=some c->X.s₀.heap.objs.size<=c
 hd:X.calm=true->X.A.handled=none
 frames:X.A.frames=some X.stack
 stk:X.stack=X.outer∨(X.stack=X.env::X.outer/\X.env.frame=some X.env.locals)
 exf:∀b∈X.ex,b≠X.env.locals/\∀x c,X.env.cells.lookup x=some c->c≠b
 bs:∀b o,X.base.get? b=some o->X.s₀.heap.get? b=some o/\X.H₀ b=none
 bsz:X.base.objs.size<=X.s₀.heap.objs.size
 noex:∀b o,X.base.get? b=some o->b∉X.ex
 exfs:∀b∈X.ex,b∉X.fs
 funs:X.s₀.heap.FunFrames X.base X.outer
 frf:∀b∈X.fs,X.H₀ b=none
structure Inv (X:Cx)(pins:List (Addr×Obj))(σ:List (Option V))(H:Hp)(s:Shared):Prop where
 ok:X.Ok
 os:s.os=X.s₀.os
 bare:AllBare s.gens
 base:Un X.fs X.ex X.H₀ H X.s₀.heap s.heap
 loc:∃m,s.heap.Ns X.env.locals m/\∀(i:Nat) (x:Str) (v:V),X.N[i]? = some x->σ[i]? = some (some v)->Vis X.env.scope x->∃u,RelV v u/\Look X.env s.heap m x u
 cell:∀x c,X.env.cells.lookup x=some c->∃v,s.heap.IsCell c v
 free:H X.env.locals=none
 freeC:∀x c,X.env.cells.lookup x=some c->H c=none
 pin:∀p∈X.pn++pins,s.heap.get? p.1=some p.2/\H p.1=none/\p.1≠X.env.locals/\p.1∉X.fs/\∀v,p.2.data ≠ .cell v
 hok:HOk X.prog X.w H s.heap
 len:σ.length=X.N.length
section
variable {X:Cx}{pins:List (Addr×Obj)}{σ:List (Option V)}{H H':Hp}{s:Shared}{h':Heap}
theorem Cx.Ok.nofr (ok:X.Ok){b:Addr}{o:Obj}(e:X.base.get? b=some o):b∉X.fs:=λhb=>by
 have:=(ok.funs.mem hb).1
 rw[e]at this;cases this
theorem Inv.bs (I:Inv X pins σ H s):∀b o,X.base.get? b=some o->s.heap.get? b=some o/\H b=none:=λb o e =>
 ⟨I.base.keep b o (I.ok.bs b o e).1 (I.ok.bs b o e).2 (I.ok.nofr e) (I.ok.noex b o e),I.base.free b o (I.ok.bs b o e).1 (I.ok.bs b o e).2 (I.ok.noex b o e)⟩
theorem Inv.bk (I:Inv X pins σ H s):∀b o,X.base.get? b=some o->s.heap.get? b=some o:=λb o e=>(I.bs b o e).1
theorem Inv.mod (I:Inv X pins σ H s):Mod X.K X.mg X.base:=I.ok.mod
theorem Inv.kIn (I:Inv X pins σ H s):X.K.In s.heap:=I.ok.mod.kin.keeps I.bk
theorem Inv.fr (I:Inv X pins σ H s):∃m,Fr X.base X.env.locals s.heap m :=
 let ⟨m,hn,_⟩:=I.loc
 ⟨m,hn,I.bk,Nat.le_trans I.ok.bsz I.ok.above⟩
theorem Inv.lt (I:Inv X pins σ H s):X.env.locals<s.heap.objs.size:=let ⟨_,hn,_⟩:=I.loc;hn.lt
theorem Inv.sz (I:Inv X pins σ H s):X.s₀.heap.objs.size<=s.heap.objs.size:=Nat.le_trans I.ok.above (Nat.le_of_lt I.lt)
theorem Inv.nofs (I:Inv X pins σ H s){a:Addr}(h:s.heap.objs.size<=a):a∉X.fs:=λhb=>by
 obtain⟨_,o,ho,_⟩:=I.ok.funs.mem hb
 exact absurd (Nat.lt_of_lt_of_le (Heap.lt_size ho) (Nat.le_trans I.sz h)) (Nat.lt_irrefl _)
theorem Inv.cne (I:Inv X pins σ H s):∀x c,X.env.cells.lookup x=some c->c≠X.env.locals:=λx c e z=>by
 obtain⟨v,o,ho,hd⟩:=I.cell x c e
 obtain⟨m,⟨o',es,ep,ho',hd',_⟩,_⟩:=I.loc
 rw[z,ho']at ho;cases ho;rw[hd']at hd;cases hd
theorem Inv.funs (I:Inv X pins σ H s):s.heap.FunFrames X.base X.outer:=by
 have all:∀(l:List Env),(∀b∈frs l,b∈X.fs)->X.s₀.heap.FunFrames X.base l->s.heap.FunFrames X.base l:=by
  intro l
  induction l with
  | nil=>intro _ _;trivial
  | cons env r ih =>
   intro hs hl
   obtain⟨hk,⟨L,o,hf,hn,ho,hd⟩,hr⟩:=hl
   have hL:L∈X.fs:=hs L (by unfold frs;rw[List.filterMap_cons,hf];exact List.mem_cons_self)
   obtain⟨sl,e⟩:=I.base.slot L o ho (I.ok.frf L hL) hL λz=>I.ok.exfs L z hL
   exact⟨hk,⟨L,_,hf,hn,e,hd⟩,ih (λb hb=>hs b (by unfold frs;rw[List.filterMap_cons,hf];exact List.mem_cons_of_mem _ hb)) hr⟩
 exact all X.outer (λ_ hb=>hb) I.ok.funs
theorem Inv.stack (I:Inv X pins σ H s):s.heap.FunFrames X.base X.stack:=by
 rcases I.ok.stk with e | ⟨e,hf⟩
 ·rw[e];exact I.funs
 ·rw[e]
  obtain⟨m,hn,_⟩:=I.loc
  refine .cons (by rw[I.ok.kind];decide) hf hn ?_ I.funs
  exact Heap.get?_none_of_le (Nat.le_trans I.ok.bsz I.ok.above)
theorem Inv.stkSub (I:Inv X pins σ H s):∀b∈frs X.stack,b∈X.env.locals::X.fs:=λb hb=>by
 rcases I.ok.stk with e | ⟨e,hf⟩
 ·rw[e]at hb;exact List.mem_cons_of_mem _ hb
 ·rw[e]at hb
  unfold frs at hb
  rw[List.filterMap_cons,hf]at hb
  exact hb
theorem Inv.stkFree (I:Inv X pins σ H s):∀b∈frs X.stack,H b=none:=λb hb=>by
 rcases List.mem_cons.mp (I.stkSub b hb)with e | hb
 ·rw[e];exact I.free
 ·obtain⟨_,o,ho,_⟩:=I.ok.funs.mem hb
  exact I.base.free b o ho (I.ok.frf b hb) λz=>I.ok.exfs b z hb
theorem Inv.step {g':Array GenState}{t':Nat}{d':Drawn}{ch:List Addr}(I:Inv X pins σ H s)
  (hch:∀b∈ch,(b∈X.ex∨X.s₀.heap.objs.size<=b)/\b≠X.env.locals/\(∀x c,X.env.cells.lookup x=some c->c≠b)/\∀p∈X.pn++pins,p.1≠b)
  (keep:∀b o,b≠X.env.locals->b∉X.fs->b∉ch->s.heap.get? b=some o->H b=none->h'.get? b=some o)
  (slot:∀b o,b≠X.env.locals->b∈X.fs->b∉ch->s.heap.get? b=some o->H b=none->∃sl,h'.get? b=some {o with slots:=sl}) (free:∀b o,b∉ch->s.heap.get? b=some o->H b=none->H' b=none)
  (there:∀b o,b∉ch->s.heap.get? b=some o->∃o',h'.get? b=some o')
  (tups:∀b xs,H b=some (.tup xs)->H' b=some (.tup xs)) (frzs:∀b o u,H b=some (.frz o u)->H' b=some (.frz o u)) (tbls:∀b ps,H b=some (.tbl ps)->∃more,H' b=some (.tbl (ps++more)))
  (ns:∀m,s.heap.Ns X.env.locals m->h'.Ns X.env.locals m) (hok:HOk X.prog X.w H' h') (hg:AllBare g') :
  Inv X pins σ H' {s with heap:=h',gens:=g',drawn:=d',toks:=t'}:=by
 have neL:∀b o,X.s₀.heap.get? b=some o->b≠X.env.locals:=λb o e=>Nat.ne_of_lt (Nat.lt_of_lt_of_le (Heap.lt_size e) I.ok.above)
 have neC:∀b o,X.s₀.heap.get? b=some o->b∉X.ex->b∉ch:=λb o e hx hb=>by
  rcases(hch b hb).1 with z | z
  ·exact hx z
  ·exact absurd (Nat.lt_of_lt_of_le (Heap.lt_size e) z) (Nat.lt_irrefl _)
 have cellK:∀x c,X.env.cells.lookup x=some c->∀v,s.heap.IsCell c v->h'.IsCell c v:=λx c e v ⟨o,ho,hd⟩=>by
  have nch:c∉ch:=λz=>(hch c z).2.2.1 x c e rfl
  by_cases hc:c∈X.fs
  ·obtain⟨sl,q⟩:=slot c o (I.cne x c e) hc nch ho (I.freeC x c e)
   exact⟨_,q,hd⟩
  ·exact⟨o,keep c o (I.cne x c e) hc nch ho (I.freeC x c e),hd⟩
 refine⟨I.ok,I.os,hg,⟨λb o e n hb hx=>?_,λb o e n hb hx=>?_,λb o e n hx=>?_,λb o e hx=>?_,λb xs e=>tups b xs (I.base.tups b xs e),λb o xs e=>frzs b o xs (I.base.frzs b o xs e),λb ps e=>?_⟩,?_,λx c e=>?_,?_,λx c e=>?_,λp hp=>?_,hok,I.len⟩
 ·exact keep b o (neL b o e) hb (neC b o e hx) (I.base.keep b o e n hb hx) (I.base.free b o e n hx)
 ·obtain⟨sl,e1⟩:=I.base.slot b o e n hb hx
  obtain⟨sl',e2⟩:=slot b _ (neL b o e) hb (neC b o e hx) e1 (I.base.free b o e n hx)
  exact⟨sl',e2⟩
 ·obtain⟨o',e1⟩:=I.base.there b o e hx
  exact free b o' (neC b o e hx) e1 (I.base.free b o e n hx)
 ·obtain⟨o',e1⟩:=I.base.there b o e hx
  exact there b o' (neC b o e hx) e1
 ·obtain⟨m1,e1⟩:=I.base.tbls b ps e
  obtain⟨m2,e2⟩:=tbls b _ e1
  exact⟨m1++m2,by rw[e2,Array.append_assoc]⟩
 ·obtain⟨m,hn,hl⟩:=I.loc
  refine⟨m,ns m hn,λi x v e1 e2 e3=>?_⟩
  obtain⟨u,r,l⟩:=hl i x v e1 e2 e3
  refine⟨u,r,?_⟩
  rcases l with l | ⟨k,c,e,z⟩
  ·exact .inl l
  ·exact .inr ⟨k,c,e,cellK x c e _ z⟩
 ·obtain⟨v,z⟩:=I.cell x c e
  exact⟨v,cellK x c e v z⟩
 ·obtain⟨m,⟨o,_,_,ho,_⟩,_⟩:=I.loc
  exact free _ o (λz=>(hch _ z).2.1 rfl) ho I.free
 ·obtain⟨v,o,ho,hd⟩:=I.cell x c e
  exact free c o (λz=>(hch c z).2.2.1 x c e rfl) ho (I.freeC x c e)
 ·obtain⟨e,n,ne,nf,d⟩:=I.pin p hp
  have nch:p.1∉ch:=λz=>(hch p.1 z).2.2.2 p hp rfl
  exact⟨keep p.1 p.2 ne nf nch e n,free p.1 p.2 nch e n,ne,nf,d⟩
theorem Inv.un {t':Nat}(I:Inv X pins σ H s)(u:Un X.fs [] H H' s.heap h')(hok:HOk X.prog X.w H' h'):Inv X pins σ H' {s with heap:=h',toks:=t'}:=by
 obtain⟨m,⟨o,es,ep,ho,r⟩,_⟩:=id I.loc
 obtain⟨sl,hL⟩:=u.any ho I.free (by simp)
 exact I.step (g':=s.gens) (d':=s.drawn) (ch:=[]) (λ_ z=>nomatch z) (λb o _ hb _ e n=>u.keep b o e n hb (by simp)) (λb o _ hb _ e n=>u.slot b o e n hb (by simp)) (λb o _ e n=>u.free b o e n (by simp)) (λb o _ e=>u.there b o e (by simp)) u.tups u.frzs u.tbls (λm' hm=>by
  obtain⟨o',es',ep',ho',r'⟩:=hm
  rw[ho]at ho';cases ho'
  exact⟨_,es',ep',hL,r'⟩) hok I.bare
theorem Inv.call {g':Array GenState}{t':Nat}{d':Drawn}{ch:List Addr}(I:Inv X pins σ H s)(u:Un (frs X.stack) ch H H' s.heap h')(hok:HOk X.prog X.w H' h')(hg:AllBare g')
  (hch:∀b∈ch,(b∈X.ex∨X.s₀.heap.objs.size<=b)/\b≠X.env.locals/\(∀x c,X.env.cells.lookup x=some c->c≠b)/\∀p∈X.pn++pins,p.1≠b) :
  Inv X pins σ H' {s with heap:=h',gens:=g',drawn:=d',toks:=t'}:=by
 obtain⟨m,⟨o,es,ep,ho,r⟩,_⟩:=id I.loc
 obtain⟨sl,hL⟩:=u.any ho I.free λz=>(hch _ z).2.1 rfl
 exact I.step (ch:=ch) hch (λb o hL hb hc e n=>u.keep b o e n (λz=>(List.mem_cons.mp (I.stkSub b z)).elim hL hb) hc) (λb o _ _ hc e n=>u.any e n hc) (λb o hc e n=>u.free b o e n hc) (λb o hc e=>u.there b o e hc) u.tups u.frzs u.tbls (λm' hm=>by
  obtain⟨o',es',ep',ho',r'⟩:=hm
  rw[ho]at ho';cases ho'
  exact⟨_,es',ep',hL,r'⟩) hok hg
theorem Inv.turned {t':Nat}{it:Addr}(I:Inv X pins σ H s)(k:∀b o,b≠it->s.heap.get? b=some o->h'.get? b=some o)(hn:H it=none)(hL:it≠X.env.locals)
  (h1:it∈X.ex∨X.s₀.heap.objs.size<=it) (h2:∀x c,X.env.cells.lookup x=some c->c≠it) (h3:∀p∈X.pn++pins,p.1≠it):Inv X pins σ H {s with heap:=h',toks:=t'}:=by
 have nit:∀b u,H b=some u->b≠it:=λb u e z=>by rw[z,hn]at e;cases e
 refine I.step (g':=s.gens) (d':=s.drawn) (ch:=[it]) (λb hb=>?_) (λb o _ _ hc e _=>k b o (λz=>hc (by simp[z])) e) (λb o _ _ hc e _=>⟨o.slots,k b o (λz=>hc (by simp[z])) e⟩) (λ_ _ _ _ n=>n)
  (λb o hc e=>⟨o,k b o (λz=>hc (by simp[z])) e⟩) (λ_ _ e=>e) (λ_ _ _ e=>e) (λb ps e=>⟨#[],by rw[e];simp⟩) (λm hm=>?_) (λb u e=>?_) I.bare
 ·have e:b=it:=by simpa using hb
  subst e
  exact⟨h1,hL,h2,h3⟩
 ·obtain⟨o,es,ep,ho,r⟩:=hm
  exact⟨o,es,ep,k _ o (Ne.symm hL) ho,r⟩
 ·refine(I.hok b u e).stay (λc v hc q=>k c v ?_ q) (λ_ q=>q) λ_ _ q=>q
  rcases hc with z | z
  ·rw[z];exact nit b u e
  ·exact nit c _ z
theorem Inv.tok (I:Inv X pins σ H s)(t:Nat):Inv X pins σ H {s with toks:=t}:=I.un (h':=s.heap) (t':=t) Un.refl I.hok
theorem Inv.kept {t':Nat}(I:Inv X pins σ H s)(k:∀b u,s.heap.get? b=some u->h'.get? b=some u):Inv X pins σ H {s with heap:=h',toks:=t'}:=I.un (Un.kept k) (I.hok.kept k)
theorem Inv.laid {a:Addr}{o:HO}{t':Nat}(I:Inv X pins σ H s)(k:∀b u,s.heap.get? b=some u->h'.get? b=some u)(hp:s.heap.objs.size<=a)(new:e0s X.prog X.w (upd H a o) h' a o) :
  Inv X pins σ (upd H a o) {s with heap:=h',toks:=t'}:=I.un (Un.laid k hp (I.hok.fresh hp)) (I.hok.laid k hp new)
theorem Inv.write {x e:Addr}{o:HO}{t':Nat}(I:Inv X pins σ H s)(mu:Mut (H x))(he:e=x∨H e=some (.own x))(k:∀b u,b≠e->s.heap.get? b=some u->h'.get? b=some u)(heo:∃u,h'.get? e=some u)
  (new:e0s X.prog X.w (upd H x o) h' x o):Inv X pins σ (upd H x o) {s with heap:=h',toks:=t'}:=I.un (Un.write mu he k heo) (I.hok.write mu he k heo new)
theorem Inv.weak {σ':List (Option V)}(I:Inv X pins σ H s)(hl:σ'.length=σ.length)(w:∀(i:Nat) v,σ'[i]? = some (some v)->σ[i]? = some (some v)):Inv X pins σ' H s :=
 ⟨I.ok,I.os,I.bare,I.base,let ⟨m,hn,hl'⟩:=I.loc;⟨m,hn,λi x v e1 e2 e3=>hl' i x v e1 (w i v e2) e3⟩,I.cell,I.free,I.freeC,I.pin,I.hok,hl.trans I.len⟩
theorem Inv.pins_of {pins':List (Addr×Obj)}(I:Inv X pins σ H s)(h:∀p∈pins',s.heap.get? p.1=some p.2/\H p.1=none/\p.1≠X.env.locals/\p.1∉X.fs/\∀v,p.2.data ≠ .cell v):Inv X pins' σ H s :=
 ⟨I.ok,I.os,I.bare,I.base,I.loc,I.cell,I.free,I.freeC,λp hp=>(List.mem_append.mp hp).elim (λz=>I.pin p (List.mem_append_left _ z)) (h p),I.hok,I.len⟩
theorem x0j {N:List Str}(hN:N.Nodup){i j:Nat}{x:Str}(a:N[i]? = some x)(b:N[j]? = some x):i=j:=by
 obtain⟨h1,e1⟩:=List.getElem?_eq_some_iff.mp a
 obtain⟨h2,e2⟩:=List.getElem?_eq_some_iff.mp b
 exact(List.getElem_inj hN).mp (e1.trans e2.symm)
theorem n0q {M:Model}{A:Around}{E:Value->Shared->Prop}{i:Nat}{x:Str}{v:V}{u:Value}{Q:Unit->Shared->Prop}(I:Inv X pins σ H s)(hN:X.N.Nodup)(hi:X.N[i]? = some x)(hx:Loc X.env.scope x)(r:RelV v u)
  (h:∀s',Inv X pins (σ.set i (some v)) H s'->(∃a,Heap.SameBut a s.heap s'.heap/\(a=X.env.locals∨X.env.cells.lookup x=some a))->Q () s') (hf:X.fn x=true∨X.env.scope.names.lookup x=some .local:=by first | exact .inl rfl | exact .inr rfl | assumption):wpAny M A (storeName X.env x u) Q E s:=by
 obtain⟨m,hn,hl⟩:=id I.loc
 have hcls:(X.env.scope.kind == .class||(X.env.scope.kind == .module&&X.env.locals != X.env.globals))=false:=by rw[I.ok.kind];rfl
 have hiσ:i<σ.length:=by rw[I.len];exact(List.getElem?_eq_some_iff.mp hi).1
 have cne:=I.cne
 have tracked:∀ {a:Addr} {h':Heap},(∃o,s.heap.get? a=some o/\H a=none)->Heap.SameBut a s.heap h'->HOk X.prog X.w H h':=λ{a h'} ha hs b ob e=>by
  obtain⟨_,_,hfree⟩:=ha
  refine(I.hok b ob e).stay (λc w' hc q=>(hs.2 c ?_).trans q) (λ_ q=>q) λ_ _ q=>q
  rintro rfl
  rcases hc with rfl | hc
  ·rw[hfree]at e;cases e
  ·rw[hfree]at hc;cases hc
 rcases hx with hk | hk
 ·refine wpAny_storeName_local hk hn (λh' hn' hs=>?_) hcls
  obtain⟨oL,_,_,hoL,_⟩:=id hn
  refine h _ ⟨I.ok,I.os,I.bare,⟨λb o e n hb hx=>?_,λb o e n hb hx=>?_,I.base.free,λb o e hx=>?_,I.base.tups,I.base.frzs,I.base.tbls⟩,⟨_,hn',λj y v' e1 e2 e3=>?_⟩,λy c e=>?_,I.free,I.freeC,λp hp=>?_,tracked ⟨oL,hoL,I.free⟩ hs,by simpa using I.len⟩ ⟨_,hs,.inl rfl⟩
  ·exact(hs.2 b (Nat.ne_of_lt (Nat.lt_of_lt_of_le (Heap.lt_size e) I.ok.above))).trans (I.base.keep b o e n hb hx)
  ·obtain⟨sl,e1⟩:=I.base.slot b o e n hb hx
   exact⟨sl,(hs.2 b (Nat.ne_of_lt (Nat.lt_of_lt_of_le (Heap.lt_size e) I.ok.above))).trans e1⟩
  ·obtain⟨o',e1⟩:=I.base.there b o e hx
   exact⟨o',(hs.2 b (Nat.ne_of_lt (Nat.lt_of_lt_of_le (Heap.lt_size e) I.ok.above))).trans e1⟩
  ·by_cases hj:j=i
   ·subst hj
    rw[hi]at e1;cases e1
    rw[List.getElem?_set_self hiσ]at e2
    cases e2
    exact⟨u,r,.inl ⟨hk,by simp⟩⟩
   ·rw[List.getElem?_set_ne (Ne.symm hj)]at e2
    obtain⟨u',r',q⟩:=hl j y v' e1 e2 e3
    refine⟨u',r',?_⟩
    rcases q with⟨k,e⟩ | ⟨k,c,e,z⟩
    ·refine .inl ⟨k,?_⟩
     have:y≠x:=λe=>hj (x0j hN e1 (e▸hi))
     simp[this,e]
    ·exact .inr ⟨k,c,e,z.sameBut hs (cne y c e)⟩
  ·obtain⟨w',z⟩:=I.cell y c e
   exact⟨w',z.sameBut hs (cne y c e)⟩
  ·obtain⟨e,n,ne,nf,d⟩:=I.pin p hp
   exact⟨(hs.2 p.1 ne).trans e,n,ne,nf,d⟩
 ·have hfn:X.fn x=true:=by
   rcases hf with z | z
   ·exact z
   ·rw[z]at hk;cases hk
  obtain⟨c,hc⟩:=I.ok.has x (.inl hk)
  obtain⟨w',z⟩:=I.cell x c hc
  refine wpAny_storeName_cell I.ok.kind hk hc z (λh' hc' hs=>?_)
  obtain⟨oc,hoc,hocd⟩:=id z
  refine h {s with heap:=h'} ⟨I.ok,I.os,I.bare,⟨λb o e n hb hx=>?_,λb o e n hb hx=>?_,I.base.free,λb o e hx=>?_,I.base.tups,I.base.frzs,I.base.tbls⟩,⟨m,hn.sameBut hs (Ne.symm (cne x c hc)),λj y v' e1 e2 e3=>?_⟩,λy c' e=>?_,I.free,I.freeC,λp hp=>?_,tracked ⟨oc,hoc,I.freeC x c hc⟩ hs,by simpa using I.len⟩ ⟨c,hs,.inr hc⟩
  ·exact(hs.2 b (Nat.ne_of_lt (Nat.lt_of_lt_of_le (Heap.lt_size e) (I.ok.cab x c hfn hc)))).trans (I.base.keep b o e n hb hx)
  ·obtain⟨sl,e1⟩:=I.base.slot b o e n hb hx
   exact⟨sl,(hs.2 b (Nat.ne_of_lt (Nat.lt_of_lt_of_le (Heap.lt_size e) (I.ok.cab x c hfn hc)))).trans e1⟩
  ·obtain⟨o',e1⟩:=I.base.there b o e hx
   exact⟨o',(hs.2 b (Nat.ne_of_lt (Nat.lt_of_lt_of_le (Heap.lt_size e) (I.ok.cab x c hfn hc)))).trans e1⟩
  ·by_cases hj:j=i
   ·subst hj
    rw[hi]at e1;cases e1
    rw[List.getElem?_set_self hiσ]at e2
    cases e2
    exact⟨u,r,.inr ⟨.inl hk,c,hc,hc'⟩⟩
   ·rw[List.getElem?_set_ne (Ne.symm hj)]at e2
    obtain⟨u',r',q⟩:=hl j y v' e1 e2 e3
    refine⟨u',r',?_⟩
    rcases q with q | ⟨k,c',e,z'⟩
    ·exact .inl q
    ·refine .inr ⟨k,c',e,z'.sameBut hs ?_⟩
     rintro rfl
     exact hj (x0j hN e1 (I.ok.inj _ _ _ e hc▸hi))
  ·by_cases hcc:c'=c
   ·subst hcc;exact⟨_,hc'⟩
   ·obtain⟨w2,z2⟩:=I.cell y c' e
    exact⟨w2,z2.sameBut hs hcc⟩
  ·obtain⟨e,n,ne,nf,d⟩:=I.pin p hp
   refine⟨(hs.2 p.1 ?_).trans e,n,ne,nf,d⟩
   intro q
   rw[q,hoc]at e
   have q':oc=p.2:=Option.some.inj e
   exact d w' (by rw[<- q'];exact hocd)
theorem q0n {M:Model}{A:Around}{E:Value->Shared->Prop}{i:Nat}{x:Str}{v:V}{u:Value}{Q:Unit->Shared->Prop}(I:Inv X pins σ H s)(hN:X.N.Nodup)(hi:X.N[i]? = some x)(hx:Loc X.env.scope x)(r:RelV v u)
  (h:∀s',Inv X pins (σ.set i (some v)) H s'->Q () s') (hf:X.fn x=true∨X.env.scope.names.lookup x=some .local:=by first | exact .inl rfl | exact .inr rfl | assumption):wpAny M A (storeName X.env x u) Q E s :=
 n0q I hN hi hx r (λs' I' _=>h s' I') hf
theorem Inv.call' {s':Shared}{ch:List Addr}(I:Inv X pins σ H s)(ho:s'.os=s.os)(u:Un (frs X.stack) ch H H' s.heap s'.heap)(hok:HOk X.prog X.w H' s'.heap)(hg:AllBare s'.gens)
  (hch:∀b∈ch,(b∈X.ex∨X.s₀.heap.objs.size<=b)/\b≠X.env.locals/\(∀x c,X.env.cells.lookup x=some c->c≠b)/\∀p∈X.pn++pins,p.1≠b):Inv X pins σ H' s':=by
 obtain⟨h',g',d',t',o'⟩:=s'
 have e:o'=s.os:=ho
 subst e
 exact I.call (g':=g') (t':=t') (d':=d') u hok hg hch
end
abbrev XK:=Value->Option Addr->Hp->Prop
abbrev St:=List (Option V)
abbrev VK:=V->Hp->Prop
abbrev TE:=St->Hp->VK->Prop
abbrev TT:=St->Hp->(Bool->Hp->Prop)->Prop
abbrev TA:=St->Hp->(List V->Hp->Prop)->Prop
structure Ends where
 nx:St->Hp->Prop
 rt:VK
 bk:St->Hp->Prop:=λ_ _=>False
 ct:St->Hp->Prop:=λ_ _=>False
abbrev TS:=Ends->St->Hp->Prop
def EP (X:Cx)(pins:List (Addr×Obj))(σ:St)(Q:VK)(u:Value)(s':Shared):Prop:=∃v H',Inv X pins σ H' s'/\RelV v u/\Q v H'
def TP (X:Cx)(pins:List (Addr×Obj))(σ:St)(Q:Bool->Hp->Prop)(b:Bool)(s':Shared):Prop:=∃H',Inv X pins σ H' s'/\Q b H'
def AP (X:Cx)(pins:List (Addr×Obj))(σ:St)(Q:List V->Hp->Prop)(us:List Value)(s':Shared):Prop:=∃vs H',Inv X pins σ H' s'/\Vals vs us/\Q vs H'
def SP (X:Cx)(pins:List (Addr×Obj))(D:Ends)(f:Flow)(s':Shared):Prop :=
 match f with
 | .next=>∃ σ' H',Inv X pins σ' H' s'/\D.nx σ' H'
 | .brk=>∃ σ' H',Inv X pins σ' H' s'/\D.bk σ' H'
 | .cont=>∃ σ' H',Inv X pins σ' H' s'/\D.ct σ' H'
 | .ret u=>∃v σ' H',Inv X pins σ' H' s'/\RelV v u/\D.rt v H'
def PE (X:Cx)(e:Expr)(t:TE):Prop :=
 ∀(pins:List (Addr×Obj)) (s:Shared) (σ:St) (H:Hp) (Q:VK),Inv X pins σ H s->t σ H Q->wpAny (model X.prog X.w) X.A (eval e X.env) (EP X pins σ Q) X.xe s
def PT (X:Cx)(e:Expr)(t:TT):Prop :=
 ∀(pins:List (Addr×Obj)) (s:Shared) (σ:St) (H:Hp) (Q:Bool->Hp->Prop),Inv X pins σ H s->t σ H Q->wpAny (model X.prog X.w) X.A (isTrue e X.env (eval e X.env)) (TP X pins σ Q) X.xe s
def PW (X:Cx)(e:Expr)(t:TT):Prop :=
 ∀(whole:Sem Value) (pins:List (Addr×Obj)) (s:Shared) (σ:St) (H:Hp) (Q:Bool->Hp->Prop),Inv X pins σ H s->t σ H Q->wpAny (model X.prog X.w) X.A (isTrue e X.env whole) (TP X pins σ Q) X.xe s
theorem PW.pt {X:Cx}{e:Expr}{t:TT}(h:PW X e t):PT X e t:=h _
def PA (X:Cx)(es:List Expr)(t:TA):Prop :=
 ∀(pos:Pos) (pins:List (Addr×Obj)) (s:Shared) (σ:St) (H:Hp) (Q:List V->Hp->Prop),Inv X pins σ H s->t σ H Q->wpAny (model X.prog X.w) X.A (spliced (backTo pos (starEach es X.env))) (AP X pins σ Q) X.xe s
def PS (X:Cx)(st:Stmt)(t:TS):Prop :=
 ∀(pins:List (Addr×Obj)) (s:Shared) (σ:St) (H:Hp) (D:Ends),Inv X pins σ H s->t D σ H->wpAny (model X.prog X.w) X.A (exec st X.env) (SP X pins D) X.xe s
def PSs (X:Cx)(st:List Stmt)(t:TS):Prop :=
 ∀(pins:List (Addr×Obj)) (s:Shared) (σ:St) (H:Hp) (D:Ends),Inv X pins σ H s->t D σ H->wpAny (model X.prog X.w) X.A (execs st X.env) (SP X pins D) X.xe s
theorem thn {α:Type}{t:Sem α}{Q Q':α->Shared->Prop}{M:Model}{A:Around}{E:Value->Shared->Prop}{s:Shared}(h:wpAny M A t Q E s)(hQ:∀a s,Q a s->Q' a s):wpAny M A t Q' E s:=wpAny_mono h hQ λ_ _ x=>x
section
variable {X:Cx}
def tVar (i:Nat):TE:=λσ H Q=>∃v,σ[i]? = some (some v)/\Q v H
def tC (v:V):TE:=λ_ H Q=>Q v H
theorem k1x {i:Nat}{x:Str}{pos:Pos}(hN:X.N[i]? = some x)(hv:Vis X.env.scope x)(hd:(x==("__debug__" : Str))=false:=by decide)(hcd:(x==("__classdict__" : Str))=false:=by decide):PE X (.Name x pos) (tVar i):=by
 intro pins s σ H Q I h
 obtain⟨v,e,h⟩:=h
 obtain⟨m,hn,hl⟩:=I.loc
 obtain⟨u,r,l⟩:=hl i x v hN e hv
 have fin:EP X pins σ Q u s:=⟨v,H,I,r,h⟩
 rcases l with⟨hk,hm⟩ | ⟨hk,c,hc,hcell⟩
 ·exact wpAny_Name (wpAny_loadName_local I.ok.kind hk hn hm fin) hd
 ·rcases hk with hk | hk
  ·exact wpAny_Name (wpAny_loadName_cell I.ok.kind hk hc hcell fin) hd
  ·exact wpAny_Name (wpAny_loadName_free I.ok.kind hk hc hcell fin hcd) hd
theorem a0j {i j pos}:PE X (.Constant (.int i) j pos) (tC (.int i)):=λ_ _ _ H _ I h=>wpAny_Constant_int ⟨.int i,H,I.tok _,⟨_,rfl⟩,h⟩
theorem j0z {b j pos}:PE X (.Constant (.bool b) j pos) (tC (.bl b)):=λ_ _ _ H _ I h=>Constant_bool ⟨.bl b,H,I,rfl,h⟩
theorem i0z {j pos}:PE X (.Constant .none j pos) (tC .non):=λ_ _ _ H _ I h=>Constant_none ⟨.non,H,I,rfl,h⟩
theorem c0x {x j pos}:PE X (.Constant (.str x) j pos) (tC (.str x)):=λ_ _ _ H _ I h=>Calls.Constant_str ⟨.str x,H,I.tok _,⟨_,rfl⟩,h⟩
def Gl (X:Cx)(x:Str):Prop:=X.env.kindOf x=some .globalImplicit
theorem i1n {E:Value->Shared->Prop}{pins:List (Addr×Obj)}{s:Shared}{σ:St}{H:Hp}{x:Str}{u:Value}{pos:Pos}{Q:Value->Shared->Prop}(I:Inv X pins σ H s)(hg:Gl X x)(hm:X.mg x=some u)(h:Q u s)
  (hd:(x==("__debug__" : Str))=false:=by decide):wpAny (model X.prog X.w) X.A (eval (.Name x pos) X.env) Q E s :=
 Calls.Name_function_global I.ok.kind hg (Calls.loadGlobal_global (by rw[I.ok.glob];exact I.mod.glob.keeps I.bk) hm h) hd
theorem j0d {E:Value->Shared->Prop}{pins:List (Addr×Obj)}{s:Shared}{σ:St}{H:Hp}{x:Str}{u:Value}{pos:Pos}{Q:Value->Shared->Prop}(I:Inv X pins σ H s)(hg:Gl X x)(hm:X.mg x=none)(hv:bootBuiltins x=some u)(h:Q u s)
  (hn:x ≠ "__name__" := by decide) (hd:(x==("__debug__" : Str))=false:=by decide):wpAny (model X.prog X.w) X.A (eval (.Name x pos) X.env) Q E s:=by
 obtain⟨mb,h1,h2⟩:=I.mod.blt
 exact Calls.Name_function_global I.ok.kind hg (Calls.loadGlobal_builtin (by rw[I.ok.glob];exact I.mod.glob.keeps I.bk) hm (by rw[I.ok.blt];exact h1.keeps I.bk) ((h2 x hn).trans hv) h) hd
theorem h1z {x:Str}{v:V}{u:Value}{pos:Pos}(hg:Gl X x)(hm:X.mg x=none)(hv:bootBuiltins x=some u)(r:RelV v u)(hn:x ≠ "__name__" := by decide)(hd:(x==("__debug__" : Str))=false:=by decide):PE X (.Name x pos) (tC v) :=
 λ_ _ _ H _ I h=>j0d I hg hm hv ⟨v,H,I,r,h⟩ hn hd
variable {a b:Expr}{ta tb:TE}{pos:Pos}
def tB (t:TE):TT:=λσ H Q=>t σ H λx H1=>∃c,x = .bl c/\Q c H1
theorem g0d {e:Expr}{t:TE}(h:PE X e t)(he:∀whole,isTrue e X.env whole=(do let v <- whole;standAt e.pos;holding [v] (truthy v)):=by intro _;rfl):PT X e (tB t):=by
 intro pins s σ H Q I hw
 refine isTrue_plain (thn (h pins s σ H _ I hw) λv s1 ⟨x,H1,I1,r1,q1⟩=>?_) (he _)
 obtain⟨d,rfl,q⟩:=q1
 cases r1
 exact wpAny_truthy_bool ⟨H1,I1,q⟩
variable {tA tB':TT}{rest:List Expr}
def tAnd (t u:TT):TT:=λσ H Q=>t σ H λc H1=>if c=true then u σ H1 Q else Q false H1
def tOr (t u:TT):TT:=λσ H Q=>t σ H λc H1=>if c=true then Q true H1 else u σ H1 Q
def tNot (t:TT):TT:=λσ H Q=>t σ H λc H1=>Q (!c) H1
theorem i0d (ha:PT X a tA):PW X (.BoolOp .And [a] pos) tA:=by
 intro wh pins s σ H Q I h
 refine isTrue_and (thn (ha pins s σ H Q I h) λc s1 e=>?_)
 cases c with
 | true=>exact isTrue_and_nil e
 | false=>exact e
theorem h0n (ha:PT X a tA):PW X (.BoolOp .Or [a] pos) tA:=by
 intro wh pins s σ H Q I h
 refine isTrue_or (thn (ha pins s σ H Q I h) λc s1 e=>?_)
 cases c with
 | false=>exact isTrue_or_nil e
 | true=>exact e
theorem k0x (ha:PT X a tA)(hb:PW X (.BoolOp .And (b::rest) pos) tB'):PW X (.BoolOp .And (a::b::rest) pos) (tAnd tA tB'):=by
 intro wh pins s σ H Q I h
 refine isTrue_and (thn (ha pins s σ H _ I h) λc s1 ⟨H1,I1,q1⟩=>?_)
 cases c with
 | true=>exact hb wh pins s1 σ H1 Q I1 q1
 | false=>exact⟨H1,I1,q1⟩
theorem i0x (ha:PT X a tA)(hb:PW X (.BoolOp .Or (b::rest) pos) tB'):PW X (.BoolOp .Or (a::b::rest) pos) (tOr tA tB'):=by
 intro wh pins s σ H Q I h
 refine isTrue_or (thn (ha pins s σ H _ I h) λc s1 ⟨H1,I1,q1⟩=>?_)
 cases c with
 | true=>exact⟨H1,I1,q1⟩
 | false=>exact hb wh pins s1 σ H1 Q I1 q1
theorem f0l (ha:PT X a tA):PT X (.UnaryOp .Not a pos) (tNot tA):=by
 intro pins s σ H Q I h
 exact isTrue_not (ha pins s σ H (λc H1=>Q (!c) H1) I h)
def k1g (ta tb:TE):TE:=λσ H Q=>ta σ H λx H1=>∃c,x = .bl c/\if c=true then tb σ H1 Q else Q (.bl false) H1
def k1e (ta:TE):TE:=λσ H Q=>ta σ H λx H1=>∃c,x = .bl c/\Q (.bl (!c)) H1
theorem n0t {op}{t:TE}(h:PE X a t):PE X (.BoolOp op [a] pos) t:=λpins s σ H Q I hw=>BoolOp_one (h pins s σ H Q I hw)
theorem k0b (ha:PE X a ta)(hb:PE X (.BoolOp .And (b::rest) pos) tb):PE X (.BoolOp .And (a::b::rest) pos) (k1g ta tb):=by
 intro pins s σ H Q I h
 refine BoolOp_and (thn (ha pins s σ H _ I h) λv s1 ⟨x,H1,I1,r1,q1⟩=>?_)
 obtain⟨c,rfl,q1⟩:=q1
 cases r1
 refine wpAny_truthy_bool ?_
 cases c with
 | true=>exact hb pins s1 σ H1 Q I1 q1
 | false=>exact⟨.bl false,H1,I1,rfl,q1⟩
theorem g1d (ha:PE X a ta):PE X (.UnaryOp .Not a pos) (k1e ta):=by
 intro pins s σ H Q I h
 refine UnaryOp_ (thn (ha pins s σ H _ I h) λv s1 ⟨x,H1,I1,r1,q1⟩=>?_)
 obtain⟨c,rfl,q1⟩:=q1
 cases r1
 exact not_of (wpAny_truthy_bool ⟨.bl (!c),H1,I1,rfl,q1⟩)
def tIf (t:TT)(ta tb:TE):TE:=λσ H Q=>t σ H λc H1=>if c=true then ta σ H1 Q else tb σ H1 Q
theorem e1h {c:Expr}(hc:PT X c tA)(ha:PE X a ta)(hb:PE X b tb):PE X (.IfExp c a b pos) (tIf tA ta tb):=by
 intro pins s σ H Q I h
 refine wpAny_IfExp (thn (hc pins s σ H _ I h) λd s1 ⟨H1,I1,q1⟩=>?_)
 cases d with
 | true=>exact ha pins s1 σ H1 Q I1 q1
 | false=>exact hb pins s1 σ H1 Q I1 q1
end
def SqL (K:PySem.W.Frag)(H:Hp)(a:Addr)(xs:List V):Prop :=
 Rd H a (.lst xs) ∨
  ∃(o:Obj) (its:Array Value) (n:Nat),K.lookup a=some o/\o.cls = .type "list" /\ o.dict=none/\o.data = .seq its n/\its.size<=sizeLine/\Vals xs its.toList
def SqT (K:PySem.W.Frag)(H:Hp)(a:Addr)(xs:List V):Prop :=
 Rd H a (.tup xs) ∨
  ∃(o:Obj) (its:Array Value) (n:Nat),K.lookup a=some o/\o.cls = .type "tuple" /\ o.data = .seq its n/\its.size<=sizeLine/\Vals xs its.toList
def absV:Value->Option V
 | .none=>some .non
 | .bool b=>some (.bl b)
 | .int i _=>some (.int i)
 | .str x _=>some (.str x)
 | .bytes b _=>some (.byt b)
 | .float b _=>some (.flt b)
 | .ref a=>some (.ref a)
 | .type n=>some (.ty n)
 | _=>none
theorem RelV.abs {x:V}{u:Value}(r:RelV x u):absV u=some x:=by
 cases x with
 | non=>cases r;rfl
 | bl _=>cases r;rfl
 | int _=>obtain⟨t,rfl⟩:=r;rfl
 | str _=>obtain⟨t,rfl⟩:=r;rfl
 | byt _=>obtain⟨t,rfl⟩:=r;rfl
 | flt _=>obtain⟨t,rfl⟩:=r;rfl
 | ref _=>cases r;rfl
 | ty _=>cases r;rfl
theorem RelV.inj {x y:V}{u:Value}(r:RelV x u)(q:RelV y u):x=y:=Option.some.inj (r.abs.symm.trans q.abs)
theorem Vals.inj:∀ {xs ys:List V} {us:List Value},Vals xs us->Vals ys us->xs=ys
 | _,_,_,.nil,.nil=>rfl
 | _,_,_,.cons r t,.cons r' t'=>by rw[r.inj r',Vals.inj t t']
section
variable {X:Cx}{pins:List (Addr×Obj)}{σ:St}{H:Hp}{s:Shared}{a:Addr}{xs ys:List V}
theorem SqL.of {K:PySem.W.Frag}(h:H a=some (.lst xs)):SqL K H a xs:=.inl (.inl h)
theorem SqT.of {K:PySem.W.Frag}(h:H a=some (.tup xs)):SqT K H a xs:=.inl (.inl h)
theorem Inv.list (I:Inv X pins σ H s)(h:SqL X.K H a xs):∃its:List Value,Vals xs its/\PlainL s.heap a its.toArray/\xs.length<=sizeLine:=by
 rcases h with h | ⟨o,its,n,hk,hc,hd,hs,hz,r⟩
 ·obtain⟨z,its,n,r,e⟩:=h.ok I.hok
  exact⟨its,r,⟨_,n,e,rfl,rfl,rfl⟩,z⟩
 ·refine⟨its.toList,r,⟨o,n,I.kIn a o hk,hc,hd,by simpa using hs⟩,?_⟩
  have e:=r.length
  simp only[Array.length_toList]at e
  omega
theorem Inv.tuple (I:Inv X pins σ H s)(h:SqT X.K H a xs):∃its:List Value,Vals xs its/\IsTup s.heap a its.toArray/\xs.length<=sizeLine:=by
 rcases h with h | ⟨o,its,n,hk,hc,hs,hz,r⟩
 ·obtain⟨z,its,r,p⟩:=h.ok I.hok
  exact⟨its,r,p,z⟩
 ·refine⟨its.toList,r,⟨o,I.kIn a o hk,hc,n,by simpa using hs⟩,?_⟩
  have e:=r.length
  simp only[Array.length_toList]at e
  omega
theorem Inv.list_inj (I:Inv X pins σ H s)(h:SqL X.K H a xs)(h':SqL X.K H a ys):xs=ys:=by
 obtain⟨its,r,⟨o,n,e,_,_,d⟩,_⟩:=I.list h
 obtain⟨its',r',⟨o',n',e',_,_,d'⟩,_⟩:=I.list h'
 rw[e]at e';cases e'
 rw[d]at d'
 injection d' with d1 _
 have:its=its':=by simpa using congrArg Array.toList d1
 subst this
 exact r.inj r'
theorem Inv.tuple_inj (I:Inv X pins σ H s)(h:SqT X.K H a xs)(h':SqT X.K H a ys):xs=ys:=by
 obtain⟨its,r,⟨o,e,_,n,d⟩,_⟩:=I.tuple h
 obtain⟨its',r',⟨o',e',_,n',d'⟩,_⟩:=I.tuple h'
 rw[e]at e';cases e'
 rw[d]at d'
 injection d' with d1 _
 have:its=its':=by simpa using congrArg Array.toList d1
 subst this
 exact r.inj r'
end
abbrev Cx.wish (X:Cx)(E:Value->Shared->Prop):Cx:={X with xe:=E}
abbrev Cx.nox (X:Cx):Cx:=X.wish λ_ _=>False
theorem Cx.Ok.wish {X:Cx}(ok:X.Ok)(E:Value->Shared->Prop):(X.wish E).Ok :=
 ⟨ok.mod,ok.kind,ok.glob,ok.blt,ok.above,ok.inj,ok.has,ok.cab,ok.hd,ok.frames,ok.stk,ok.exf,ok.bs,ok.bsz,ok.noex,ok.exfs,ok.funs,ok.frf⟩
theorem Cx.Ok.unwish {X:Cx}{E:Value->Shared->Prop}(ok:(X.wish E).Ok):X.Ok :=
 ⟨ok.mod,ok.kind,ok.glob,ok.blt,ok.above,ok.inj,ok.has,ok.cab,ok.hd,ok.frames,ok.stk,ok.exf,ok.bs,ok.bsz,ok.noex,ok.exfs,ok.funs,ok.frf⟩
section
variable {X:Cx}{pins:List (Addr×Obj)}{σ:St}{H:Hp}{s:Shared}{E:Value->Shared->Prop}
theorem Inv.wish (I:Inv X pins σ H s)(E:Value->Shared->Prop):Inv (X.wish E) pins σ H s:=⟨I.ok.wish E,I.os,I.bare,I.base,I.loc,I.cell,I.free,I.freeC,I.pin,I.hok,I.len⟩
theorem Inv.unwish (I:Inv (X.wish E) pins σ H s):Inv X pins σ H s:=⟨I.ok.unwish,I.os,I.bare,I.base,I.loc,I.cell,I.free,I.freeC,I.pin,I.hok,I.len⟩
theorem SP.unwish {D:Ends}{f:Flow}{s':Shared}(h:SP (X.wish E) pins D f s'):SP X pins D f s':=by
 cases f with
 | next=>obtain⟨σ',H',I,q⟩:=h;exact⟨σ',H',I.unwish,q⟩
 | brk=>obtain⟨σ',H',I,q⟩:=h;exact⟨σ',H',I.unwish,q⟩
 | cont=>obtain⟨σ',H',I,q⟩:=h;exact⟨σ',H',I.unwish,q⟩
 | ret u=>obtain⟨v,σ',H',I,r,q⟩:=h;exact⟨v,σ',H',I.unwish,r,q⟩
theorem PSs.nox {st:List Stmt}{t:TS}(h:PSs X.nox st t):PSs X st t:=λpins s σ H D I hw =>
 wpAny_mono (h pins s σ H D (I.wish _) hw) (λ_ _ q=>q.unwish) λ_ _ z=>False.elim z
end
section
variable {X:Cx}{st:Stmt}{rest:List Stmt}{t u:TS}{e:Expr}{te:TE}{pos:Pos}
def tNext:TS:=λD σ H=>D.nx σ H
def tSeq (t u:TS):TS:=λD σ H=>t {D with nx:=u D} σ H
theorem b0g:PSs X [] tNext:=λ_ _ σ H _ I h=>wpAny_execs_nil ⟨σ,H,I,h⟩
theorem a0i (h1:PS X st t)(h2:PSs X rest u):PSs X (st::rest) (tSeq t u):=by
 intro pins s σ H D I h
 refine wpAny_execs_cons (thn (h1 pins s σ H {D with nx:=u D} I h) λf s1 q=>?_)
 cases f with
 | next =>
  obtain⟨σ',H',I',q⟩:=q
  exact h2 pins s1 σ' H' D I' q
 | ret v=>exact q
 | brk=>exact q
 | cont=>exact q
theorem a0p (h1:PS X st t):PSs X [st] t:=by
 intro pins s σ H D I h
 refine wpAny_execs_cons (thn (h1 pins s σ H D I h) λf s1 q=>?_)
 cases f with
 | next=>exact wpAny_execs_nil q
 | ret v=>exact q
 | brk=>exact q
 | cont=>exact q
theorem Inv.quiet {pins:List (Addr×Obj)}{σ:St}{H:Hp}{s:Shared}(I:Inv X pins σ H s):interactive X.env=false:=by simp[interactive,I.ok.kind]
def k1f (te:TE):TS:=λD σ H=>te σ H λ_ H1=>D.nx σ H1
theorem l0w (he:PE X e te)(hs:swapsWith e none pos.line X.env=pure false:=by rfl):PS X (.Expr e pos) (k1f te):=by
 intro pins s σ H D I h
 exact wpAny_Expr_any (thn (he pins s σ H _ I h) λv s1 ⟨x,H1,I1,r1,q1⟩=>⟨σ,H1,I1,q1⟩) I.quiet hs
def tRet (te:TE):TS:=λD σ H=>te σ H D.rt
theorem b0d (he:PE X e te):PS X (.Return (some e) pos) (tRet te):=by
 intro pins s σ H D I h
 exact wpAny_Return_some (thn (he pins s σ H _ I h) λv s1 ⟨x,H1,I1,r1,q1⟩=>⟨x,σ,H1,I1,r1,q1⟩)
def tIfS (c:TT)(t u:TS):TS:=λD σ H=>c σ H λb H1=>if b=true then t D σ H1 else u D σ H1
theorem d0a {c:Expr}{a b:List Stmt}{tc:TT}(hc:PT X c tc)(ha:PSs X a t)(hb:PSs X b u):PS X (.If c a b pos) (tIfS tc t u):=by
 intro pins s σ H D I h
 refine wpAny_If (thn (hc pins s σ H _ I h) λd s1 ⟨H1,I1,q1⟩=>?_)
 cases d with
 | true=>exact ha pins s1 σ H1 D I1 q1
 | false=>exact hb pins s1 σ H1 D I1 q1
end
abbrev TG:=V->St->Hp->(St->Hp->Prop)->Prop
abbrev TGs:=List V->St->Hp->(St->Hp->Prop)->Prop
def PG (X:Cx)(target:Expr)(t:TG):Prop :=
 ∀(pins:List (Addr×Obj)) (s:Shared) (σ:St) (H:Hp) (v:V) (u:Value) (Q:St->Hp->Prop),Inv X pins σ H s->RelV v u->t v σ H Q ->
  wpAny (model X.prog X.w) X.A (assign target X.env u) (λ_ s'=>∃ σ' H',Inv X pins σ' H' s'/\Q σ' H') X.xe s
def PGs (X:Cx)(ts:List Expr)(t:TGs):Prop :=
 ∀(pins:List (Addr×Obj)) (s:Shared) (σ:St) (H:Hp) (vs:List V) (us:List Value) (Q:St->Hp->Prop),Inv X pins σ H s->Vals vs us->t vs σ H Q ->
  wpAny (model X.prog X.w) X.A (assignInOrder ((assignEach ts X.env).map (·.2)) us) (λ_ s'=>∃ σ' H',Inv X pins σ' H' s'/\Q σ' H') X.xe s
abbrev TIp:=V->V->Hp->VK->Prop
def PIp (X:Cx)(op:Operator)(t:TIp):Prop :=
 ∀(pins:List (Addr×Obj)) (s:Shared) (σ:St) (H:Hp) (x y:V) (v u:Value) (Q:VK),Inv X pins σ H s->RelV x v->RelV y u->t x y H Q ->
  wpAny (model X.prog X.w) X.A (inplaceOp op v u) (EP X pins σ Q) X.xe s
section
variable {X:Cx}{pos:Pos}
def b1z (i:Nat):TG:=λv σ H Q=>Q (σ.set i (some v)) H
theorem a0z {i:Nat}{x:Str}(hN:X.N.Nodup)(hi:X.N[i]? = some x)(hx:Loc X.env.scope x)(hf:X.fn x=true∨X.env.scope.names.lookup x=some .local:=by first | exact .inl rfl | exact .inr rfl | assumption):PG X (.Name x pos) (b1z i):=by
 intro pins s σ H v u Q I r h
 exact wpAny_assign_Name (q0n I hN hi hx r (λs' I'=>⟨_,H,I',h⟩) hf)
def gNil:TGs:=λvs σ H Q=>vs=[]/\Q σ H
def l1y (t:TG)(u:TGs):TGs:=λvs σ H Q=>∃v r,vs=v::r/\t v σ H λσ' H'=>u r σ' H' Q
theorem l0x:PGs X [] gNil:=by
 intro pins s σ H vs us Q I r h
 obtain⟨e,h⟩:=h
 subst e
 cases r
 exact assignInOrder_nil ⟨σ,H,I,h⟩
theorem e0t {e:Expr}{es:List Expr}{t:TG}{u:TGs}(h1:PG X e t)(h2:PGs X es u)
  (hs:(assignEach (e::es) X.env).map (·.2)=assign e X.env::(assignEach es X.env).map (·.2):=by rfl):PGs X (e::es) (l1y t u):=by
 intro pins s σ H vs us Q I r h
 obtain⟨v,vr,e1,h⟩:=h
 subst e1
 cases r with
 | cons r rr =>
  rw[hs]
  refine assignInOrder_cons (thn (h1 pins s σ H _ _ _ I r h) λ_ s1 ⟨σ1,H1,I1,q1⟩=>?_)
  exact h2 pins s1 σ1 H1 _ _ Q I1 rr q1
def gTup (K:PySem.W.Frag)(n:Nat)(t:TGs):TG:=λv σ H Q=>∃a xs,v = .ref a/\SqT K H a xs/\xs.length=n/\t xs σ H Q
theorem k1w {es:List Expr}{k:Nat}{t:TGs}{n:Nat}(hc:X.calm=true)(h:PGs X es t)
  (hn:(assignEach es X.env).length=n:=by rfl) (hst:(assignEach es X.env).findIdx? (·.1)=none:=by rfl):PG X (.Tuple es k pos) (gTup X.K n t):=by
 intro pins s σ H v u Q I r hw
 obtain⟨a,xs,e1,hq,hl,hw⟩:=hw
 subst e1
 cases r
 obtain⟨its,rv,ht,hz⟩:=I.tuple hq
 refine assign_Tuple_tuple (I.ok.hd hc) ht (by simp[hn,<- hl,rv.length]) hst λh' hx=>?_
 have I1:Inv X pins σ H {s with heap:=h'}:=I.kept (t':=s.toks) λb o e=>hx b o (Nat.ne_of_lt (Heap.lt_size e)) e
 exact h pins _ σ H xs _ Q I1 (by simpa using rv) hw
def tAsg (te:TE)(g:TG):TS:=λD σ H=>te σ H λx H1=>g x σ H1 D.nx
theorem x0a {tg e:Expr}{te:TE}{g:TG}(he:PE X e te)(hg:PG X tg g)(hs:swapsWithSole [tg] e pos.line X.env=pure false:=by rfl)(hw:swappedStores [tg] e X.env=pure none:=by rfl)
  (h1:(assignEach [tg] X.env).map (·.2)=[assign tg X.env]:=by rfl):PS X (.Assign [tg] e pos) (tAsg te g):=by
 intro pins s σ H D I h
 refine wpAny_Assign_stores (thn (he pins s σ H _ I h) λv s1 ⟨x,H1,I1,r1,q1⟩=>?_) hs hw
 rw[h1]
 exact thn (hg pins s1 σ H1 x v _ I1 r1 q1) λ_ s2 q=>q
theorem b0b {i:Nat}{x:Str}{e:Expr}{te:TE}{pos':Pos}(hN:X.N.Nodup)(hi:X.N[i]? = some x)(hx:Loc X.env.scope x)(he:PE X e te)(hs:swapsWith e (some (.Name x pos')) pos.line X.env=pure false:=by rfl)(hf:X.fn x=true∨X.env.scope.names.lookup x=some .local:=by first | exact .inl rfl | exact .inr rfl | assumption) :
  PS X (.Assign [.Name x pos'] e pos) (tAsg te (b1z i)):=by
 intro pins s σ H D I h
 refine wpAny_Assign_Name (thn (he pins s σ H _ I h) λv s1 ⟨y,H1,I1,r1,q1⟩=>?_) hs
 exact q0n I1 hN hi hx r1 (λs2 I2=>⟨_,H1,I2,q1⟩) hf
def tAug (i:Nat)(te:TE)(ti:TIp):TS:=λD σ H=>∃x,σ[i]? = some (some x)/\te σ H λy H1=>ti x y H1 λz H2=>D.nx (σ.set i (some z)) H2
theorem g1c {i:Nat}{x:Str}{e:Expr}{te:TE}{op:Operator}{ti:TIp}{pos':Pos}(hN:X.N.Nodup)(hi:X.N[i]? = some x)(hx:Loc X.env.scope x)(he:PE X e te)(ho:PIp X op ti)(hf:X.fn x=true∨X.env.scope.names.lookup x=some .local:=by first | exact .inl rfl | exact .inr rfl | assumption) :
  PS X (.AugAssign (.Name x pos') op e pos) (tAug i te ti):=by
 intro pins s σ H D I h
 obtain⟨v,e1,h⟩:=h
 obtain⟨m,hn,hl⟩:=I.loc
 have vis:Vis X.env.scope x:=by rcases hx with k | k;exact .inl k;exact .inr (.inl k)
 obtain⟨u,r,l⟩:=hl i x v hi e1 vis
 refine wpAny_AugAssign_Name ?_
 have go:wpAny (model X.prog X.w) X.A (eval e X.env) (λw s₂=>wpAny (model X.prog X.w) X.A (inplaceOp op u w) (λr s₃=>wpAny (model X.prog X.w) X.A (storeName X.env x r) (λ_=>SP X pins D .next) X.xe s₃) X.xe s₂) X.xe s:=by
  refine thn (he pins s σ H _ I h) λw s1 ⟨y,H1,I1,r1,q1⟩=>?_
  refine thn (ho pins s1 σ H1 v y u w _ I1 r r1 q1) λz s2 ⟨zv,H2,I2,r2,q2⟩=>?_
  exact q0n I2 hN hi hx r2 (λs3 I3=>⟨_,H2,I3,q2⟩) hf
 rcases l with⟨hk,hm⟩ | ⟨hk,c,hc,hcell⟩
 ·exact wpAny_loadName_local I.ok.kind hk hn hm go
 ·rcases hk with hk | hk
  ·exact wpAny_loadName_cell I.ok.kind hk hc hcell go
  ·rcases hx with k | k
   ·have:X.env.scope.names.lookup x=some .free:=hk
    rw[k]at this;cases this
   ·have:X.env.scope.names.lookup x=some .free:=hk
    rw[k]at this;cases this
def ipI (f:Int->Int->Int):TIp:=λx y H Q=>∃i j,x = .int i/\y = .int j/\Q (.int (f i j)) H
end
section
variable {X:Cx}{pos:Pos}
def f1u (c:TT)(tb:TS):TS:=λD σ H=>∃W:Nat->St->Hp->Prop,(∃m,W m σ H)/\∀m σ H,W m σ H ->
 c σ H λb H1=>if b=true then ∃N:St->Hp->Prop,(∀ σ' H',N σ' H'->∃m',m'<m/\W m' σ' H')/\tb {D with nx:=N,ct:=N,bk:=D.nx} σ H1 else D.nx σ H1
theorem e1e {c:Expr}{body:List Stmt}{tc:TT}{tb:TS}(hp:PassesOwn (model X.prog X.w) X.A X.env X.xe)(hc:PT X c tc)(hb:PSs X body tb):PS X (.While c body [] pos) (f1u tc tb):=by
 intro pins s σ H D I h
 obtain⟨W,⟨m0,w0⟩,turn⟩:=h
 refine wpAny_While (codeAny_whileLoop (λn s'=>∃ σ' H',Inv X pins σ' H' s'/\W n σ' H') ?_ m0 ⟨σ,H,I,w0⟩)
 rintro n s1 ⟨σ1,H1,I1,w1⟩
 refine wpAny_passesOwn hp (thn (hc pins s1 σ1 H1 _ I1 (turn n σ1 H1 w1)) λb s2 ⟨H2,I2,q2⟩=>?_)
 cases b with
 | true =>
  obtain⟨N,hN,q2⟩:=q2
  rw[if_pos rfl]
  refine wpAny_passesOwn hp (thn (hb pins s2 σ1 H2 _ I2 q2) λf s3 q3=>?_)
  cases f with
  | next =>
   obtain⟨σ3,H3,I3,n3⟩:=q3
   obtain⟨m',hm,w3⟩:=hN σ3 H3 n3
   exact⟨m',hm,σ3,H3,I3,w3⟩
  | cont =>
   obtain⟨σ3,H3,I3,n3⟩:=q3
   obtain⟨m',hm,w3⟩:=hN σ3 H3 n3
   exact⟨m',hm,σ3,H3,I3,w3⟩
  | brk=>exact q3
  | ret v=>exact q3
 | false =>
  rw[if_neg Bool.false_ne_true]
  exact wpAny_execs_nil ⟨σ1,H2,I2,q2⟩
end
structure It where
 go:Nat->Hp->Prop
 yld:Nat->Hp->V->Hp->Prop
 stop:Nat->Hp->Prop
def FpOk (X:Cx)(pins:List (Addr×Obj))(H:Hp)(b:Addr):Prop :=
 H b=none/\b≠X.env.locals/\b∉X.fs/\(b∈X.ex∨X.s₀.heap.objs.size<=b)/\(∀x c,X.env.cells.lookup x=some c->c≠b)/\∀p∈X.pn++pins,p.1≠b
theorem Inv.fpOk {X:Cx}{pins:List (Addr×Obj)}{σ:St}{H H':Hp}{s:Shared}{b:Addr}(I:Inv X pins σ H s)(hb:s.heap.objs.size<=b)(hn:H' b=none):FpOk X pins H' b:=by
 refine⟨hn,Nat.ne_of_gt (Nat.lt_of_lt_of_le I.lt hb),I.nofs hb,.inr (Nat.le_trans I.sz hb),λx c e z=>?_,λp hp z=>?_⟩
 ·obtain⟨v,q⟩:=I.cell x c e
  exact absurd (Nat.lt_of_lt_of_le q.lt (by rw[z];exact hb)) (Nat.lt_irrefl _)
 ·exact absurd (Nat.lt_of_lt_of_le (Heap.lt_size (I.pin p hp).1) (by rw[z];exact hb)) (Nat.lt_irrefl _)
structure Turn (P:Program)(w:World)(K:PySem.W.Frag)(tg:Expr)(J:It)(fp:List Addr)(it:Addr)(tn:Nat->Heap->Prop):Prop where
 mem:it∈fp
 obj:∀i h,tn i h->∀b∈fp,∃o,h.get? b=some o/\∀v,o.data ≠ .cell v
 keep:∀i h h',tn i h->(∀b∈fp,∀o,h.get? b=some o->h'.get? b=some o)->tn i h'
 item:∀(X:Cx),X.prog=P->X.w=w->X.K=K->X.calm=true->∀(i:Nat) (pins:List (Addr×Obj)) (s:Shared) (σ:St) (H:Hp) (E:Value->Shared->Prop),Inv X pins σ H s->(∀b∈fp,FpOk X pins H b)->tn i s.heap->J.go i H ->
  wpAny (model P w) X.A (pyNext (.ref it)) (λr s1=>∃u,r=some u /\
   wpAny (model P w) X.A (letOwnedTupleGo tg (.ref it) u) (λ_ s2=>∃x H',Inv X pins σ H' s2/\RelV x u/\J.yld i H x H'/\tn (i+1) s2.heap/\∀b∈fp,H' b=none) E s1) E s
 done:∀(X:Cx),X.prog=P->X.w=w->X.K=K->X.calm=true->∀(i:Nat) (pins:List (Addr×Obj)) (s:Shared) (σ:St) (H:Hp) (E:Value->Shared->Prop),Inv X pins σ H s->(∀b∈fp,FpOk X pins H b)->tn i s.heap->J.stop i H ->
  wpAny (model P w) X.A (pyNext (.ref it)) (λr s1=>r=none/\Inv X pins σ H s1) E s
 self:∀(A:Around) (i:Nat) (s:Shared) (Q:Value->Shared->Prop) (E:Value->Shared->Prop),tn i s.heap->Q (.ref it) s->wpAny (model P w) A (pyIter (.ref it)) Q E s
abbrev TI:=St->Hp->(It->Hp->Prop)->Prop
def PIE (X:Cx)(pins:List (Addr×Obj))(σ:St)(tg:Expr)(R:It->Hp->Prop)(itv:Value)(s2:Shared):Prop :=
 ∃(it:Addr) (fp:List Addr) (tn:Nat->Heap->Prop) (J:It) (H':Hp),itv = .ref it/\Inv X pins σ H' s2/\Turn X.prog X.w X.K tg J fp it tn/\tn 0 s2.heap/\(∀b∈fp,FpOk X pins H' b)/\R J H'
def PI (X:Cx)(tg iter:Expr)(wi:TI):Prop :=
 ∀(pins:List (Addr×Obj)) (s:Shared) (σ:St) (H:Hp) (R:It->Hp->Prop),Inv X pins σ H s->wi σ H R ->
  wpAny (model X.prog X.w) X.A (eval iter X.env) (λv s1=>wpAny (model X.prog X.w) X.A (pyIter v) (PIE X pins σ tg R) X.xe s1) X.xe s
theorem i1x {M:Model}{A:Around}{E:Value->Shared->Prop}{s:Shared}{tg:Expr}{it:Addr}{u:Value}{o:Obj}{n:String}{vs:Array Value}{Q:Unit->Shared->Prop}(ho:s.heap.get? it=some o)(hc:o.cls = .type n)(hd:o.data = .fields vs)
  (hn:["enumerate", "zip", "dict_itemiterator", "dict_reverseitemiterator", "odict_iterator", "itertools.zip_longest", "itertools.pairwise"].contains n=false) (hQ:Q () s):wpAny M A (letOwnedTupleGo tg (.ref it) u) Q E s:=by
 unfold letOwnedTupleGo
 cases tg <;> first
  | exact wpAny_pure hQ
  | (cases u <;> first
    | exact wpAny_pure hQ
    | (refine wpAny_bind (wpAny_load ho ?_);rw[hc,hd];show wpAny M A (if(["enumerate", "zip", "dict_itemiterator", "dict_reverseitemiterator", "odict_iterator", "itertools.zip_longest", "itertools.pairwise"].contains n&&vs[0]? == some (rawInt _))=true then _ else _) Q E s;rw[if_neg (by intro h;rw[hn,Bool.false_and]at h;cases h)];exact wpAny_pure hQ))
def Itl (K:PySem.W.Frag)(a:Addr):It :=
 ⟨λi H=>∃xs x,SqL K H a xs/\xs[i]? = some x,λi H x H'=>H'=H/\∀xs,SqL K H a xs->xs[i]? = some x,λi H=>∃xs,SqL K H a xs/\xs.length<=i⟩
def Itt (K:PySem.W.Frag)(a:Addr):It :=
 ⟨λi H=>∃xs x,SqT K H a xs/\xs[i]? = some x,λi H x H'=>H'=H/\∀xs,SqT K H a xs->xs[i]? = some x,λi H=>∃xs,SqT K H a xs/\xs.length<=i⟩
def Itr (lo:Int)(n:Nat):It:=⟨λi _=>i<n,λi H x H'=>H'=H/\x = .int (lo+i),λi _=>n<=i⟩
theorem z0m {P:Program}{w:World}{K:PySem.W.Frag}{tg:Expr}(a it:Addr):Turn P w K tg (Itl K a) [it] it (λi h=>h.IsListIter it a i) where
 mem:=by simp
 obj:=λi h st b hb=>by
  have e:b=it:=by simpa using hb
  subst e
  obtain⟨o,e,c,d⟩:=st
  exact⟨o,e,λv z=>by rw[d]at z;cases z⟩
 keep:=λi h h' st k=>st.at λo e=>k it (by simp) o e
 item:=by
  intro X hP hw hK hc i pins s σ H E I hf st hg
  subst hP hw hK
  obtain⟨xs,x,hq,hx⟩:=hg
  obtain⟨its,rv,p,hz⟩:=I.list hq
  obtain⟨u,hu,ru⟩:=rv.get hx
  obtain⟨f0,f1,f2,f3,f4,f5⟩:=hf it (by simp)
  refine wpAny_pyNext_list_item st p.isList (x:=u) (by simpa using hu) λh' st' sb=>?_
  have I1:Inv X pins σ H {s with heap:=h'}:=I.turned (t':=s.toks) (λb o hb e=>(sb.2 b hb).trans e) f0 f1 f3 f4 f5
  obtain⟨o,e,c,d⟩:=id st'
  exact⟨u,rfl,i1x (s:={s with heap:=h'}) e c d (by decide) ⟨x,H,I1,ru,⟨rfl,λys hy=>by rw[I.list_inj hy hq];exact hx⟩,st',λb hb=>(hf b hb).1⟩⟩
 done:=by
  intro X hP hw hK hc i pins s σ H E I hf st hg
  subst hP hw hK
  obtain⟨xs,hq,hx⟩:=hg
  obtain⟨its,rv,p,hz⟩:=I.list hq
  obtain⟨f0,f1,f2,f3,f4,f5⟩:=hf it (by simp)
  have hl:=rv.length
  exact wpAny_pyNext_list_end (I.ok.hd hc) st p.isList (by simp;omega) λh' eb=>⟨rfl,I.turned (t':=s.toks) (λb o hb e=>eb b o hb e) f0 f1 f3 f4 f5⟩
 self:=λ_ _ _ _ _ st h=>wpAny_pyIter_listiter st h
theorem y0f {P:Program}{w:World}{K:PySem.W.Frag}{tg:Expr}(a it:Addr):Turn P w K tg (Itt K a) [it] it (λi h=>h.IsTupleIter it a i) where
 mem:=by simp
 obj:=λi h st b hb=>by
  have e:b=it:=by simpa using hb
  subst e
  obtain⟨o,e,c,d⟩:=st
  exact⟨o,e,λv z=>by rw[d]at z;cases z⟩
 keep:=λi h h' st k=>st.at λo e=>k it (by simp) o e
 item:=by
  intro X hP hw hK hc i pins s σ H E I hf st hg
  subst hP hw hK
  obtain⟨xs,x,hq,hx⟩:=hg
  obtain⟨its,rv,p,hz⟩:=I.tuple hq
  obtain⟨u,hu,ru⟩:=rv.get hx
  obtain⟨f0,f1,f2,f3,f4,f5⟩:=hf it (by simp)
  refine wpAny_pyNext_tuple_item st (show s.heap.IsTuple a its.toArray from p) (x:=u) (by simpa using hu) λh' st' sb=>?_
  have I1:Inv X pins σ H {s with heap:=h'}:=I.turned (t':=s.toks) (λb o hb e=>(sb.2 b hb).trans e) f0 f1 f3 f4 f5
  obtain⟨o,e,c,d⟩:=id st'
  exact⟨u,rfl,i1x (s:={s with heap:=h'}) e c d (by decide) ⟨x,H,I1,ru,⟨rfl,λys hy=>by rw[I.tuple_inj hy hq];exact hx⟩,st',λb hb=>(hf b hb).1⟩⟩
 done:=by
  intro X hP hw hK hc i pins s σ H E I hf st hg
  subst hP hw hK
  obtain⟨xs,hq,hx⟩:=hg
  obtain⟨its,rv,p,hz⟩:=I.tuple hq
  obtain⟨f0,f1,f2,f3,f4,f5⟩:=hf it (by simp)
  have hl:=rv.length
  exact wpAny_pyNext_tuple_end (I.ok.hd hc) st (show s.heap.IsTuple a its.toArray from p) (by simp;omega) λh' eb=>⟨rfl,I.turned (t':=s.toks) (λb o hb e=>eb b o hb e) f0 f1 f3 f4 f5⟩
 self:=λ_ _ _ _ _ st h=>wpAny_pyIter_tupleiter st h
theorem y0g {P:Program}{w:World}{K:PySem.W.Frag}{tg:Expr}(it:Addr)(lo:Int)(n:Nat):Turn P w K tg (Itr lo n) [it] it (λi h=>IsRangeIter h it (lo+(i:Nat)*1) ((n:Int) - (i:Nat)) 1) where
 mem:=by simp
 obj:=λi h st b hb=>by
  have e:b=it:=by simpa using hb
  subst e
  exact⟨_,st,λv z=>by
   have z':Data.fields _=Data.cell v:=z
   cases z'⟩
 keep:=λi h h' st k=>k it (by simp) _ st
 item:=by
  intro X hP hw hK hc i pins s σ H E I hf st hg
  subst hP hw hK
  obtain⟨f0,f1,f2,f3,f4,f5⟩:=hf it (by simp)
  have W:=Walks.range (prog:=X.prog) (w:=X.w) (I.ok.hd hc) it lo 1 n
  refine W.item i s _ _ hg st λv h' tk hv st' kk=>?_
  obtain⟨t,rfl⟩:=hv
  have I1:Inv X pins σ H {s with heap:=h',toks:=tk}:=I.turned (λb o hb e=>kk b o (by simpa using hb) e) f0 f1 f3 f4 f5
  refine⟨_,rfl,i1x (s:={s with heap:=h',toks:=tk}) (n := "range_iterator") st' rfl rfl (by decide) ⟨.int (lo+i),H,I1,⟨t,?_⟩,⟨rfl,rfl⟩,st',λb hb=>(hf b hb).1⟩⟩
  rw[Int.mul_one]
 done:=by
  intro X hP hw hK hc i pins s σ H E I hf st hg
  subst hP hw hK
  obtain⟨f0,f1,f2,f3,f4,f5⟩:=hf it (by simp)
  exact wpAny_pyNext_range_end (I.ok.hd hc) st (by have:n<=i:=hg;omega) λh' eb=>⟨rfl,I.turned (t':=s.toks) (λb o hb e=>eb b o hb e) f0 f1 f3 f4 f5⟩
 self:=λ_ _ _ _ _ st h=>wpAny_pyIter_rangeiter st h
section
variable {X:Cx}{tg:Expr}
theorem w0z {pins:List (Addr×Obj)}{σ:St}{H:Hp}{s:Shared}{R:It->Hp->Prop}{E:Value->Shared->Prop}{lo hi:Int}{t u v:Tok}{tk:Nat}(I:Inv X pins σ H s)(h1:-(2^62)<=lo)(h2:lo<2^62)(h3:-(2^62)<=hi)(h4:hi<2^62)
  (q:R (Itr lo (hi - lo).toNat) H):wpAny (model X.prog X.w) X.A (pyIter (.ref s.heap.objs.size)) (PIE X pins σ tg R) E {s with heap:=s.heap.push {cls:=.type "range",data:=.fields #[.int lo t,.int hi u,.int 1 v]},toks:=tk}:=by
 refine wpAny_pyIter_range (IsRange.new ..) (small_one h1 h2 h3 h4) ?_
 have I1:Inv X pins σ H {s with heap:=s.heap.push {cls:=.type "range",data:=.fields #[.int lo t,.int hi u,.int 1 v]},toks:=tk}:=I.kept λb o e=>Heap.get?_push_of_some _ e
 refine⟨(s.heap.push {cls:=.type "range",data:=.fields #[.int lo t,.int hi u,.int 1 v]}).objs.size,[(s.heap.push {cls:=.type "range",data:=.fields #[.int lo t,.int hi u,.int 1 v]}).objs.size],_,_,H,rfl,
  I1.kept (t':=tk) λb o e=>Heap.get?_push_of_some _ e,y0g _ lo (hi - lo).toNat,?_,λb hb=>?_,q⟩
 ·have e1:lo+((0:Nat):Int)*1=lo:=by simp
  have e2:(((hi - lo).toNat:Nat):Int) - ((0:Nat):Int)=Builtin.Range.rangeSize lo hi 1:=by rw[rangeSize_one];split <;> omega
  show IsRangeIter _ _ (lo+((0:Nat):Int)*1) ((((hi - lo).toNat:Nat):Int) - ((0:Nat):Int)) 1
  rw[e1,e2]
  exact Heap.get?_push_size _ rfl
 ·have e:b=(s.heap.push {cls:=.type "range",data:=.fields #[.int lo t,.int hi u,.int 1 v]}).objs.size:=by simpa using hb
  subst e
  exact I1.fpOk (Nat.le_refl _) (I1.hok.fresh (Nat.le_refl _))
def l1s (ta:TA):TI:=λσ H R=>ta σ H λvs H1=>∃j:Int,vs=[.int j]/\-(2^62)<=j/\j<2^62/\R (Itr 0 j.toNat) H1
def l1r (ta:TA):TI:=λσ H R=>ta σ H λvs H1=>∃i j:Int,vs=[.int i,.int j]/\(-(2^62)<=i/\i<2^62/\-(2^62)<=j/\j<2^62)/\R (Itr i (j - i).toNat) H1
theorem e0q {a:Expr}{ta:TA}{p pos:Pos}(hg:Gl X "range")(hm:X.mg "range" = none)(ha:PA X [a] ta)(hs:starEach [a] X.env=[(false,eval a X.env)]:=by rfl):PI X tg (.Call (.Name "range" p) [a] [] pos) (l1s ta):=by
 intro pins s σ H R I h
 refine Call_ (j0d I hg hm boot_range (PyProof.Rows.callWith_type1 (thn (ha pos pins s σ H _ I h) λus s1 ⟨vs,H1,I1,r1,q1⟩=>?_) hs rfl))
 obtain⟨j,e,q1,q2,q⟩:=q1
 subst e
 cases r1 with
 | cons r rr =>
  cases rr
  obtain⟨t,rfl⟩:=r
  exact call_range_1 (w0z I1 (by omega) (by omega) q1 q2 (by simpa using q))
theorem a1u {a b:Expr}{ta:TA}{p pos:Pos}(hg:Gl X "range")(hm:X.mg "range" = none)(ha:PA X [a,b] ta)(hs:starEach [a,b] X.env=[(false,eval a X.env),(false,eval b X.env)]:=by rfl)(hs2:starEach [b] X.env=[(false,eval b X.env)]:=by rfl) :
  PI X tg (.Call (.Name "range" p) [a,b] [] pos) (l1r ta):=by
 intro pins s σ H R I h
 refine Call_ (j0d I hg hm boot_range (PyProof.Rows.callWith_type1 (thn (ha pos pins s σ H _ I h) λus s1 ⟨vs,H1,I1,r1,q1⟩=>?_) (by rw[hs,hs2]) (by rw[hs2];rfl)))
 obtain⟨i,j,e,⟨q1,q2,q3,q4⟩,q⟩:=q1
 subst e
 cases r1 with
 | cons r rr =>
  cases rr with
  | cons r' rr =>
   cases rr
   obtain⟨t,rfl⟩:=r
   obtain⟨t',rfl⟩:=r'
   exact call_range_2 (w0z I1 q1 q2 q3 q4 q)
def tFor (wi:TI)(g:TG)(tb:TS):TS:=λD σ H=>wi σ H λJ H1=>∃W:Nat->Nat->St->Hp->Prop,(∃m,W 0 m σ H1)/\∀i m σ H,W i m σ H ->
 (J.stop i H/\D.nx σ H)∨(J.go i H/\∃N:St->Hp->Prop,(∀ σ' H',N σ' H'->∃m',m'<m/\W (i+1) m' σ' H')/\∀x H',J.yld i H x H'->g x σ H' λσ2 H2=>tb {D with nx:=N,ct:=N,bk:=D.nx} σ2 H2)
def i0y (fp:List Addr)(h:Heap):List (Addr×Obj):=fp.filterMap λb=>(h.get? b).map λo=>(b,o)
theorem d0l {fp:List Addr}{h:Heap}{b:Addr}{o:Obj}(hb:b∈fp)(e:h.get? b=some o):(b,o)∈i0y fp h:=List.mem_filterMap.mpr ⟨b,hb,by rw[e];rfl⟩
theorem t0b {fp:List Addr}{h:Heap}{p:Addr×Obj}(hp:p∈i0y fp h):p.1∈fp/\h.get? p.1=some p.2:=by
 obtain⟨b,hb,e⟩:=List.mem_filterMap.mp hp
 cases q:h.get? b with
 | none=>rw[q]at e;cases e
 | some o =>
  rw[q]at e
  have e':(b,o)=p:=Option.some.inj e
  subst e'
  exact⟨hb,q⟩
theorem Inv.pinned {pins:List (Addr×Obj)}{σ:St}{H:Hp}{s:Shared}{fp:List Addr}(I:Inv X pins σ H s)(hf:∀b∈fp,FpOk X pins H b)(ho:∀b∈fp,∃o,s.heap.get? b=some o/\∀v,o.data ≠ .cell v):Inv X (pins++i0y fp s.heap) σ H s :=
 I.pins_of λp hp=>(List.mem_append.mp hp).elim (λz=>I.pin p (List.mem_append_right _ z)) λz=>by
  obtain⟨hb,e⟩:=t0b z
  obtain⟨f0,f1,f2,_⟩:=hf p.1 hb
  obtain⟨o,e',d⟩:=ho p.1 hb
  rw[e]at e';cases e'
  exact⟨e,f0,f1,f2,d⟩
theorem Inv.unpinned {pins pl:List (Addr×Obj)}{σ:St}{H:Hp}{s:Shared}(I:Inv X (pins++pl) σ H s):Inv X pins σ H s:=I.pins_of λp hp=>I.pin p (List.mem_append_right _ (List.mem_append_left _ hp))
theorem h0p {iter:Expr}{body:List Stmt}{wi:TI}{g:TG}{tb:TS}{pos:Pos}(hp:PassesOwn (model X.prog X.w) X.A X.env X.xe)(hc:X.calm=true)(hi:PI X tg iter wi)(hg:PG X tg g)(hb:PSs X body tb)
  (hs:∀x,foldedSetIterable iter X.env x=pure x:=by intro _;rfl):PS X (.For tg iter body [] pos) (tFor wi g tb):=by
 intro pins s σ H D I h
 refine wpAny_For (thn (hi pins s σ H _ I h) λv s1 h1=>thn h1 λitv s2 h2=>?_) hs
 obtain⟨it,fp,tn,J,H2,e,I2,T,st2,f2,W,⟨m0,w0⟩,turn⟩:=h2
 subst e
 have stat:∀ {H':Hp},(∀b∈fp,H' b=none)->∀b∈fp,FpOk X pins H' b:=λhn b hb=>⟨hn b hb,(f2 b hb).2⟩
 refine codeAny_forLoop_any (λn s'=>∃i σ' H',Inv X pins σ' H' s'/\tn i s'.heap/\(∀b∈fp,H' b=none)/\W i n σ' H') ?_ m0 ⟨0,σ,H2,I2,st2,λb hb=>(f2 b hb).1,w0⟩
 rintro n s3 ⟨i,σ3,H3,I3,st3,fr3,w3⟩
 rcases turn i n σ3 H3 w3 with⟨stop,qn⟩ | ⟨go,N,hN,step⟩
 ·refine wpAny_passesOwn hp (thn (T.done X rfl rfl rfl hc i pins s3 σ3 H3 X.xe I3 (stat fr3) st3 stop) λr s4 ⟨hr,I4⟩=>?_)
  subst hr
  exact wpAny_execs_nil ⟨σ3,H3,I4,qn⟩
 ·refine wpAny_passesOwn hp (thn (T.item X rfl rfl rfl hc i pins s3 σ3 H3 X.xe I3 (stat fr3) st3 go) λr s4 ⟨u,hr,h4⟩=>?_)
  subst hr
  refine wpAny_passesOwn hp (thn h4 λ_ s5 ⟨x,H5,I5,r5,y5,st5,fr5⟩=>?_)
  have I5':=I5.pinned (stat fr5) (T.obj _ _ st5)
  refine wpAny_passesOwn hp (thn (hg _ s5 σ3 H5 x u _ I5' r5 (step x H5 y5)) λ_ s6 ⟨σ6,H6,I6,q6⟩=>?_)
  refine wpAny_passesOwn hp (thn (hb _ s6 σ6 H6 _ I6 q6) λf s7 q7=>?_)
  have again:∀ {σ7:St} {H7:Hp},Inv X (pins++i0y fp s5.heap) σ7 H7 s7->N σ7 H7->∃m,m<n/\∃i σ' H',Inv X pins σ' H' s7/\tn i s7.heap/\(∀b∈fp,H' b=none)/\W i m σ' H':=λ{σ7 H7} I7 n7=>by
   obtain⟨m',hm,w7⟩:=hN σ7 H7 n7
   refine⟨m',hm,i+1,σ7,H7,I7.unpinned,T.keep _ _ _ st5 λb hb o e=>(I7.pin (b,o) (List.mem_append_right _ (List.mem_append_right _ (d0l hb e)))).1,λb hb=>?_,w7⟩
   obtain⟨o,e,d⟩:=T.obj _ _ st5 b hb
   exact(I7.pin (b,o) (List.mem_append_right _ (List.mem_append_right _ (d0l hb e)))).2.1
  cases f with
  | next=>obtain⟨σ7,H7,I7,n7⟩:=q7;exact again I7 n7
  | cont=>obtain⟨σ7,H7,I7,n7⟩:=q7;exact again I7 n7
  | brk=>obtain⟨σ7,H7,I7,q7⟩:=q7;exact⟨σ7,H7,I7.unpinned,q7⟩
  | ret v=>obtain⟨x7,σ7,H7,I7,r7,q7⟩:=q7;exact⟨x7,σ7,H7,I7.unpinned,r7,q7⟩
end
abbrev R2:=V->V->Hp->VK->Prop
def OpR (X:Cx)(f:Value->Value->Sem Value)(r:R2):Prop :=
 ∀(pins:List (Addr×Obj)) (s:Shared) (σ:St) (H:Hp) (x y:V) (v u:Value) (Q:VK),Inv X pins σ H s->RelV x v->RelV y u->r x y H Q ->
  wpAny (model X.prog X.w) X.A (f v u) (EP X pins σ Q) X.xe s
def UnR (X:Cx)(f:Value->Sem Value)(r:V->Hp->VK->Prop):Prop :=
 ∀(pins:List (Addr×Obj)) (s:Shared) (σ:St) (H:Hp) (x:V) (v:Value) (Q:VK),Inv X pins σ H s->RelV x v->r x H Q ->
  wpAny (model X.prog X.w) X.A (f v) (EP X pins σ Q) X.xe s
def k0t (X:Cx)(f:Value)(r:List V->Hp->VK->Prop):Prop :=
 ∀(pins:List (Addr×Obj)) (s:Shared) (σ:St) (H:Hp) (xs:List V) (us:List Value) (Q:VK),Inv X pins σ H s->Vals xs us->r xs H Q ->
  wpAny (model X.prog X.w) X.A (call f us) (EP X pins σ Q) X.xe s
def TruR (X:Cx)(r:V->Hp->(Bool->Hp->Prop)->Prop):Prop :=
 ∀(pins:List (Addr×Obj)) (s:Shared) (σ:St) (H:Hp) (x:V) (v:Value) (Q:Bool->Hp->Prop),Inv X pins σ H s->RelV x v->r x H Q ->
  wpAny (model X.prog X.w) X.A (truthy v) (TP X pins σ Q) X.xe s
def tOp (r:R2)(ta tb:TE):TE:=λσ H Q=>ta σ H λx H1=>tb σ H1 λy H2=>r x y H2 Q
def tUn (r:V->Hp->VK->Prop)(ta:TE):TE:=λσ H Q=>ta σ H λx H1=>r x H1 Q
def rI (C:Int->Int->Prop)(g:Int->Int->V):R2:=λx y H Q=>∃i j,x = .int i/\y = .int j/\C i j/\Q (g i j) H
def rI0 (g:Int->Int->V):R2:=λx y H Q=>∃i j,x = .int i/\y = .int j/\Q (g i j) H
def rU (g:Int->V):V->Hp->VK->Prop:=λx H Q=>∃i,x = .int i/\Q (g i) H
section
variable {X:Cx}{a b c:Expr}{ta tb tc:TE}{pos:Pos}
theorem binT (ha:PE X a ta)(hb:PE X b tb){pins:List (Addr×Obj)}{s:Shared}{σ:St}{H:Hp}{R:V->V->Hp->Prop}(I:Inv X pins σ H s)
  (h:ta σ H λx H1=>tb σ H1 λy H2=>R x y H2) {Q:Value->Shared->Prop} {f:Value->Value->Sem Value}
  (hf:∀v u s2 x y H2,Inv X pins σ H2 s2->RelV x v->RelV y u->R x y H2->wpAny (model X.prog X.w) X.A (f v u) Q X.xe s2) :
  wpAny (model X.prog X.w) X.A (eval a X.env) (λv s₁=>wpAny (model X.prog X.w) X.A (eval b X.env) (λu s₂=>wpAny (model X.prog X.w) X.A (f v u) Q X.xe s₂) X.xe s₁) X.xe s:=by
 refine thn (ha pins s σ H _ I h) λv s1 ⟨x,H1,I1,r1,q1⟩=>?_
 refine thn (hb pins s1 σ H1 _ I1 q1) λu s2 ⟨y,H2,I2,r2,q2⟩=>?_
 exact hf v u s2 x y H2 I2 r1 r2 q2
theorem a0x {op:Operator}{r:R2}(ho:OpR X (binaryOp op) r)(ha:PE X a ta)(hb:PE X b tb):PE X (.BinOp a op b pos) (tOp r ta tb):=by
 intro pins s σ H Q I h
 exact wpAny_BinOp (binT ha hb I h λv u s2 x y H2 I2 rx ry q=>ho pins s2 σ H2 x y v u Q I2 rx ry q)
theorem s0q {op:UnaryOp}{r:V->Hp->VK->Prop}(ho:UnR X (unaryOp op) r)(ha:PE X a ta):PE X (.UnaryOp op a pos) (tUn r ta):=by
 intro pins s σ H Q I h
 exact UnaryOp_ (thn (ha pins s σ H _ I h) λv s1 ⟨x,H1,I1,r1,q1⟩=>ho pins s1 σ H1 x v Q I1 r1 q1)
theorem opI {f:Value->Value->Sem Value}{C:Int->Int->Prop}{g:Int->Int->Int}
  (rule:∀(i j:Int) (t u:Tok) (s:Shared) (Q:Value->Shared->Prop) (E:Value->Shared->Prop),C i j->Q (.int (g i j) s.toks) {s with toks:=s.toks+1}->wpAny (model X.prog X.w) X.A (f (.int i t) (.int j u)) Q E s) :
  OpR X f (rI C λi j=>.int (g i j)):=by
 intro pins s σ H x y v u Q I rx ry h
 obtain⟨i,j,rfl,rfl,hc,q⟩:=h
 obtain⟨t,rfl⟩:=rx
 obtain⟨t',rfl⟩:=ry
 exact rule i j t t' s _ _ hc ⟨.int (g i j),H,I.tok _,⟨_,rfl⟩,q⟩
theorem opI0 {f:Value->Value->Sem Value}{g:Int->Int->Int}
  (rule:∀(i j:Int) (t u:Tok) (s:Shared) (Q:Value->Shared->Prop) (E:Value->Shared->Prop),Q (.int (g i j) s.toks) {s with toks:=s.toks+1}->wpAny (model X.prog X.w) X.A (f (.int i t) (.int j u)) Q E s) :
  OpR X f (rI0 λi j=>.int (g i j)):=by
 intro pins s σ H x y v u Q I rx ry h
 obtain⟨i,j,rfl,rfl,q⟩:=h
 obtain⟨t,rfl⟩:=rx
 obtain⟨t',rfl⟩:=ry
 exact rule i j t t' s _ _ ⟨.int (g i j),H,I.tok _,⟨_,rfl⟩,q⟩
theorem opB0 {f:Value->Value->Sem Value}{g:Int->Int->Bool}
  (rule:∀(i j:Int) (t u:Tok) (s:Shared) (Q:Value->Shared->Prop) (E:Value->Shared->Prop),Q (.bool (g i j)) s->wpAny (model X.prog X.w) X.A (f (.int i t) (.int j u)) Q E s) :
  OpR X f (rI0 λi j=>.bl (g i j)):=by
 intro pins s σ H x y v u Q I rx ry h
 obtain⟨i,j,rfl,rfl,q⟩:=h
 obtain⟨t,rfl⟩:=rx
 obtain⟨t',rfl⟩:=ry
 exact rule i j t t' s _ _ ⟨.bl (g i j),H,I,rfl,q⟩
def CPow (i j:Int):Prop:=0<=j/\j<=1000000/\i.natAbs<2^64
def CMul (i j:Int):Prop:=(-(2^64)<i/\i<2^64)∨(-(2^64)<j/\j<2^64)
theorem CMul.ok {i j:Int}(h:CMul i j):IntMulOk i j:=by
 rcases h with⟨h1,h2⟩ | ⟨h1,h2⟩
 ·exact .of_left (intBits_le_64 h1 h2)
 ·exact .of_right (intBits_le_64 h1 h2)
theorem y0e (k:Nat):(0:Int)<=2^k:=by
 rw[two_pow_cast]
 exact Int.natCast_nonneg _
theorem e0d:OpR X (binaryOp .Add) (rI0 λi j=>.int (i+j)):=opI0 λ_ _ _ _ _ _ _ q=>add_int q
theorem g0w:OpR X (binaryOp .Sub) (rI0 λi j=>.int (i - j)):=opI0 λ_ _ _ _ _ _ _ q=>sub_int q
theorem s0u:OpR X (binaryOp .Mult) (rI CMul λi j=>.int (i*j)):=opI λ_ _ _ _ _ _ _ hc q=>mul_int q hc.ok
theorem m0i:OpR X (binaryOp .Mod) (rI (λ_ j=>0<j) λi j=>.int (i % j)):=opI λi j _ _ _ _ _ hc q=>by
 have h1:(0:Int)<j:=hc
 exact mod_int' (by omega) (by rw[Int.fmod_eq_emod_of_nonneg i (by omega)];exact q)
theorem n0w:OpR X (binaryOp .Pow) (rI CPow λi j=>.int (i^j.toNat)):=opI λ_ _ _ _ _ _ _ hc q=>pow_int_small hc.1 hc.2.1 hc.2.2 q
theorem p0t:OpR X (binaryOp .LShift) (rI CPow λi j=>.int (i*2^j.toNat)):=opI λ_ _ _ _ _ _ _ hc q=>lshift_int_small hc.1 hc.2.1 hc.2.2 q
theorem x0g:OpR X (binaryOp .RShift) (rI (λ_ j=>0<=j) λi j=>.int (i / 2^j.toNat)):=opI λi j _ _ _ _ _ hc q =>
 rshift_int hc (by rw[Int.fdiv_eq_ediv_of_nonneg i (y0e _)];exact q)
theorem m0j:OpR X (binaryOp .BitAnd) (rI0 λi j=>.int (Builtin.bitAnd i j)):=opI0 λ_ _ _ _ _ _ _ q=>and_int q
theorem i1c:OpR X (binaryOp .BitOr) (rI0 λi j=>.int (Builtin.bitOr i j)):=opI0 λ_ _ _ _ _ _ _ q=>or_int q
theorem g1h:OpR X (inplaceOp .BitOr) (rI0 λi j=>.int (Builtin.bitOr i j)):=opI0 λ_ _ _ _ _ _ _ q=>ior_int q
theorem unI {f:Value->Sem Value}{g:Int->Int}
  (rule:∀(i:Int) (t:Tok) (s:Shared) (Q:Value->Shared->Prop) (E:Value->Shared->Prop),Q (.int (g i) s.toks) {s with toks:=s.toks+1}->wpAny (model X.prog X.w) X.A (f (.int i t)) Q E s) :
  UnR X f (rU λi=>.int (g i)):=by
 intro pins s σ H x v Q I rx h
 obtain⟨i,rfl,q⟩:=h
 obtain⟨t,rfl⟩:=rx
 exact rule i t s _ _ ⟨.int (g i),H,I.tok _,⟨_,rfl⟩,q⟩
theorem m0f:UnR X (unaryOp .USub) (rU λi=>.int (-i)):=unI λ_ _ _ _ _ q=>neg_int q
end
section
variable {X:Cx}{a b c:Expr}{ta tb tc:TE}{pos:Pos}
theorem m1b {pins:List (Addr×Obj)}{σ:St}{H:Hp}{s:Shared}{Q:VK}{k k':Bool}(I:Inv X pins σ H s)(q:Q (.bl k) H)(e:k=k'):EP X pins σ Q (.bool k') s:=by
 subst e
 exact⟨.bl k,H,I,rfl,q⟩
theorem s0v:OpR X (compareOp .Lt) (rI0 λi j=>.bl (decide (i<j))):=opB0 λ_ _ _ _ _ _ _ q=>lt_int q
theorem a1y:OpR X (compareOp .LtE) (rI0 λi j=>.bl (decide (i<=j))):=opB0 λ_ _ _ _ _ _ _ q=>le_int q
theorem q0w:OpR X (compareOp .Gt) (rI0 λi j=>.bl (decide (j<i))):=opB0 λ_ _ _ _ _ _ _ q=>gt_int q
theorem y0p:OpR X (compareOp .GtE) (rI0 λi j=>.bl (decide (j<=i))):=opB0 λ_ _ _ _ _ _ _ q=>ge_int q
theorem a1x:OpR X (compareOp .IsNot) (λx y H Q=>y = .non/\Q (.bl (!decide (x = .non))) H):=by
 intro pins s σ H x y v u Q I rx ry h
 obtain⟨rfl,q⟩:=h
 cases ry
 refine isnot_none_gen (m1b I q ?_)
 cases x <;> first
  | (cases rx;rfl)
  | (obtain⟨t,rfl⟩:=rx;rfl)
theorem a0y (b:Expr){op:CmpOp}(h:op ≠ .In:=by decide)(h2:op ≠ .NotIn:=by decide):behindInMarks op b=false:=by
 have e1:(op==CmpOp.In)=false:=by cases op <;> first | rfl | exact absurd rfl h
 have e2:(op==CmpOp.NotIn)=false:=by cases op <;> first | rfl | exact absurd rfl h2
 cases b <;> simp[behindInMarks,e1,e2]
theorem f0z {op:CmpOp}{r:R2}(ho:OpR X (compareOp op) r)(ha:PE X a ta)(hb:PE X b tb)(hm:behindInMarks op b=false):PE X (.Compare a [op] [b] pos) (tOp r ta tb):=by
 intro pins s σ H Q I h
 exact wpAny_Compare1 (binT ha hb I h λv u s2 x y H2 I2 rx ry q=>ho pins s2 σ H2 x y v u Q I2 rx ry q) hm
def k1c (t:TE):TT:=λσ H Q=>t σ H λx H'=>∃k,x = .bl k/\Q k H'
theorem a0s {op:CmpOp}{r:R2}(ho:OpR X (compareOp op) r)(ha:PE X a ta)(hb:PE X b tb)(hm:behindInMarks op b=false):PT X (.Compare a [op] [b] pos) (k1c (tOp r ta tb)):=by
 intro pins s σ H Q I h
 refine wpAny_isTrue_Compare1 (thn (ha pins s σ H _ I h) λv s1 ⟨x,H1,I1,r1,q1⟩=>thn (hb pins s1 σ H1 _ I1 q1) λu s2 ⟨y,H2,I2,r2,q2⟩ =>
  thn (ho pins s2 σ H2 x y v u _ I2 r1 r2 q2) λc s3 ⟨z,H3,I3,r3,k,e,q3⟩=>?_) hm
 subst e
 cases r3
 exact wpAny_truthy_bool ⟨H3,I3,q3⟩
def f1w (r r':R2)(ta tb tc:TE):TE:=λσ H Q=>ta σ H λx H1=>tb σ H1 λy H2=>r x y H2 λz H3=>∃k,z = .bl k /\
 (if k=true then tc σ H3 λw' H4=>r' y w' H4 Q else Q (.bl false) H3)
theorem x0c {op op':CmpOp}{r r':R2}(ho:OpR X (compareOp op) r)(ho':OpR X (compareOp op') r')(ha:PE X a ta)(hb:PE X b tb)(hc:PE X c tc)
  (hm:lastMarks [op,op'] [b,c]=false:=by with_unfolding_all rfl):PE X (.Compare a [op,op'] [b,c] pos) (f1w r r' ta tb tc):=by
 intro pins s σ H Q I h
 refine Compare_chain (thn (ha pins s σ H _ I h) λv s1 ⟨x,H1,I1,r1,q1⟩=>chain_link (thn (hb pins s1 σ H1 _ I1 q1) λu s2 ⟨y,H2,I2,r2,q2⟩ =>
  thn (ho pins s2 σ H2 x y v u _ I2 r1 r2 q2) λd s3 ⟨z,H3,I3,r3,k,e,q3⟩=>?_)) hm
 subst e
 cases r3
 refine wpAny_truthy_bool ?_
 cases k with
 | false=>exact ite_ff ⟨.bl false,H3,I3,rfl,q3⟩
 | true=>exact ite_tt (chain_last (thn (hc pins s3 σ H3 _ I3 q3) λw' s4 ⟨z',H4,I4,r4,q4⟩=>ho' pins s4 σ H4 y z' u w' Q I4 r2 r4 q4))
def TruV (K:PySem.W.Frag)(x:V)(H:Hp)(k:Bool):Prop :=
 match x with
 | .non=>k=false
 | .bl b=>k=b
 | .int i=>k=(i != 0)
 | .str y=>y.length<=sizeLine/\k=((y.length:Int) != 0)
 | .byt y=>y.size<=sizeLine/\k=((y.size:Int) != 0)
 | .ref p=>(∃xs,SqL K H p xs/\k = !xs.isEmpty)∨(∃xs,SqT K H p xs/\k = !xs.isEmpty) ∨ ∃kvs,H p=some (.dK kvs)/\k = !kvs.isEmpty
 | _=>False
theorem y0w {κ:Type}{kvs:List (κ×V)}{vs:List (κ×Value)}(r:KV kvs vs):(!vs.isEmpty) = !kvs.isEmpty:=by
 cases r <;> rfl
theorem p0w {xs:List V}{its:List Value}(r:Vals xs its):(!its.toArray.isEmpty) = !xs.isEmpty:=by
 cases r <;> simp
theorem t0f:(sizeLine:Nat)<2^63:=by rw[sizeLine_eq];decide
theorem j1z:TruR X (λx H Q=>∃k,TruV X.K x H k/\Q k H):=by
 intro pins s σ H x v Q I rx h
 obtain⟨k,e,q⟩:=h
 have hl:=t0f
 have hs:sizeLine=16777216:=sizeLine_eq
 cases x with
 | non =>
  cases rx
  have e':k=false:=e
  subst e'
  exact truthy_none ⟨H,I,q⟩
 | bl b =>
  cases rx
  have e':k=b:=e
  subst e'
  exact wpAny_truthy_bool ⟨H,I,q⟩
 | int i =>
  obtain⟨t,rfl⟩:=rx
  have e':k=(i != 0):=e
  subst e'
  exact PySem.P.truthy_int ⟨H,I,q⟩
 | str y =>
  obtain⟨t,rfl⟩:=rx
  obtain⟨hy,e'⟩:y.length<=sizeLine/\k=((y.length:Int) != 0):=e
  subst e'
  exact PySem.P.truthy_str (by omega) ⟨H,I.tok _,q⟩
 | byt y =>
  obtain⟨t,rfl⟩:=rx
  obtain⟨hy,e'⟩:y.size<=sizeLine/\k=((y.size:Int) != 0):=e
  subst e'
  exact PySem.W.truthy_bytes (by omega) ⟨H,I.tok _,q⟩
 | ref p =>
  cases rx
  have e':(∃xs,SqL X.K H p xs/\k = !xs.isEmpty)∨(∃xs,SqT X.K H p xs/\k = !xs.isEmpty) ∨ ∃kvs,H p=some (.dK kvs)/\k = !kvs.isEmpty:=e
  rcases e' with⟨xs,hx,e'⟩ | ⟨xs,hx,e'⟩ | ⟨kvs,hx,e'⟩
  ·subst e'
   obtain⟨its,r,pl,hz⟩:=I.list hx
   have hlen:=r.length
   exact wpAny_truthy_list pl.isList (by simp only[List.size_toArray];omega) ⟨H,I.tok _,by rw[p0w r];exact q⟩
  ·subst e'
   obtain⟨its,r,pl,hz⟩:=I.tuple hx
   have hlen:=r.length
   exact truthy_tuple pl (by simp only[List.size_toArray];omega) ⟨H,I.tok _,by rw[p0w r];exact q⟩
  ·subst e'
   obtain⟨hz,hS,vs,r,m⟩:kvs.length<=sizeLine/\(p==sysModules)=false/\∃vs,KV kvs vs/\s.heap.DictOf (e0k X.prog X.w) p vs:=I.hok p _ hx
   have hlen:kvs.length=vs.length:=Paired.length r
   exact wpAny_truthy_dict hS m (by omega) ⟨H,I.tok _,by rw[y0w r];exact q⟩
 | _=>exact(show False from e).elim
theorem e1d (ha:PE X a ta)(he:∀whole,isTrue a X.env whole=(do let v <- whole;standAt a.pos;holding [v] (truthy v))) :
  PT X a (λσ H Q=>ta σ H λx H'=>∃k,TruV X.K x H' k/\Q k H'):=by
 intro pins s σ H Q I h
 exact isTrue_plain (thn (ha pins s σ H _ I h) λv s1 ⟨x,H1,I1,r1,q1⟩=>j1z pins s1 σ H1 x v Q I1 r1 q1) (he _)
theorem l0u {x:V}{us:List Value}(r:Vals [x] us):∃u,us=[u]/\RelV x u:=by
 cases r with
 | cons r1 r2=>cases r2;exact⟨_,rfl,r1⟩
end
structure ObjM (h:Heap)(x dx C:Addr)(mA:Str->Option Value):Prop where
 obj:h.get? x=some (PySem.W.instObj C dx)
 ns:h.Ns1 dx mA
 ne:dx≠x
theorem b1j {h:Heap}{dx:Addr}{mA:Str->Option Value}(n:h.Ns1 dx mA):∃od,h.get? dx=some od/\∀name,PySem.W.lookIn name od=some (mA name):=by
 obtain⟨o,es,ep,ho,hd,hk,_,hm⟩:=n
 refine⟨o,ho,λname=>?_⟩
 have e:=hm name
 unfold nsFind findBy at e
 rw[<- Array.find?_toList]at e
 unfold PySem.W.lookIn
 rw[hd]
 dsimp only
 split
 ·rename_i y q
  rw[q]at e
  exact congrArg some e
 ·rename_i q
  rw[q]at e
  have a:es.toList.any (·.refKey)=false:=by
   rw[List.any_eq_false]
   intro y hy
   obtain⟨z,t,hkey⟩:=hk y (Array.mem_toList_iff.mp hy)
   simp[DictEntry.refKey,hkey]
  have a':¬es.toList.any (·.refKey)=true:=by rw[a];exact Bool.false_ne_true
  rw[if_neg a']
  exact congrArg some e
theorem ObjM.look {h:Heap}{x dx C:Addr}{mA:Str->Option Value}(I:ObjM h x dx C mA):∃od,PySem.W.InstAt h x (PySem.W.instObj C dx) C (some od)/\∀name,PySem.W.lookIn name od=some (mA name) :=
 let ⟨od,ho,hl⟩:=b1j I.ns
 ⟨od,⟨I.obj,rfl,rfl,ho⟩,hl⟩
theorem RelO.some_of {v:V}{o:Option Value}(r:RelO (some v) o):∃u,o=some u/\RelV v u:=by
 cases o with
 | none=>exact(show False from r).elim
 | some u=>exact⟨u,rfl,r⟩
section
variable {P:Program}{w:World}{H H':Hp}{h h':Heap}{a C dx:Addr}{fs fs':List (Str×V)}
theorem i1s (hok:HOk P w H h)(e:H a=some (.ins C dx fs)):∃mA,ObjM h a dx C mA/\(∀f,RelO (fs.lookup f) (mA f))/\PySem.Within mA (fs.map (·.1))/\fs.length<=1000/\H dx=some (.own a):=by
 obtain⟨d,z,ne,ob,mA,n,r,q⟩:=(show e0s P w H h a (.ins C dx fs)from hok a _ e)
 exact⟨mA,⟨ob,n,ne⟩,r,q,z,d⟩
end
structure Cls (K:PySem.W.Frag)(C:Addr):Prop where
 pg:PySem.W.plainGet K C Str.empty=true
 hd:PySem.W.hasDictIn K C=true
 po:PySem.W.plainOver K C=true
 sa:PySem.W.findIn K (.ref C) "__setattr__" = some (some (.builtin "object.__setattr__"))
theorem Cls.get {K:PySem.W.Frag}{C:Addr}(c:Cls K C)(f:Str):PySem.W.plainGet K C f=true:=c.pg
section
variable {X:Cx}{pins:List (Addr×Obj)}{σ:St}{H:Hp}{s:Shared}{A:Around}{E:Value->Shared->Prop}{Q:Value->Shared->Prop}{c:Value}{b:Bool}
inductive TyOf (K:PySem.W.Frag) (H:Hp):V->Value->Prop where
 | non:TyOf K H .non (.type "NoneType")
 | bl (x:Bool):TyOf K H (.bl x) (.type "bool")
 | int (i:Int):TyOf K H (.int i) (.type "int")
 | str (x:Str):TyOf K H (.str x) (.type "str")
 | flt (x:UInt64):TyOf K H (.flt x) (.type "float")
 | lst {a:Addr} {xs:List V} (e:H a=some (.lst xs)):TyOf K H (.ref a) (.type "list")
 | frz {a:Addr} {o:Obj} {xs:List V} (e:H a=some (.frz o (.lst xs))):TyOf K H (.ref a) (.type "list")
 | tup {a:Addr} {xs:List V} (e:H a=some (.tup xs)):TyOf K H (.ref a) (.type "tuple")
 | dK {a:Addr} {kvs:List (Key×V)} (e:H a=some (.dK kvs)):TyOf K H (.ref a) (.type "dict")
 | dT {a:Addr} {kvs:List (List Key×V)} (e:H a=some (.dT kvs)):TyOf K H (.ref a) (.type "dict")
 | ins {a C dx:Addr} {fs:List (Str×V)} (e:H a=some (.ins C dx fs)) (cl:Cls K C) (ha:PySem.W.findIn K (.ref C) "__class__" = some (some (.builtin "object.__class__")))
   (hn:PySem.W.specialIn K (.builtin "object.__class__") "__get__" = some (some (.builtin "getset_descriptor.__get__"))) (htk:PySem.W.takesIn K (.builtin "object.__class__")=some true)
   (hm:PySem.W.mroIn K C (.type "object")=some true):TyOf K H (.ref a) (.ref C)
theorem l0i {x:V}{u t:Value}(I:Inv X pins σ H s)(rx:RelV x u)(ty:TyOf X.K H x t)(e:PySem.W.kitOne X.K t c=some b)(h:∀tk,Q (.bool b) {s with toks:=tk}) :
  wpAny (model X.prog X.w) A (call (.builtin "isinstance") [u,c]) Q E s:=by
 cases ty with
 | non=>cases (show u=Value.none from rx);exact PySem.W.kia_one PySem.W.kitx_none I.kIn True.intro e (λz=>nomatch z) h
 | bl y=>cases (show u=Value.bool y from rx);exact PySem.W.kia_one PySem.W.kitx_bool I.kIn True.intro e (λz=>nomatch z) h
 | int i=>obtain⟨t,q⟩:=(show ∃t,u=Value.int i t from rx);cases q;exact PySem.W.kia_one PySem.W.kitx_int I.kIn True.intro e (λz=>nomatch z) h
 | str y=>obtain⟨t,q⟩:=(show ∃t,u=Value.str y t from rx);cases q;exact PySem.W.kia_one PySem.W.kitx_str I.kIn True.intro e (λz=>nomatch z) h
 | flt y=>obtain⟨t,q⟩:=(show ∃t,u=Value.float y t from rx);cases q;exact PySem.W.kia_one PySem.W.kitx_float I.kIn True.intro e (λz=>nomatch z) h
 | @lst a xs ea =>
  cases (show u=Value.ref a from rx)
  obtain⟨_,_,n,_,h1⟩:=(show e0s X.prog X.w H s.heap a (.lst xs)from I.hok a _ ea)
  exact PySem.W.kia_one PySem.W.kitx_list I.kIn ⟨_,h1,rfl⟩ e (λz=>nomatch z) h
 | @frz a ob xs ea =>
  cases (show u=Value.ref a from rx)
  obtain⟨_,_,_,n,_,h1⟩:=(show e0s X.prog X.w H s.heap a (.frz ob (.lst xs))from I.hok a _ ea)
  exact PySem.W.kia_one PySem.W.kitx_list I.kIn ⟨_,h1,rfl⟩ e (λz=>nomatch z) h
 | @tup a xs ea =>
  cases (show u=Value.ref a from rx)
  obtain⟨_,_,_,p⟩:=(show e0s X.prog X.w H s.heap a (.tup xs)from I.hok a _ ea)
  obtain⟨o,h1,h2,_⟩:=p
  exact PySem.W.kia_one PySem.W.kitx_tuple I.kIn ⟨o,h1,h2⟩ e (λz=>nomatch z) h
 | @dK a kvs ea =>
  cases (show u=Value.ref a from rx)
  obtain⟨_,_,vs,_,p⟩:=(show e0s X.prog X.w H s.heap a (.dK kvs)from I.hok a _ ea)
  obtain⟨o,es,ep,h1,h2,_⟩:=p
  exact PySem.W.kia_one PySem.W.kitx_dict I.kIn ⟨o,h1,h2.1⟩ e (λz=>nomatch z) h
 | @dT a kvs ea =>
  cases (show u=Value.ref a from rx)
  obtain⟨_,_,xs,_,o,es,ep,h1,h2,_⟩:=(show e0s X.prog X.w H s.heap a (.dT kvs)from I.hok a _ ea)
  exact PySem.W.kia_one PySem.W.kitx_dict I.kIn ⟨o,h1,h2.1⟩ e (λz=>nomatch z) h
 | @ins a C dx fs ea cl ha hn htk hm =>
  cases (show u=Value.ref a from rx)
  obtain⟨mA,O,_⟩:=i1s I.hok ea
  obtain⟨od,J,_⟩:=O.look
  exact PySem.W.kia_one (PySem.W.kitx_own (cl.get _) cl.hd ha hn htk hm) I.kIn J e (λz=>nomatch z) h
end
structure Room (k:Nat)(A:Around):Prop where
 hd:A.handled=none
 dp:A.depth+3*k+5<recursionLimit
 un:A.units+16*k+200<cLine
 gd:A.guards=some []
theorem Room.mono {j k:Nat}{A:Around}(r:Room k A)(h:j<=k):Room j A:=⟨r.hd,by have:=r.dp;omega,by have:=r.un;omega,r.gd⟩
theorem Room.deeper {k:Nat}{A:Around}(r:Room (k+1) A)(env:Env):Room k (A.deeper env) :=
 ⟨r.hd,by have:=r.dp;show A.depth+1+3*k+5<_;omega,by have:=r.un;show A.units+3+16*k+200<_;omega,r.gd⟩
theorem Room.depth {k:Nat}{A:Around}(r:Room k A):A.depth<recursionLimit:=by have:=r.dp;omega
theorem Room.units {k:Nat}{A:Around}(r:Room k A):A.units+64<cLine:=by have:=r.un;omega
def tNil:TA:=λ_ H Q=>Q [] H
def h1h (ta:TE)(tr:TA):TA:=λσ H Q=>ta σ H λx H1=>tr σ H1 λxs H2=>Q (x::xs) H2
section
variable {X:Cx}{e:Expr}{es:List Expr}{te:TE}{t:TA}{pos:Pos}
theorem a0f:PA X [] tNil:=λ_ _ _ _ H Q I h=>Calls.spliced_nil ⟨[],H,I,.nil,h⟩
theorem a0c (ha:PE X e te)(hr:PA X es t)(hs:starEach (e::es) X.env=(false,eval e X.env)::starEach es X.env:=by rfl):PA X (e::es) (h1h te t):=by
 intro pos pins s σ H Q I h
 rw[hs]
 show wpAny _ _ (spliced ((false,eval e X.env)::backTo pos (starEach es X.env))) _ _ s
 refine Calls.spliced_cons (thn (ha pins s σ H _ I h) λu s1 ⟨x,H1,I1,r1,q1⟩=>?_)
 exact thn (hr pos pins s1 σ H1 _ I1 q1) λus s2 ⟨xs,H2,I2,r2,q2⟩=>⟨x::xs,H2,I2,.cons r1 r2,q2⟩
def tTup (t:TA):TE:=λσ H Q=>t σ H λxs H1=>xs.length<=sizeLine/\∀p,H1 p=none->Q (.ref p) (upd H1 p (.tup xs))
def tLst (t:TA):TE:=λσ H Q=>t σ H λxs H1=>xs.length<=sizeLine/\∀p,H1 p=none->Q (.ref p) (upd H1 p (.lst xs))
theorem e0c {x1}(h:PA X es t):PE X (.Tuple es x1 pos) (tTup t):=by
 intro pins s σ H Q I hq
 refine wpAny_Tuple_spliced (thn (h pos pins s σ H _ I hq) λus s1 ⟨xs,H1,I1,r,z,q⟩=>⟨by rw[<- r.length];exact z,?_⟩)
 have hf:H1 s1.heap.objs.size=none:=I1.hok.fresh (Nat.le_refl _)
 refine⟨.ref s1.heap.objs.size,upd H1 s1.heap.objs.size (.tup xs),I1.laid (t':=s1.toks) (λb u e=>Heap.get?_push_of_some _ e) (Nat.le_refl _) ?_,rfl,q _ hf⟩
 exact⟨z,us,r,⟨_,Heap.get?_push_size _ rfl,rfl,_,rfl⟩⟩
theorem b0w (h:PA X es t):PE X (.List es pos) (tLst t):=by
 intro pins s σ H Q I hq
 refine wpAny_List_spliced (thn (h pos pins s σ H _ I hq) λus s1 ⟨xs,H1,I1,r,z,q⟩=>⟨by rw[<- r.length];exact z,?_⟩)
 have hf:H1 s1.heap.objs.size=none:=I1.hok.fresh (Nat.le_refl _)
 refine⟨.ref s1.heap.objs.size,upd H1 s1.heap.objs.size (.lst xs),I1.laid (t':=s1.toks) (λb u e=>Heap.get?_push_of_some _ e) (Nat.le_refl _) ?_,rfl,q _ hf⟩
 exact⟨z,us,0,r,Heap.get?_push_size _ rfl⟩
end
abbrev Sp:=List V->Hp->VK->XK->Prop
abbrev CXT:=List Env->Hp->Shared->XK->Value->Shared->Prop
structure Env0 (P:Program)(w:World)(K:PySem.W.Frag)(mg:Str->Option Value)(base:Heap)(A:Around)(outer:List Env)(s:Shared)(H:Hp):Prop where
 frames:A.frames=some outer
 mod:Mod K mg base
 bs:∀b o,base.get? b=some o->s.heap.get? b=some o/\H b=none
 bsz:base.objs.size<=s.heap.objs.size
 funs:s.heap.FunFrames base outer
 frf:∀b∈frs outer,H b=none
 hok:HOk P w H s.heap
 bare:AllBare s.gens
def CE (outer:List Env)(P:Program)(w:World)(H:Hp)(s:Shared)(Q:VK)(u:Value)(s':Shared):Prop :=
 ∃v H',s'.os=s.os/\AllBare s'.gens/\Un (frs outer) [] H H' s.heap s'.heap/\HOk P w H' s'.heap/\RelV v u/\Q v H'
def CR (CX:CXT)(outer:List Env)(P:Program)(w:World)(H:Hp)(s:Shared)(Q:VK)(E:XK)(r:Result)(s':Shared):Prop :=
 match r with
 | .ok (.ret u)=>CE outer P w H s Q u s'
 | .ok _=>False
 | .error e=>CX outer H s E e s'
structure FnOk (P:Program)(w:World)(K:PySem.W.Frag)(mg:Str->Option Value)(base:Heap)(CX:CXT)(k:Nat)(f:Addr)(fd:FuncData)(ps:List Str)(sp:Sp):Prop where
 len:∀vs H Q E,sp vs H Q E->vs.length=ps.length
 run:∀(A:Around) (outer:List Env) (s:Shared) (H:Hp) (args:Args) (us:List Value) (vs:List V) (Q:VK) (E:XK),Room k A->Env0 P w K mg base A outer s H->BindsTo s fd args (ps.zip us)->Vals vs us->sp vs H Q E ->
  codeAny (model P w) A (.call (.ref f) args) (CR CX outer P w H s Q E) s
theorem FnOk.imp {P:Program}{w:World}{K:PySem.W.Frag}{mg:Str->Option Value}{base:Heap}{CX:CXT}{k:Nat}{f:Addr}{fd:FuncData}{ps:List Str}{sp sp':Sp}(F:FnOk P w K mg base CX k f fd ps sp)
  (h:∀vs H Q E,sp' vs H Q E->sp vs H Q E):FnOk P w K mg base CX k f fd ps sp' :=
 ⟨λvs H Q E q=>F.len vs H Q E (h _ _ _ _ q),λA outer s H args us vs Q E hr he hb hv hs=>F.run A outer s H args us vs Q E hr he hb hv (h _ _ _ _ hs)⟩
section
variable {X:Cx}{pins:List (Addr×Obj)}{σ:St}{H:Hp}{s s':Shared}
theorem Inv.env0 (I:Inv X pins σ H s):Env0 X.prog X.w X.K X.mg X.base X.A X.stack s H :=
 ⟨I.ok.frames,I.ok.mod,I.bs,Nat.le_trans I.ok.bsz I.sz,I.stack,I.stkFree,I.hok,I.bare⟩
theorem Inv.after {Q:VK}{u:Value}(I:Inv X pins σ H s)(h:CE X.stack X.prog X.w H s Q u s'):EP X pins σ Q u s':=by
 obtain⟨v,H',os,bare,un,hok,r,q⟩:=h
 obtain⟨hh,g,d,t,os'⟩:=s'
 obtain rfl:os'=s.os:=os
 exact⟨v,H',I.call (h':=hh) (g':=g) (d':=d) (t':=t) (ch:=[]) un hok bare (λb z=>absurd z (by simp)),r,q⟩
end
def h1i (sp:Sp)(dvs:List V)(E:XK)(t:TA):TE:=λσ H Q=>t σ H λvs H1=>sp (vs++dvs) H1 Q E
def d1m (K:PySem.W.Frag)(fd:FuncData)(ps:List Str)(ds:List Value):Prop :=
 ∀(s:Shared) (us:List Value),K.In s.heap->(us++ds).length=ps.length->BindsTo s fd ⟨us,[]⟩ (ps.zip (us++ds))
theorem d1m.all {K:PySem.W.Frag}{fd:FuncData}{ps:List Str}(h:∀us:List Value,us.length=ps.length->bindArgs fd ⟨us,[]⟩=pure (ps.zip us)):d1m K fd ps []:=λs us _ hl=>by
 rw[List.append_nil]at hl ⊢
 exact .of_eq (h us hl)
def d1l (CX:CXT)(X:Cx)(E:XK):Prop:=∀(pins:List (Addr×Obj)) (σ:St) (H:Hp) (s:Shared) (e:Value) (s':Shared),Inv X pins σ H s->CX X.stack H s E e s'->X.xe e s'
section
variable {X:Cx}{CX:CXT}{k:Nat}{f C:Addr}{fd:FuncData}{ps:List Str}{sp:Sp}{dvs:List V}{ds:List Value}{E:XK}{x m:Str}{p pos apos:Pos}{e o:Expr}{es:List Expr}{ta:TE}{t:TA}
theorem k1n {pins:List (Addr×Obj)}{σ:St}{H:Hp}{s:Shared}{Q:VK}{us:List Value}{vs:List V}(F:FnOk X.prog X.w X.K X.mg X.base CX k f fd ps sp)(hr:Room k X.A)(hb:d1m X.K fd ps ds)(hd:Vals dvs ds)(hx:d1l CX X E)
  (I:Inv X pins σ H s) (r:Vals vs us) (h:sp (vs++dvs) H Q E):wpAny (model X.prog X.w) X.A (call (.ref f) us) (EP X pins σ Q) X.xe s:=by
 have r2:Vals (vs++dvs) (us++ds):=r.append hd
 have hl:(us++ds).length=ps.length:=by rw[<- r2.length];exact F.len _ _ _ _ h
 refine wpAny_call (codeAny_mono (F.run X.A X.stack s H ⟨us,[]⟩ (us++ds) (vs++dvs) Q E hr I.env0 (hb s us I.kIn hl) r2 h) λr s' hq=>?_)
 cases r with
 | error e=>exact hx pins σ H s e s' I hq
 | ok fl =>
  cases fl with
  | ret u=>exact I.after hq
  | next=>exact False.elim hq
  | brk=>exact False.elim hq
  | cont=>exact False.elim hq
theorem h1x (F:FnOk X.prog X.w X.K X.mg X.base CX k f fd ps sp)(hr:Room k X.A)(hg:Gl X x)(hm:X.mg x=some (.ref f))(hk:PySem.W.keepIn X.K (.ref f)=true)(hb:d1m X.K fd ps ds)(hd:Vals dvs ds)(hx:d1l CX X E)
  (ha:PA X (e::es) t) (hdb:(x==("__debug__" : Str))=false:=by decide) (he:starEach (e::es) X.env=(false,eval e X.env)::starEach es X.env:=by rfl) (hpl:(backTo pos (starEach es X.env)).any (·.1)=false:=by rfl) :
  PE X (.Call (.Name x p) (e::es) [] pos) (h1i sp dvs E t):=by
 intro pins s σ H Q I h
 refine wpAny_Call_Name_kw (i1n I hg hm ?_ hdb)
 refine PySem.W.callWith_K (h₀:=X.base) I.ok.mod.kin hk (thn (ha pos pins s σ H _ I h) λus s1 ⟨vs,H1,I1,r,q⟩=>⟨I1.kIn,?_⟩) he hpl
 exact k1n F hr hb hd hx I1 r q
end
structure b0j (N P:List Str)(sc:Scope):Prop where
 kind:sc.kind = .function
 co:sc.isCoroutine=false
 gen:sc.isGenerator=false
 nd:N.Nodup
 pre:N.take P.length=P
 par:∀x∈P,sc.names.lookup x=some .local∨sc.names.lookup x=some .cell
 nofree:∀y∈sc.names,y.2 ≠ .free
theorem u0g {kindOf:Str->Option NameKind}{x:Str}:∀ {binds:List (Str×Value)} {m:Str->Option Value},(∀v,(x,v)∉binds)->bindL kindOf binds m x=m x
 | [],_,_=>rfl
 | (n,v)::r,m,h=>by
  unfold bindL
  rw[u0g λw hw=>h w (List.mem_cons_of_mem _ hw)]
  split
  ·have:x≠n:=by rintro rfl;exact h v List.mem_cons_self
   simp[this]
  ·rfl
theorem u0i {kindOf:Str->Option NameKind}{x:Str}:∀ {binds:List (Str×Value)} {m:Str->Option Value},(∀v,(x,v)∉binds)->bindC kindOf binds m x=m x
 | [],_,_=>rfl
 | (n,v)::r,m,h=>by
  unfold bindC
  rw[u0i λw hw=>h w (List.mem_cons_of_mem _ hw)]
  split
  ·rfl
  ·have:x≠n:=by rintro rfl;exact h v List.mem_cons_self
   simp[this]
theorem u0h {kindOf:Str->Option NameKind}{x:Str}{v:Value}:∀ {P:List Str} {vs:List Value} {i:Nat} {m:Str->Option Value},P.Nodup->P[i]? = some x->vs[i]? = some v->kindOf x=some .local ->
  bindL kindOf (P.zip vs) m x=some v
 | [],_,_,_,_,h,_,_=>by simp at h
 | _::_,[],_,_,_,_,h,_=>by simp at h
 | p::P,w::vs,0,m,nd,h1,h2,hk=>by
  simp at h1 h2;subst h1;subst h2
  show bindL kindOf ((p,w)::P.zip vs) m p=_
  unfold bindL
  rw[u0g λv hv=>(List.nodup_cons.mp nd).1 (List.of_mem_zip hv).1,if_pos hk]
  simp
 | p::P,w::vs,i+1,m,nd,h1,h2,hk=>by
  show bindL kindOf ((p,w)::P.zip vs) m x=_
  unfold bindL
  exact u0h (i:=i) (List.nodup_cons.mp nd).2 (by simpa using h1) (by simpa using h2) hk
theorem u0j {kindOf:Str->Option NameKind}{x:Str}{v:Value}:∀ {P:List Str} {vs:List Value} {i:Nat} {m:Str->Option Value},P.Nodup->P[i]? = some x->vs[i]? = some v->kindOf x≠some .local ->
  bindC kindOf (P.zip vs) m x=some v
 | [],_,_,_,_,h,_,_=>by simp at h
 | _::_,[],_,_,_,_,h,_=>by simp at h
 | p::P,w::vs,0,m,nd,h1,h2,hk=>by
  simp at h1 h2;subst h1;subst h2
  show bindC kindOf ((p,w)::P.zip vs) m p=_
  unfold bindC
  rw[u0i λv hv=>(List.nodup_cons.mp nd).1 (List.of_mem_zip hv).1,if_neg hk]
  simp
 | p::P,w::vs,i+1,m,nd,h1,h2,hk=>by
  show bindC kindOf ((p,w)::P.zip vs) m x=_
  unfold bindC
  exact u0j (i:=i) (List.nodup_cons.mp nd).2 (by simpa using h1) (by simpa using h2) hk
def start (N:List Str)(vs:List V):St:=vs.map some++List.replicate (N.length - vs.length) none
def cxOf (CX:CXT)(P:Program)(w:World)(K:PySem.W.Frag)(mg:Str->Option Value)(base:Heap)(N:List Str)(qual:Str)(scope:Scope)(f:Addr)(cd:Value)(A:Around)(outer:List Env)(s:Shared)(H:Hp)(E:XK):Cx where
 prog:=P
 w:=w
 K:=K
 mg:=mg
 base:=base
 A:=A.deeper (envOfC qual scope s.heap.objs.size f cd)
 N:=N
 s₀:=s
 H₀:=H
 env:=envOfC qual scope s.heap.objs.size f cd
 outer:=outer
 stack:=envOfC qual scope s.heap.objs.size f cd::outer
 ex:=[]
 calm:=true
 fn:=λ_=>true
 pn:=[]
 xe:=λe s'=>wpAny (model P w) (A.deeper (envOfC qual scope s.heap.objs.size f cd)) (leaving (envOfC qual scope s.heap.objs.size f cd) e) (λ_ s''=>CX outer H s E e s'') (λe' s''=>CX outer H s E e' s'') s'
theorem x0u {sc:Scope}{n:Nat}{x:Str}(h:sc.names.lookup x=some .cell):∃c,(cellsFrom n sc.names []).lookup x=some c:=by
 have q:=PySem.W.cellsFrom_some sc.names n [] (.inl h)
 exact Option.isSome_iff_exists.mp q
theorem b1q {CX:CXT}{P:Program}{w:World}{K:PySem.W.Frag}{mg:Str->Option Value}{base:Heap}{N ps:List Str}{qual:Str}{scope:Scope}{f:Addr}{cd:Value}{A:Around}{outer:List Env}{s s1:Shared}{H:Hp}{E:XK}{us:List Value}{vs:List V}
  (S:b0j N ps scope) (hd:A.handled=none) (e0:Env0 P w K mg base A outer s H) (hl:vs.length=ps.length) (r:Vals vs us)
  (x:InCallC s s.heap.objs.size (bindL (envOfC qual scope s.heap.objs.size f cd).kindOf (ps.zip us) λ_=>none) (cellsFrom (s.heap.objs.size+1) scope.names []) (bindC (envOfC qual scope s.heap.objs.size f cd).kindOf (ps.zip us) λ_=>none) s1) :
  Inv (cxOf CX P w K mg base N qual scope f cd A outer s H E) [] (start N vs) H s1:=by
 have hpl:ps.length<=N.length:=by have:=congrArg List.length S.pre;rw[List.length_take]at this;omega
 obtain⟨h1,tk,rfl,hk⟩:=x.done
 have noA:∀b:Addr,b∉(cxOf CX P w K mg base N qual scope f cd A outer s H E).ex:=λb z=>absurd (show b∈([]:List Addr)from z) (by simp)
 refine⟨⟨e0.mod,S.kind,rfl,rfl,Nat.le_refl _,λy z c h1 h2=>?_,λy hy=>?_,λy c _ h=>?_,λ_=>hd,Around.frames_deeper e0.frames,.inr ⟨rfl,rfl⟩,λb z=>absurd z (noA b),e0.bs,e0.bsz,λb _ _=>noA b,λb z=>absurd z (noA b),e0.funs,e0.frf⟩,
  rfl,e0.bare,Un.kept hk,⟨_,x.toInCall.ns,λi y v h1 h2 h3=>?_⟩,λy c h=>⟨_,x.cell y c h⟩,e0.hok.fresh (Nat.le_refl _),λy c h=>?_,λp hp=>absurd (show p∈([]:List (Addr×Obj))from hp) (by simp),e0.hok.kept hk,?_⟩
 ·exact name_of_addr x.apart (PySem.mem_of_lookup h1) (PySem.mem_of_lookup h2)
 ·have hy:scope.names.lookup y=some .cell∨scope.names.lookup y=some .free:=hy
  rcases hy with hy | hy
  ·exact x0u hy
  ·exact absurd rfl (S.nofree _ (PySem.mem_of_lookup hy))
 ·exact Nat.le_of_lt (x.above y c (PySem.mem_of_lookup h))
 ·have hi:i<vs.length:=by
   unfold start at h2
   by_cases hi:i<vs.length
   ·exact hi
   ·rw[List.getElem?_append_right (by simpa using hi)]at h2
    rw[List.getElem?_replicate]at h2
    split at h2 <;> cases h2
  have ha:vs[i]? = some v:=by
   unfold start at h2
   rw[List.getElem?_append_left (by simpa using hi),List.getElem?_map]at h2
   cases e:vs[i]? with
   | none=>rw[e]at h2;cases h2
   | some a=>rw[e]at h2;cases h2;rfl
  obtain⟨u,hu,rv⟩:=r.get ha
  have hp:ps[i]? = some y:=by
   rw[<- S.pre,List.getElem?_take_of_lt (by omega)];exact h1
  have ndP:ps.Nodup:=by rw[<- S.pre];exact S.nd.sublist (List.take_sublist _ _)
  refine⟨u,rv,?_⟩
  rcases S.par y (List.mem_of_getElem? hp)with k | k
  ·exact .inl ⟨k,u0h ndP hp hu k⟩
  ·obtain⟨c,e⟩:=x0u (n:=s.heap.objs.size+1) k
   refine .inr ⟨.inl k,c,e,?_⟩
   have q:=x.cell y c e
   rw[u0j ndP hp hu (by show scope.names.lookup y≠_;rw[k];decide)]at q
   exact q
 ·exact e0.hok.fresh (Nat.le_of_lt (x.above y c (PySem.mem_of_lookup h)))
 ·unfold start
  show _=N.length
  rw[List.length_append,List.length_map,List.length_replicate]
  omega
theorem n1h {CX:CXT}{P:Program}{w:World}{K:PySem.W.Frag}{mg:Str->Option Value}{base:Heap}{k:Nat}{f:Addr}{name qual:Str}{params:Arguments}{body:List Stmt}{scope:Scope}{dV kV doc pm cdv ct oc:Value}{an od:Option Addr}
  {osl:Array (Option Value)} {N ps:List Str} {sp:Sp} (lk:K.lookup f=some ⟨oc,od,.func (PySem.W.fnOf name qual params body scope dV kV doc pm an cdv ct),osl⟩) (hcd:PySem.W.codeIn K cdv qual=true) (S:b0j N ps scope)
  (len:∀vs H Q E,sp vs H Q E->vs.length=ps.length)
  (hbody:∀(A:Around) (outer:List Env) (s:Shared) (H:Hp) (vs:List V) (Q:VK) (E:XK),Room k (A.deeper (envOfC qual scope s.heap.objs.size f cdv))->sp vs H Q E ->
   ∃t,PSs (cxOf CX P w K mg base N qual scope f cdv A outer s H E) body t/\t {nx:=λ_ H'=>Q .non H',rt:=Q} (start N vs) H) :
  FnOk P w K mg base CX (k+1) f (PySem.W.fnOf name qual params body scope dV kV doc pm an cdv ct) ps sp:=by
 refine⟨len,λA outer s H args us vs Q E hr e0 hb r hsp=>?_⟩
 have hl:=len _ _ _ _ hsp
 have KX:K.In s.heap:=e0.mod.kin.keeps λb o e=>(e0.bs b o e).1
 have lim:s.heap.NoLimit:=e0.mod.nolimit.keeps λb o e=>(e0.bs b o e).1
 have hkind:∀y∈ps.zip us,scope.names.lookup y.1=some .local∨(scope.names.lookup y.1=some .cell/\((cellsFrom (s.heap.objs.size+1) scope.names []).lookup y.1).isSome=true):=λ⟨n,v⟩ hy=>by
  rcases S.par n (List.of_mem_zip hy).1 with q | q
  ·exact .inl q
  ·exact .inr ⟨q,PySem.W.cellsFrom_some _ _ _ (.inl q)⟩
 refine codeAny_call_function hr.depth (KX _ _ lk) rfl S.co S.gen rfl (PySem.W.codeRec_of KX hcd) (hb _ _ _ _ ?_)
 refine wpAny_newFunctionEnv_cells S.kind hkind λenv he s1 x=>?_
 subst he
 refine⟨lim.keeps x.toInCall.keep,codeAny_func ?_⟩
 obtain⟨t,ht,hq⟩:=hbody A outer s H vs Q E (hr.deeper _) hsp
 have I:Inv (cxOf CX P w K mg base N qual scope f cdv A outer s H E) [] (start N vs) H s1:=b1q S hr.hd e0 hl r x
 refine wpAny_mono (ht [] s1 (start N vs) H _ I hq) (λfl s' hs=>?_) λe s' hs=>hs
 have fin:∀ {σ':St} {H':Hp} {v:V} {u:Value},Inv (cxOf CX P w K mg base N qual scope f cdv A outer s H E) [] σ' H' s'->RelV v u->Q v H'->CE outer P w H s Q u s' :=
  λ{σ' H' v u} J rv q=>⟨v,H',J.os,J.bare,J.base,J.hok,rv,q⟩
 cases fl with
 | ret u =>
  obtain⟨v,σ',H',J,rv,q⟩:=hs
  exact fin J rv q
 | next =>
  obtain⟨σ',H',J,q⟩:=hs
  exact fin (v:=V.non) (u:=Value.none) J rfl q
 | brk =>
  obtain⟨_,_,_,q⟩:=hs
  exact False.elim q
 | cont =>
  obtain⟨_,_,_,q⟩:=hs
  exact False.elim q
section
variable {X:Cx}{x:Str}{p pos:Pos}{e:Expr}{es:List Expr}{t:TA}{id T:String}{r:List V->Hp->VK->Prop}
def tCB (r:List V->Hp->VK->Prop)(t:TA):TE:=λσ H Q=>t σ H λvs H1=>r vs H1 Q
theorem a0r (hc:k0t X (.builtin id) r)(hg:Gl X x)(hm:X.mg x=none)(hv:bootBuiltins x=some (.builtin id))(ha:PA X (e::es) t)(hn:x ≠ "__name__" := by decide)(hdb:(x==("__debug__" : Str))=false:=by decide)
  (he:starEach (e::es) X.env=(false,eval e X.env)::starEach es X.env:=by rfl) (hpl:(backTo pos (starEach es X.env)).any (·.1)=false:=by rfl):PE X (.Call (.Name x p) (e::es) [] pos) (tCB r t):=by
 intro pins s σ H Q I h
 refine wpAny_Call_Name_kw (j0d I hg hm hv ?_ hn hdb)
 exact PyProof.Rows.callWith_builtin1 (thn (ha pos pins s σ H _ I h) λus s1 ⟨vs,H1,I1,r1,q1⟩=>hc pins s1 σ H1 vs us Q I1 r1 q1) he hpl
theorem j0a (hc:k0t X (.type T) r)(hg:Gl X x)(hm:X.mg x=none)(hv:bootBuiltins x=some (.type T))(ha:PA X (e::es) t)(hn:x ≠ "__name__" := by decide)(hdb:(x==("__debug__" : Str))=false:=by decide)
  (he:starEach (e::es) X.env=(false,eval e X.env)::starEach es X.env:=by rfl) (hpl:(backTo pos (starEach es X.env)).any (·.1)=false:=by rfl):PE X (.Call (.Name x p) (e::es) [] pos) (tCB r t):=by
 intro pins s σ H Q I h
 refine wpAny_Call_Name_kw (j0d I hg hm hv ?_ hn hdb)
 exact PyProof.Rows.callWith_type1 (thn (ha pos pins s σ H _ I h) λus s1 ⟨vs,H1,I1,r1,q1⟩=>hc pins s1 σ H1 vs us Q I1 r1 q1) he hpl
end
end L2
namespace HT
open PySem PyProof.Rows
def lexLt:List Int->List Int->Bool
 | [],[]=>false
 | [],_::_=>true
 | _::_,[]=>false
 | x::xs,y::ys=>if x=y then lexLt xs ys else decide (x<y)
theorem lexLt_cons (x y:Int)(xs ys:List Int):lexLt (x::xs) (y::ys)=if x=y then lexLt xs ys else decide (x<y):=rfl
theorem lexLt_nil_nil:lexLt [] []=false:=rfl
theorem lexLt_nil_cons (y:Int)(ys:List Int):lexLt [] (y::ys)=true:=rfl
theorem lexLt_cons_nil (x:Int)(xs:List Int):lexLt (x::xs) []=false:=rfl
section
variable {prog:Program}{w:World}{A:Around}{E:Value->Shared->Prop}{s:Shared}
def sIx (n d:Nat):Option Int->Nat
 | none=>d
 | some v=>if v<0 then(v+(n:Int)).toNat else min v.toNat n
theorem sIx_nat (n d k:Nat):sIx n d (some (k:Int))=min k n:=by
 show(if(k:Int)<0 then((k:Int)+(n:Int)).toNat else min (k:Int).toNat n)=min k n
 rw[if_neg (by omega),Int.toNat_natCast]
theorem k1m (n d:Nat)(hd:d<=n)(o:Option Int):sIx n d o<=n:=by
 cases o with
 | none=>exact hd
 | some v =>
  show(if v<0 then(v+(n:Int)).toNat else min v.toNat n)<=n
  by_cases hv:v<0
  ·rw[if_pos hv];omega
  ·rw[if_neg hv];exact Nat.min_le_right _ _
theorem c1q (v:Int)(n d:Nat):(if v<0 then max (v+(n:Int)) 0 else min v (n:Int))=((sIx n d (some v):Nat):Int):=by
 show(if v<0 then max (v+(n:Int)) 0 else min v (n:Int))=(((if v<0 then(v+(n:Int)).toNat else min v.toNat n):Nat):Int)
 by_cases hv:v<0
 ·simp only[if_pos hv];omega
 ·simp only[if_neg hv];omega
theorem z0g (lo hi:Option Int)(n:Nat):Builtin.Slice.sliceAdjust lo hi 1 (n:Int)=(((sIx n 0 lo:Nat):Int),((sIx n n hi:Nat):Int)):=by
 have h1:¬((1:Int)<0):=by omega
 unfold Builtin.Slice.sliceAdjust
 simp only[h1,if_false]
 refine Prod.ext ?_ ?_
 ·cases lo with
  | none=>rfl
  | some v=>exact c1q v n 0
 ·cases hi with
  | none=>rfl
  | some v=>exact c1q v n n
theorem y0m (i j:Nat):Builtin.Slice.slicePlaces (i:Int) (j:Int) 1=j - i:=by
 unfold Builtin.Slice.slicePlaces
 have h1:(1:Int) > 0:=by omega
 simp only[h1,if_true,Int.ediv_one]
 split <;> omega
theorem p0o {v:Value}{o:Option Int}{Q:Option Int->Shared->Prop}(p:IsPart v o)(h:Q o s):wpAny (model prog w) A (Builtin.Slice.slicePartIndex v) Q E s:=by
 cases p with
 | none=>exact slicePart_none h
 | int i t=>exact slicePart_int h
theorem i0q {sl:Addr}{vl vu:Value}{lo hi:Option Int}{n:Nat}{Q:Int×Int×Nat->Shared->Prop}(hs:s.heap.IsSliceOf sl vl vu .none)(pl:IsPart vl lo)(pu:IsPart vu hi)
  (h:Q (((sIx n 0 lo:Nat):Int),1,sIx n n hi - sIx n 0 lo) s):wpAny (model prog w) A (Builtin.Slice.sliceApplied (.ref sl) (pure (n:Int))) Q E s:=by
 obtain⟨os,hos,hcs,hds⟩:=id hs
 unfold Builtin.Slice.sliceApplied Builtin.Slice.sliceFields
 refine wpAny_bind (wpAny_bind (wpAny_field hos hds (x:=vl) rfl (wpAny_bind (wpAny_field hos hds (x:=vu) rfl (wpAny_bind (wpAny_field hos hds (x:=.none) rfl (wpAny_pure ?_)))))))
 refine wpAny_bind (slicePart_none ?_)
 show wpAny _ _ (if((1:Int)==0)=true then _ else _) _ _ s
 rw[if_neg (by decide)]
 refine wpAny_bind (p0o pl (wpAny_bind (p0o pu (wpAny_bind (wpAny_pure ?_)))))
 show wpAny _ _ (match Builtin.Slice.sliceAdjust lo hi 1 (n:Int)with | (lo,hi)=>pure (lo,(1:Int),Builtin.Slice.slicePlaces lo hi 1)) _ _ s
 rw[z0g lo hi n]
 show wpAny _ _ (pure (((sIx n 0 lo:Nat):Int),(1:Int),Builtin.Slice.slicePlaces ((sIx n 0 lo:Nat):Int) ((sIx n n hi:Nat):Int) 1)) _ _ s
 rw[y0m]
 exact wpAny_pure h
theorem e1g (xs:Array Value)(i k:Nat):((List.range k).filterMap λ(m:Nat)=>xs[((i:Int)+(m:Int)*1).toNat]?).toArray=((xs.toList.drop i).take k).toArray:=by
 have e:(λ(m:Nat)=>xs[((i:Int)+(m:Int)*1).toNat]?)=λm=>xs[i+m]?:=by
  funext m
  have:((i:Int)+(m:Int)*1).toNat=i+m:=by omega
  rw[this]
 rw[e]
 have:=pick_run xs i k
 rw[List.filterMap_map]at this
 have e2:((λx=>xs[x]?) ∘ λx=>i+x)=λm=>xs[i+m]?:=rfl
 rw[e2]at this
 rw[this]
theorem getItem_tuple_cut {t sl:Addr}{items:Array Value}{vl vu:Value}{lo hi:Option Int}{Q:Value->Shared->Prop}(ht:IsTup s.heap t items)(hs:s.heap.IsSliceOf sl vl vu .none)(pl:IsPart vl lo)(pu:IsPart vu hi)
  (hw:¬(sIx items.size 0 lo=0/\sIx items.size items.size hi=items.size))
  (h:Q (.ref s.heap.objs.size) {s with heap:=s.heap.push {cls:=.type "tuple",data:=.seq ((items.toList.drop (sIx items.size 0 lo)).take (sIx items.size items.size hi - sIx items.size 0 lo)).toArray}})
  (hsz:items.size<=sizeLine):wpAny (model prog w) A (getItem (.ref t) (.ref sl)) Q E s:=by
 have htake:sizeOk (.seq ((items.toList.drop (sIx items.size 0 lo)).take (sIx items.size items.size hi - sIx items.size 0 lo)).toArray):=by
  show((items.toList.drop (sIx items.size 0 lo)).take (sIx items.size items.size hi - sIx items.size 0 lo)).toArray.size<=sizeLine
  rw[List.size_toArray,List.length_take,List.length_drop,Array.length_toList]
  omega
 have hj:sIx items.size items.size hi<=items.size:=k1m _ _ (Nat.le_refl _) hi
 obtain⟨os,hos,hcs,hds⟩:=id hs
 have hTs:s.TypeIs (.ref sl) "slice" := ⟨os,hos,hcs⟩
 unfold getItem
 try with_reducible refine wpAny_holding ?_
 first | refine wpAny_bind (wpAny_pure ?_) | skip
 refine wpAny_bind (wpAny_sequenceKey ht.typeIs (by decide) ?_)
 refine wpAny_bind (wpAny_callSpecial?_slot (name:=Str.ofString "__getitem__") ht.typeIs PyProof.Rows.slot_tuple_getitem
  (wpAny_call_entry PyProof.Rows.slot_tuple_getitem ht.typeIs entry_tuple_getitem ?_ (args_tuple_getitem _ _)))
 show wpAny _ _ (Builtin.Tuple.tupleItemsOf (.ref t)>>=_) _ _ s
 refine wpAny_bind (tupleItemsOf_ ht ?_)
 refine wpAny_bind (wpAny_typeOf hTs ?_)
 rw[if_pos (by decide)]
 refine wpAny_bind (i0q hs pl pu ?_)
 have hno:¬((((sIx items.size 0 lo:Nat):Int)==0&&(1:Int)==1&&(sIx items.size items.size hi - sIx items.size 0 lo)==items.size)=true):=by
  intro q
  rw[Bool.and_eq_true,Bool.and_eq_true]at q
  have q1:((sIx items.size 0 lo:Nat):Int)=0:=eq_of_beq q.1.1
  have q2:sIx items.size items.size hi - sIx items.size 0 lo=items.size:=eq_of_beq q.2
  exact hw ⟨by omega,by omega⟩
 show wpAny _ _ (if(((sIx items.size 0 lo:Nat):Int)==0&&(1:Int)==1&&(sIx items.size items.size hi - sIx items.size 0 lo)==items.size)=true then _ else _) _ _ s
 rw[if_neg hno,e1g]
 first
  | exact wpAny_bind (m:=Builtin.Tuple.tupleExact _) (wpAny_newObj_type (wpAny_pure ⟨_,rfl,wpAny_pure h⟩) htake)
  | exact wpAny_bind (m:=Builtin.Tuple.tupleExact _) (wpAny_newObj_type (wpAny_bind (wpAny_pure (wpAny_pure ⟨_,rfl,wpAny_pure h⟩))) htake)
  | exact wpAny_bind (wpAny_bind (m:=Builtin.Tuple.tupleExact _) (wpAny_newObj_type (wpAny_pure (wpAny_pure ⟨_,rfl,wpAny_pure h⟩)) htake))
  | exact wpAny_bind (wpAny_bind (m:=Builtin.Tuple.tupleExact _) (wpAny_newObj_type (wpAny_pure ⟨_,rfl,wpAny_pure h⟩) htake))
end
end HT
namespace L2
open PySem PySem.Spec PyProof.Rows
abbrev TO:=St->Hp->(Option Int->Hp->Prop)->Prop
def PO (X:Cx)(e:Option Expr)(t:TO):Prop :=
 ∀(pins:List (Addr×Obj)) (s:Shared) (σ:St) (H:Hp) (Q:Option Int->Hp->Prop),Inv X pins σ H s->t σ H Q ->
  wpAny (model X.prog X.w) X.A (evalPart e X.env) (λu s'=>∃o H',Inv X pins σ H' s'/\IsPart u o/\Q o H') X.xe s
def tNoPart:TO:=λ_ H Q=>Q none H
def k1d (t:TE):TO:=λσ H Q=>t σ H λx H1=>∃i,x = .int i/\Q (some i) H1
theorem j0u {ns:List Int}:∀ {us:List Value},Vals (ns.map V.int) us->IntsAre us ns:=by
 induction ns with
 | nil=>intro us r;rw[List.map_nil]at r;cases r;exact .nil
 | cons n ns ih =>
  intro us r
  rw[List.map_cons]at r
  cases r with
  | cons r1 r2 =>
   obtain⟨t,e⟩:=r1
   subst e
   exact .cons n t (ih r2)
section
variable {X:Cx}{e:Expr}{te:TE}{lo hi:Option Expr}{tl th:TO}{pos p2:Pos}
theorem d0h:PO X none tNoPart:=by
 intro pins s σ H Q I h
 rw[evalPart_none]
 exact wpAny_pure ⟨none,H,I,.none,h⟩
theorem c0m (h:PE X e te):PO X (some e) (k1d te):=by
 intro pins s σ H Q I hw
 rw[evalPart_some]
 refine thn (h pins s σ H _ I hw) λu s1 ⟨x,H1,I1,r1,q1⟩=>?_
 obtain⟨i,rfl,q⟩:=q1
 obtain⟨t,rfl⟩:=r1
 exact⟨some i,H1,I1,.int i t,q⟩
def SlR (X:Cx)(r:V->Option Int->Option Int->Hp->VK->Prop):Prop :=
 ∀(pins:List (Addr×Obj)) (s:Shared) (σ:St) (H:Hp) (x:V) (v vl vu:Value) (lo hi:Option Int) (sl:Addr) (Q:VK),Inv X pins σ H s->RelV x v->s.heap.IsSliceOf sl vl vu .none->IsPart vl lo->IsPart vu hi->r x lo hi H Q ->
  ∃T id,typeLookup (.type T) "__getitem__" = pure (some (.builtin id))/\s.TypeIs v T/\wpAny (model X.prog X.w) X.A (getItem v (.ref sl)) (EP X pins σ Q) X.xe s
def tSl (r:V->Option Int->Option Int->Hp->VK->Prop)(te:TE)(tl th:TO):TE:=λσ H Q=>te σ H λx H1=>tl σ H1 λl H2=>th σ H2 λu H3=>r x l u H3 Q
theorem c0b {r:V->Option Int->Option Int->Hp->VK->Prop}(hr:SlR X r)(he:PE X e te)(hl:PO X lo tl)(hu:PO X hi th):PE X (.Subscript e (.Slice lo hi none p2) pos) (tSl r te tl th):=by
 intro pins s σ H Q I h
 refine Subscript_ (thn (he pins s σ H _ I h) λv s1 ⟨x,H1,I1,r1,q1⟩=>?_)
 refine wpAny_Slice (thn (hl pins s1 σ H1 _ I1 q1) λvl s2 ⟨l,H2,I2,pl,q2⟩=>thn (hu pins s2 σ H2 _ I2 q2) λvu s3 ⟨u,H3,I3,pu,q3⟩=>?_)
 rw[evalPart_none]
 refine wpAny_pure ?_
 have I4:Inv X pins σ H3 {s3 with heap:=s3.heap.push {cls:=.type "slice",data:=.fields #[vl,vu,.none]}}:=I3.kept (t':=s3.toks) λb ob q=>Heap.get?_push_of_some _ q
 obtain⟨T,id,hT,ht,hg⟩:=hr pins {s3 with heap:=s3.heap.push {cls:=.type "slice",data:=.fields #[vl,vu,.none]}} σ H3 x v vl vu l u s3.heap.objs.size Q I4 r1 (Heap.IsSliceOf.new ..) pl pu q3
 show wpAny (model X.prog X.w) X.A (subscriptTail e (.Slice lo hi none p2) v (.ref s3.heap.objs.size)) (EP X pins σ Q) X.xe {s3 with heap:=s3.heap.push {cls:=.type "slice",data:=.fields #[vl,vu,.none]}}
 exact tail_any (ops:=[.ref s3.heap.objs.size,v]) ht hT hg (by with_unfolding_all rfl)
def cutV (xs:List V)(lo hi:Option Int):List V:=(xs.drop (HT.sIx xs.length 0 lo)).take (HT.sIx xs.length xs.length hi - HT.sIx xs.length 0 lo)
theorem o0k (xs:List V)(lo hi:Option Int):(cutV xs lo hi).length<=xs.length:=by
 unfold cutV
 rw[List.length_take,List.length_drop]
 omega
def rSlT (K:PySem.W.Frag):V->Option Int->Option Int->Hp->VK->Prop:=λx lo hi H Q=>∃a xs,x = .ref a/\SqT K H a xs /\
 ¬(HT.sIx xs.length 0 lo=0/\HT.sIx xs.length xs.length hi=xs.length)/\∀p,H p=none->Q (.ref p) (upd H p (.tup (cutV xs lo hi)))
theorem k1l:SlR X (rSlT X.K):=by
 intro pins s σ H x v vl vu lo hi sl Q I rx hs pl pu h
 obtain⟨a,xs,rfl,hx,hw,q⟩:=h
 cases rx
 obtain⟨its,r,ht,hz⟩:=I.tuple hx
 have hlen:its.toArray.size=xs.length:=by rw[List.size_toArray];exact r.length.symm
 refine⟨"tuple",_,PyProof.Rows.slot_tuple_getitem.lookup,ht.typeIs,?_⟩
 refine HT.getItem_tuple_cut ht hs pl pu (by rw[hlen];exact hw) ?_ (by rw[hlen];exact hz)
 rw[hlen]
 refine⟨.ref s.heap.objs.size,_,I.laid (t':=s.toks) (o:=.tup (cutV xs lo hi)) (λb ob q=>Heap.get?_push_of_some _ q) (Nat.le_refl _) ?_,rfl,q _ (I.hok.fresh (Nat.le_refl _))⟩
 exact⟨Nat.le_trans (o0k xs lo hi) hz,_,(r.drop (HT.sIx xs.length 0 lo)).take (HT.sIx xs.length xs.length hi - HT.sIx xs.length 0 lo),IsTup.new _ _⟩
end
def ixN (n:Nat)(i:Int):Option Nat:=if 0<=i then(if i<n then some i.toNat else none)else if -(n:Int)<=i then some (i+n).toNat else none
def atI {α:Type}(xs:List α)(i:Int):Option α:=(ixN xs.length i).bind λj=>xs[j]?
theorem i1q {n:Nat}{i:Int}{j:Nat}(h:ixN n i=some j):seqIndex? i n=some j/\j<n/\-(n:Int)<=i/\i<n:=by
 unfold ixN at h
 by_cases h0:0<=i
 ·rw[if_pos h0]at h
  by_cases h1:i<n
  ·rw[if_pos h1]at h
   have e:i.toNat=j:=Option.some.inj h
   exact⟨by rw[seqIndex_of h0 h1,e],by omega,by omega,h1⟩
  ·rw[if_neg h1]at h;cases h
 ·rw[if_neg h0]at h
  by_cases h1:-(n:Int)<=i
  ·rw[if_pos h1]at h
   have e:(i+n).toNat=j:=Option.some.inj h
   exact⟨by rw[seqIndex_neg (by omega) h1,e],by omega,h1,by omega⟩
  ·rw[if_neg h1]at h;cases h
theorem w0f {α:Type}{xs:List α}{i:Int}{v:α}(h:atI xs i=some v):∃j,seqIndex? i xs.length=some j/\xs[j]? = some v/\j<xs.length/\-(xs.length:Int)<=i/\i<xs.length:=by
 unfold atI at h
 cases e:ixN xs.length i with
 | none=>rw[e]at h;cases h
 | some j =>
  rw[e]at h
  obtain⟨h1,h2,h3,h4⟩:=i1q e
  exact⟨j,h1,h,h2,h3,h4⟩
theorem s0c {α:Type}{xs:List α}{j:Nat}{v:α}(h:xs[j]? = some v):atI xs (j:Int)=some v:=by
 have hj:j<xs.length:=(List.getElem?_eq_some_iff.mp h).1
 have e:ixN xs.length (j:Int)=some j:=by
  unfold ixN
  rw[if_pos (by omega),if_pos (by omega)];simp
 unfold atI;rw[e];exact h
def j1p (b:Expr):Prop:=∀o i,subscripted b false o i=operate [o,i] (getItem o i)
def IxR (X:Cx)(r:R2):Prop :=
 ∀(value slice:Expr) (pins:List (Addr×Obj)) (s:Shared) (σ:St) (H:Hp) (x y:V) (v u:Value) (Q:VK),Inv X pins σ H s->RelV x v->RelV y u->r x y H Q ->
  subscripted slice false v u=operate [v,u] (getItem v u)->wpAny (model X.prog X.w) X.A (subscriptTail value slice v u) (EP X pins σ Q) X.xe s
def MtR (X:Cx)(id:String)(r:V->List V->Hp->VK->Prop):Prop :=
 ∀(pins:List (Addr×Obj)) (s:Shared) (σ:St) (H:Hp) (x:V) (xs:List V) (v:Value) (us:List Value) (Q:VK),Inv X pins σ H s->RelV x v->Vals xs us->r x xs H Q ->
  wpAny (model X.prog X.w) X.A (call (.builtin id) (v::us)) (EP X pins σ Q) X.xe s
section
variable {X:Cx}{a b:Expr}{ta tb:TE}{pos:Pos}
theorem IxR.or {r r':R2}(h:IxR X r)(h':IxR X r'):IxR X (λx y H Q=>r x y H Q∨r' x y H Q):=by
 intro value slice pins s σ H x y v u Q I rx ry q hs
 rcases q with q | q
 ·exact h value slice pins s σ H x y v u Q I rx ry q hs
 ·exact h' value slice pins s σ H x y v u Q I rx ry q hs
theorem c0n {r:R2}(hr:IxR X r)(ha:PE X a ta)(hb:PE X b tb)(hs:j1p b):PE X (.Subscript a b pos) (tOp r ta tb):=by
 intro pins s σ H Q I h
 exact Subscript_ (binT ha hb I h λv u s2 x y H2 I2 rx ry q=>hr a b pins s2 σ H2 x y v u Q I2 rx ry q (hs _ _))
def rIxL (K:PySem.W.Frag):R2:=λx y H Q=>∃p xs i v,x = .ref p/\y = .int i/\SqL K H p xs/\atI xs i=some v/\Q v H
def rIxT (K:PySem.W.Frag):R2:=λx y H Q=>∃p xs i v,x = .ref p/\y = .int i/\SqT K H p xs/\atI xs i=some v/\Q v H
def rIxS:R2:=λx y H Q=>∃z i c,x = .str z/\y = .int i/\z.length<=sizeLine/\atI z.cps.toList i=some c/\Q (.str ⟨#[c]⟩) H
theorem i1p:IxR X (rIxL X.K):=by
 intro value slice pins s σ H x y v u Q I rx ry h hs
 obtain⟨p,xs,i,z,rfl,rfl,hq,he,q⟩:=h
 cases rx
 obtain⟨t,rfl⟩:=ry
 obtain⟨its,r,pl,hz⟩:=I.list hq
 obtain⟨j,h1,h2,h3,h4,h5⟩:=w0f he
 obtain⟨w,ew,rw'⟩:=r.get h2
 have hl:=r.length
 have hn:=t0f
 have fin:EP X pins σ Q w s:=⟨z,H,I,rw',q⟩
 by_cases h0:0<=i
 ·have hj:i.toNat=j:=by
   rw[seqIndex_of h0 h5]at h1
   exact Option.some.inj h1
  exact item_listR pl.isList h0 (by omega) (by rw[hj];simpa using ew) fin hs
 ·have hj:(i+(its.toArray.size:Int)).toNat=j:=by
   rw[seqIndex_neg (by omega) h4]at h1
   rw[List.size_toArray,<- hl]
   exact Option.some.inj h1
  exact subscriptTail_builtinR (x:=w) pl.isList.typeIs slot_list_getitem.lookup
   (wpAny_getItem_list_neg (Q:=λr s'=>r=w/\EP X pins σ Q r s') pl.isList (by omega) (by rw[List.size_toArray] <;> omega) (by omega) (by rw[hj];simpa using ew) ⟨rfl,fin⟩) hs
theorem l1m:IxR X (rIxT X.K):=by
 intro value slice pins s σ H x y v u Q I rx ry h hs
 obtain⟨p,xs,i,z,rfl,rfl,hq,he,q⟩:=h
 cases rx
 obtain⟨t,rfl⟩:=ry
 obtain⟨its,r,pl,hz⟩:=I.tuple hq
 obtain⟨j,h1,h2,h3,h4,h5⟩:=w0f he
 obtain⟨w,ew,rw'⟩:=r.get h2
 have hl:=r.length
 have hn:=t0f
 have fin:EP X pins σ Q w s:=⟨z,H,I,rw',q⟩
 exact subscriptTail_builtinR (x:=w) pl.typeIs slot_tuple_getitem.lookup
  (getItem_tuple (j:=j) (Q:=λr s'=>r=w/\EP X pins σ Q r s') pl (by omega) (by omega) (by rw[List.size_toArray,<- hl];exact h1) (by simpa using ew) ⟨rfl,fin⟩) hs
theorem l1n:IxR X rIxS:=by
 intro value slice pins s σ H x y v u Q I rx ry h hs
 obtain⟨z,i,c,rfl,rfl,hz,he,q⟩:=h
 obtain⟨t,rfl⟩:=rx
 obtain⟨t',rfl⟩:=ry
 obtain⟨j,h1,h2,h3,h4,h5⟩:=w0f he
 have hl:z.cps.toList.length=z.length:=by simp[Str.length]
 rw[hl]at h1 h4 h5
 have hn:=t0f
 exact tail_any (typeIs_str s z t) slot_str_getitem.lookup (getItem_str (c:=c) (by
  have e1:decide (i < -(2^63:Int))=false:=decide_eq_false (by omega)
  have e2:decide (i>=2^63)=false:=decide_eq_false (by omega)
  rw[e1,e2,Bool.or_false]) (by rw[h1];simpa using h2) ⟨.str ⟨#[c]⟩,H,I.tok _,⟨_,rfl⟩,q⟩) hs
def rIx (K:PySem.W.Frag):R2:=λx y H Q=>rIxL K x y H Q∨rIxT K x y H Q∨rIxS x y H Q
theorem l1o:IxR X (rIx X.K):=i1p.or (l1m.or l1n)
theorem s0l (lo hi:Option Int)(n:Nat):(sliceBounds lo hi none n).1=((HT.sIx n 0 lo:Nat):Int)/\(sliceBounds lo hi none n).2.1=((HT.sIx n n hi:Nat):Int)/\(sliceBounds lo hi none n).2.2=1:=by
 refine⟨?_,?_,rfl⟩
 ·cases lo with
  | none=>simp[sliceBounds,HT.sIx]
  | some i =>
   simp only[sliceBounds,HT.sIx,Option.getD_none,show(1:Int) > 0 by decide,if_true]
   by_cases h:i<0
   ·simp only[h,if_true] <;> omega
   ·simp only[h,if_false] <;> omega
 ·cases hi with
  | none=>simp[sliceBounds,HT.sIx]
  | some i =>
   simp only[sliceBounds,HT.sIx,Option.getD_none,show(1:Int) > 0 by decide,if_true]
   by_cases h:i<0
   ·simp only[h,if_true] <;> omega
   ·simp only[h,if_false] <;> omega
theorem q0p (its:List Value)(lo hi:Option Int):slicePick its.toArray lo hi none=((its.drop (HT.sIx its.length 0 lo)).take (HT.sIx its.length its.length hi - HT.sIx its.length 0 lo)).toArray:=by
 obtain⟨h1,h2,h3⟩:=s0l lo hi its.toArray.size
 unfold slicePick
 rw[h1,h2,h3]
 simp only[sliceRange_one,pick_run,List.size_toArray] <;> rfl
def rSlL (K:PySem.W.Frag):V->Option Int->Option Int->Hp->VK->Prop:=λx lo hi H Q=>∃a xs,x = .ref a/\SqL K H a xs/\∀p,H p=none->Q (.ref p) (upd H p (.lst (cutV xs lo hi)))
theorem h1r:SlR X (rSlL X.K):=by
 intro pins s σ H x v vl vu lo hi sl Q I rx hs pl pu h
 obtain⟨a,xs,rfl,hx,q⟩:=h
 cases rx
 obtain⟨its,r,ht,hz⟩:=I.list hx
 have hlen:=r.length
 refine⟨"list",_,slot_list_getitem.lookup,ht.isList.typeIs,?_⟩
 refine wpAny_getItem_list_slice ht.isList hs pl pu .none (by simp) ?_ (by rw[List.size_toArray] <;> omega)
 rw[q0p,<- hlen]
 refine⟨.ref s.heap.objs.size,_,I.laid (t':=s.toks) (o:=.lst (cutV xs lo hi)) (λb ob q=>Heap.get?_push_of_some _ q) (Nat.le_refl _) ?_,rfl,q _ (I.hok.fresh (Nat.le_refl _))⟩
 exact⟨Nat.le_trans (o0k xs lo hi) hz,_,0,(r.drop (HT.sIx xs.length 0 lo)).take (HT.sIx xs.length xs.length hi - HT.sIx xs.length 0 lo),Heap.get?_push_size _ rfl⟩
def p0i:V->Bool
 | .non=>true
 | .bl _=>true
 | .int _=>true
 | .str _=>true
 | _=>false
def eqV:V->V->Bool
 | .non,.non=>true
 | .bl a,.bl b=>a==b
 | .bl a,.int b=>(if a then 1 else 0)==b
 | .int a,.bl b=>a==(if b then 1 else 0)
 | .int a,.int b=>a==b
 | .str a,.str b=>a==b
 | _,_=>false
theorem m1c {A:Around}{s:Shared}{y x:V}{u v:Value}(ry:RelV y u)(rx:RelV x v)(fy:p0i y=true)(fx:p0i x=true):SeqAt.EqAt A s u v (eqV y x):=by
 cases y with
 | non =>
  cases ry
  cases x with
  | non=>cases rx;exact SeqAt.EqAt.same _
  | bl b=>cases rx;exact SeqAt.EqAt.none_bool b
  | int b=>obtain⟨t,rfl⟩:=rx;exact SeqAt.EqAt.none_int b t
  | str b=>obtain⟨t,rfl⟩:=rx;exact SeqAt.EqAt.none_str b t
  | _=>exact absurd (show false=true from fx) Bool.false_ne_true
 | bl a =>
  cases ry
  cases x with
  | non=>cases rx;exact SeqAt.EqAt.bool_none a
  | bl b=>cases rx;exact SeqAt.EqAt.bool_bool a b
  | int b=>obtain⟨t,rfl⟩:=rx;exact SeqAt.EqAt.bool_int a b t
  | str b=>obtain⟨t,rfl⟩:=rx;exact SeqAt.EqAt.bool_str a b t
  | _=>exact absurd (show false=true from fx) Bool.false_ne_true
 | int a =>
  obtain⟨t',rfl⟩:=ry
  cases x with
  | non=>cases rx;exact SeqAt.EqAt.int_none a t'
  | bl b=>cases rx;exact SeqAt.EqAt.int_bool a t' b
  | int b=>obtain⟨t,rfl⟩:=rx;exact SeqAt.EqAt.int_int a t' b t
  | str b=>obtain⟨t,rfl⟩:=rx;exact SeqAt.EqAt.int_str a t' b t
  | _=>exact absurd (show false=true from fx) Bool.false_ne_true
 | str a =>
  obtain⟨t',rfl⟩:=ry
  cases x with
  | non=>cases rx;exact SeqAt.EqAt.str_none a t'
  | bl b=>cases rx;exact SeqAt.EqAt.str_bool a t' b
  | int b=>obtain⟨t,rfl⟩:=rx;exact SeqAt.EqAt.str_int a t' b t
  | str b=>obtain⟨t,rfl⟩:=rx;exact SeqAt.EqAt.str_str a t' b t
  | _=>exact absurd (show false=true from fx) Bool.false_ne_true
 | _=>exact absurd (show false=true from fy) Bool.false_ne_true
def eqU (x:V)(u:Value):Bool:=match u with
 | .none=>eqV .non x
 | .bool b=>eqV (.bl b) x
 | .int i _=>eqV (.int i) x
 | .str z _=>eqV (.str z) x
 | _=>false
theorem g1m {x y:V}{u:Value}(r:RelV y u)(f:p0i y=true):eqU x u=eqV y x:=by
 cases y with
 | non=>cases r;rfl
 | bl b=>cases r;rfl
 | int i=>obtain⟨t,rfl⟩:=r;rfl
 | str z=>obtain⟨t,rfl⟩:=r;rfl
 | _=>exact absurd (show false=true from f) Bool.false_ne_true
theorem o0v {x:V}:∀ {xs:List V} {us:List Value},Vals xs us->xs.all p0i=true->us.any (eqU x)=xs.any λy=>eqV y x
 | _,_,.nil,_=>rfl
 | y::xs,u::us,.cons r t,f=>by
  rw[List.all_cons,Bool.and_eq_true]at f
  rw[List.any_cons,List.any_cons,g1m r f.1,o0v t f.2]
theorem l0e {A:Around}{s:Shared}{x:V}{v:Value}(rx:RelV x v)(fx:p0i x=true):∀ {xs:List V} {us:List Value},Vals xs us->xs.all p0i=true->∀u∈us,SeqAt.EqAt A s u v (eqU x u)
 | _,_,.nil,_=>λu hu=>by cases hu
 | y::xs,u::us,.cons r t,f=>λu' hu=>by
  rw[List.all_cons,Bool.and_eq_true]at f
  rcases List.mem_cons.mp hu with rfl | hu
  ·rw[g1m r f.1];exact m1c r rx f.1 fx
  ·exact l0e rx fx t f.2 u' hu
def inV (x:V)(xs:List V):Bool:=xs.any λy=>eqV y x
def rIn (K:PySem.W.Frag)(neg:Bool):R2:=λx y H Q=>∃p xs,y = .ref p/\(SqL K H p xs∨SqT K H p xs)/\p0i x=true/\xs.all p0i=true/\Q (.bl (if neg then !inV x xs else inV x xs)) H
theorem a1z:OpR X (compareOp .In) (rIn X.K false):=by
 intro pins s σ H x y v u Q I rx ry h
 obtain⟨p,xs,rfl,hq,fx,fs,q⟩:=h
 cases ry
 rcases hq with hq | hq
 ·obtain⟨its,r,pl,hz⟩:=I.list hq
  refine SeqAt.in_listAt (eqU x) pl.isList (λw hw=>l0e rx fx r fs w (by simpa using hw)) ⟨.bl _,H,I,rfl,?_⟩
  rw[show its.toArray.any (eqU x)=its.any (eqU x)by simp,o0v r fs]
  exact q
 ·obtain⟨its,r,pl,hz⟩:=I.tuple hq
  refine SeqAt.in_tupleAt (eqU x) pl (λw hw=>l0e rx fx r fs w (by simpa using hw)) ⟨.bl _,H,I,rfl,?_⟩
  rw[show its.toArray.any (eqU x)=its.any (eqU x)by simp,o0v r fs]
  exact q
theorem s0s:OpR X (compareOp .NotIn) (rIn X.K true):=by
 intro pins s σ H x y v u Q I rx ry h
 obtain⟨p,xs,rfl,hq,fx,fs,q⟩:=h
 cases ry
 rcases hq with hq | hq
 ·obtain⟨its,r,pl,hz⟩:=I.list hq
  refine SeqAt.notIn_listAt (eqU x) pl.isList (λw hw=>l0e rx fx r fs w (by simpa using hw)) ⟨.bl _,H,I,rfl,?_⟩
  rw[show its.toArray.any (eqU x)=its.any (eqU x)by simp,o0v r fs]
  exact q
 ·obtain⟨its,r,pl,hz⟩:=I.tuple hq
  refine SeqAt.notIn_tupleAt (eqU x) pl (λw hw=>l0e rx fx r fs w (by simpa using hw)) ⟨.bl _,H,I,rfl,?_⟩
  rw[show its.toArray.any (eqU x)=its.any (eqU x)by simp,o0v r fs]
  exact q
theorem u0e:k0t X (.builtin "len") (λxs H Q=>∃p ys,xs=[.ref p]/\(SqL X.K H p ys∨SqT X.K H p ys)/\Q (.int ys.length) H):=by
 intro pins s σ H xs us Q I r h
 obtain⟨p,ys,rfl,hq,q⟩:=h
 obtain⟨u,rfl,rx⟩:=l0u r
 cases rx
 have hn:=t0f
 rcases hq with hq | hq
 ·obtain⟨its,r',pl,hz⟩:=I.list hq
  have hlen:=r'.length
  exact Calls.call_len_list pl.isList (by simp only[List.size_toArray] <;> omega) ⟨.int ys.length,H,I.tok _,⟨s.toks+1,by rw[List.size_toArray,hlen]⟩,q⟩
 ·obtain⟨its,r',pl,hz⟩:=I.tuple hq
  have hlen:=r'.length
  exact len_tuple pl (by simp only[List.size_toArray] <;> omega) ⟨.int ys.length,H,I.tok _,⟨s.toks+1,by rw[List.size_toArray,hlen]⟩,q⟩
theorem u0d:k0t X (.type "list") (λxs H Q=>∃p ys,xs=[.ref p]/\(SqL X.K H p ys∨SqT X.K H p ys)/\∀l,H l=none->Q (.ref l) (upd H l (.lst ys))):=by
 intro pins s σ H xs us Q I r h
 obtain⟨p,ys,rfl,hq,q⟩:=h
 obtain⟨u,rfl,rx⟩:=l0u r
 cases rx
 have fin:∀(its:List Value),Vals ys its->ys.length<=sizeLine->∀(h':Heap) (c':Nat),(∀b o',s.heap.get? b=some o'->h'.get? b=some o') ->
   h'.get? s.heap.objs.size=some {cls:=.type "list",dict:=none,data:=.seq its.toArray c',slots:=#[]}->EP X pins σ Q (.ref s.heap.objs.size) {s with heap:=h'}:=λits r' hz h' c' kp e =>
  ⟨.ref s.heap.objs.size,_,I.laid (t':=s.toks) kp (Nat.le_refl _) (show e0s X.prog X.w _ h' _ (.lst ys)from⟨hz,its,c',r',e⟩),rfl,q _ (I.hok.fresh (Nat.le_refl _))⟩
 rcases hq with hq | hq
 ·obtain⟨its,r',pl,hz⟩:=I.list hq
  have hlen:=r'.length
  obtain⟨o,ho,hc,n,hd⟩:=pl.isList
  exact call_list_seq p (.inl rfl) ho hc hd (λh' c' kp e=>fin its r' hz h' c' kp e) (by simp only[List.size_toArray] <;> omega)
 ·obtain⟨its,r',pl,hz⟩:=I.tuple hq
  have hlen:=r'.length
  obtain⟨o,ho,hc,n,hd⟩:=pl
  exact call_list_seq p (.inr rfl) ho hc hd (λh' c' kp e=>fin its r' hz h' c' kp e) (by simp only[List.size_toArray] <;> omega)
theorem r0z:k0t X (.type "tuple") (λxs H Q=>∃p ys,xs=[.ref p]/\((SqL X.K H p ys/\∀l,H l=none->Q (.ref l) (upd H l (.tup ys)))∨(SqT X.K H p ys/\Q (.ref p) H))):=by
 intro pins s σ H xs us Q I r h
 obtain⟨p,ys,rfl,h⟩:=h
 obtain⟨u,rfl,rx⟩:=l0u r
 cases rx
 rcases h with⟨hq,q⟩ | ⟨hq,q⟩
 ·obtain⟨its,r',pl,hz⟩:=I.list hq
  have hlen:=r'.length
  refine call_tuple_list pl.isList (λh' kp=>?_) (by simp only[List.size_toArray] <;> omega)
  have I1:Inv X pins σ H {s with heap:=h'}:=I.kept (t':=s.toks) kp
  have I2:Inv X pins σ (upd H h'.objs.size (.tup ys)) {s with heap:=h'.push {cls:=.type "tuple",data:=.seq its.toArray}} :=
   I1.laid (t':=s.toks) (λb o e=>Heap.get?_push_of_some _ e) (Nat.le_refl _) (show e0s X.prog X.w _ _ _ (.tup ys)from⟨hz,its,r',IsTup.new _ _⟩)
  exact⟨.ref h'.objs.size,_,I2,rfl,q _ (I1.hok.fresh (Nat.le_refl _))⟩
 ·obtain⟨its,r',pl,hz⟩:=I.tuple hq
  exact call_tuple_same pl ⟨.ref p,H,I,rfl,q⟩
def tyV (K:PySem.W.Frag)(T:String)(x:V)(H:Hp):Prop:=match x with
 | .str _=>T = "str"
 | .int _=>T = "int"
 | .ref p=>(T = "list" /\ ∃xs,SqL K H p xs)∨(T = "tuple" /\ ∃o,K.lookup p=some o/\o.cls = .type "tuple" /\ o.dict=none) ∨
   (T = "dict" /\ ((∃kvs,H p=some (.dK kvs)) ∨ ∃kvs,H p=some (.dT kvs)))∨(T = "set" /\ ∃S n,H p=some (.set S n))
 | _=>False
theorem f1t {pins:List (Addr×Obj)}{σ:St}{H:Hp}{s:Shared}{T:String}{x:V}{v:Value}(I:Inv X pins σ H s)(r:RelV x v)(ty:tyV X.K T x H) :
  s.TypeIs v T/\∀a,v = .ref a->∃ob,s.heap.get? a=some ob/\ob.dict=none:=by
 cases x with
 | str z =>
  obtain⟨t,rfl⟩:=r
  cases (show T = "str" from ty)
  exact⟨typeIs_str s z t,λ_ e=>nomatch e⟩
 | int i =>
  obtain⟨t,rfl⟩:=r
  cases (show T = "int" from ty)
  exact⟨typeIs_int s i t,λ_ e=>nomatch e⟩
 | ref p =>
  cases r
  rcases ty with⟨rfl,xs,hq⟩ | ⟨rfl,o,hk,hc,hd⟩ | ⟨rfl,hk⟩ | ⟨rfl,S,n,hk⟩
  ·obtain⟨its,_,pl,_⟩:=I.list hq
   refine⟨pl.isList.typeIs,λa e=>?_⟩
   cases e
   obtain⟨o,n,e,c,hd,_⟩:=pl
   exact⟨o,e,hd⟩
  ·refine⟨⟨o,I.kIn p o hk,hc⟩,λa e=>?_⟩
   cases e
   exact⟨o,I.kIn _ o hk,hd⟩
  ·have z:∃o,s.heap.get? p=some o/\o.ExactDict:=by
    rcases hk with⟨kvs,hk⟩ | ⟨kvs,hk⟩
    ·obtain⟨_,_,_,_,o,_,_,e,ex,_⟩:=I.hok p _ hk
     exact⟨o,e,ex⟩
    ·obtain⟨_,_,_,_,o,_,_,e,ex,_⟩:=I.hok p _ hk
     exact⟨o,e,ex⟩
   obtain⟨o,e,ex⟩:=z
   refine⟨⟨o,e,ex.1⟩,λa e2=>?_⟩
   cases e2
   exact⟨o,e,ex.2.1⟩
  ·obtain⟨o,_,_,_,e,ex,_⟩:=I.hok p _ hk
   refine⟨⟨o,e,ex.1⟩,λa e2=>?_⟩
   cases e2
   exact⟨o,e,ex.2.1⟩
 | _=>exact False.elim ty
def tBM0 (K:PySem.W.Frag)(T:String)(r:V->List V->Hp->VK->Prop)(to:TE):TE:=λσ H Q=>to σ H λx H1=>tyV K T x H1/\r x [] H1 Q
def tBM (K:PySem.W.Frag)(T:String)(r:V->List V->Hp->VK->Prop)(to:TE)(t:TA):TE:=λσ H Q=>to σ H λx H1=>tyV K T x H1/\t σ H1 λxs H2=>r x xs H2 Q
variable {o e:Expr}{es:List Expr}{to:TE}{t:TA}{name:Str}{apos cpos:Pos}{T id:String}{r:V->List V->Hp->VK->Prop}
theorem k1y (pa:PlainAttrs T)(slot:Slot T name id)(hty:typeOf (.builtin id)=pure (.type "method_descriptor"))(hm:MtR X id r)(ho:PE X o to)
  (hbase:attributeBase o name X.env (eval o X.env)=eval o X.env:=by rfl) (hline:(apos.endLine==cpos.line)=true:=by rfl):PE X (.Call (.Attribute o name apos) [] [] cpos) (tBM0 X.K T r to):=by
 intro pins s σ H Q I h
 refine wpAny_Call_method0_late hbase hline (thn (ho pins s σ H _ I h) λv s1 ⟨x,H1,I1,r1,ty,q1⟩=>?_)
 obtain⟨h1,h2⟩:=f1t I1 r1 ty
 exact⟨T,id,pa,slot,hty,h1,h2,Calls.callWith_builtin rfl (PySem.evalArgs_none (hm pins s1 σ H1 x [] v [] Q I1 r1 .nil q1))⟩
theorem n1b (pa:PlainAttrs T)(slot:Slot T name id)(hty:typeOf (.builtin id)=pure (.type "method_descriptor"))(hm:MtR X id r)(ho:PE X o to)(ha:PA X (e::es) t)
  (hbase:attributeBase o name X.env (eval o X.env)=eval o X.env:=by rfl)
  (hfew:((backTo cpos (starEach (e::es) X.env)).all (λx=>!x.1)&&(backToKw cpos (keywordEach [] X.env)).all (λx=>x.1.isSome)
   && decide ((e::es).length+([]:List Keyword).length+(if([]:List Keyword).isEmpty then 0 else 1)<30))=true:=by rfl)
  (hline:(apos.endLine==cpos.line)=true:=by rfl) (hs:starEach (e::es) X.env=(false,eval e X.env)::starEach es X.env:=by rfl) (hplain:(backTo cpos (starEach es X.env)).any (·.1)=false:=by rfl) :
  PE X (.Call (.Attribute o name apos) (e::es) [] cpos) (tBM X.K T r to t):=by
 intro pins s σ H Q I h
 refine wpAny_Call_method_late hbase hfew hline rfl (thn (ho pins s σ H _ I h) λv s1 ⟨x,H1,I1,r1,ty,q1⟩=>?_)
 obtain⟨h1,h2⟩:=f1t I1 r1 ty
 refine⟨T,id,pa,slot,hty,h1,h2,?_⟩
 have hA:=ha cpos pins s1 σ H1 _ I1 q1
 rw[hs]at hA ⊢
 refine Calls.callWith_builtin (by show(false||(backTo cpos (starEach es X.env)).any (·.1))=false;rw[hplain] <;> rfl) (Calls.evalArgs_plain ?_)
 exact thn hA λus s2 ⟨vs,H2,I2,r2,q2⟩=>hm pins s2 σ H2 x vs v us Q I2 r1 r2 q2
end
def MtM (X:Cx)(id:String)(r:V->List V->Hp->VK->Prop):Prop :=
 ∀(pins:List (Addr×Obj)) (s:Shared) (σ:St) (H:Hp) (x:V) (xs:List V) (v:Value) (us:List Value) (Q:VK),Inv X pins σ H s->RelV x v->Vals xs us->r x xs H Q ->
  wpAny (model X.prog X.w) X.A (call (.builtin id) (v::us)) (EP X pins σ Q) X.xe s
theorem Vals.one:∀ {x:V} {us:List Value},Vals [x] us->∃u,us=[u]/\RelV x u
 | _,_,.cons r .nil=>⟨_,rfl,r⟩
section
variable {X:Cx}{pins:List (Addr×Obj)}{σ:St}{H:Hp}{s:Shared}{l b:Addr}{xs ys zs:List V}
theorem Inv.lset {its its':List Value}{n:Nat}{f:Array Value->Array Value}{t':Nat}(I:Inv X pins σ H s)(hH:H l=some (.lst xs))
  (e:s.heap.get? l=some {cls:=.type "list",data:=.seq its.toArray n}) (hf:f its.toArray=its'.toArray) (hv:Vals ys its') (hz:ys.length<=sizeLine) :
  Inv X pins σ (upd H l (.lst ys)) {s with heap:=s.heap.update l (Obj.mapSeq f),toks:=t'}:=by
 have q:=PySem.IsL.update e f
 rw[hf]at q
 refine I.write (x:=l) (e:=l) (by rw[hH];exact trivial) (.inl rfl) (λb' u hb hu=>(Heap.get?_update_other s.heap (Obj.mapSeq f) (Ne.symm hb)).trans hu) ⟨_,q⟩ ?_
 exact⟨hz,its',_,hv,q⟩
theorem Inv.lstM (I:Inv X pins σ H s)(hH:H l=some (.lst xs)):xs.length<=sizeLine/\∃(its:List Value) (n:Nat),Vals xs its/\xs.length=its.length/\s.heap.get? l=some {cls:=.type "list",data:=.seq its.toArray n}:=by
 obtain⟨z,its,n,r,e⟩:=I.hok l _ hH
 exact⟨z,its,n,r,r.length,e⟩
end
section
variable {X:Cx}
def rAppend:V->List V->Hp->VK->Prop:=λx vs H Q=>∃l xs y,x = .ref l/\vs=[y]/\H l=some (.lst xs)/\xs.length<sizeLine/\Q .non (upd H l (.lst (xs++[y])))
theorem h0q:MtM X "list.append" rAppend:=by
 intro pins s σ H x vs v us Q I rx rv h
 obtain⟨l,xs,y,rfl,rfl,hH,hz,q⟩:=h
 cases rx
 obtain⟨u,rfl,ru⟩:=rv.one
 obtain⟨z,its,n,r,hl,e⟩:=I.lstM hH
 refine call_meets F.slot_list_append ⟨_,e,rfl⟩ F.entry_list_append (F.args_list_append_2 _ _) (PySem.list_append l its.toArray n u (by rw[List.size_toArray];omega)) ⟨e,?_⟩
 refine⟨.non,_,I.lset (its':=its++[u]) hH e (by simp) (r.append (.cons ru .nil)) ?_,rfl,q⟩
 rw[List.length_append,List.length_singleton]
 omega
end
section
variable {κ:Type} [DecidableEq κ]
def valV (kvs:List (κ×V))(k:κ):Option V:=(kvs.find? λkv=>decide (kv.1=k)).map (·.2)
def putK (kvs:List (κ×V))(k:κ)(v:V):List (κ×V) :=
 if(kvs.any λkv=>decide (kv.1=k))=true then kvs.map (λkv=>if kv.1=k then(kv.1,v)else kv)else kvs++[(k,v)]
theorem q0k {p:κ×V}{r:List (κ×V)}{k:κ}(e:p.1=k):valV (p::r) k=some p.2:=by simp[valV,List.find?_cons,e]
theorem q0l {p:κ×V}{r:List (κ×V)}{k:κ}(e:¬p.1=k):valV (p::r) k=valV r k:=by simp[valV,List.find?_cons,e]
theorem w0p (k:κ):∀kvs:List (κ×V),(kvs.any λkv=>decide (kv.1=k))=(valV kvs k).isSome
 | []=>rfl
 | p::r=>by
  rw[List.any_cons]
  by_cases e:p.1=k
  ·simp only[q0k e,decide_eq_true e,Bool.true_or,Option.isSome_some]
  ·rw[q0l e,decide_eq_false e,Bool.false_or];exact w0p k r
theorem k0n (kvs:List (κ×V))(k:κ)(v:V):(putK kvs k v).length<=kvs.length+1:=by
 unfold putK
 split
 ·rw[List.length_map];omega
 ·rw[List.length_append,List.length_cons,List.length_nil];omega
theorem RelO.isSome_eq {o:Option V}{u:Option Value}(r:RelO o u):o.isSome=u.isSome:=by
 cases o with
 | none=>cases u with
  | none=>rfl
  | some _=>exact(show False from r).elim
 | some _=>cases u with
  | none=>exact(show False from r).elim
  | some _=>rfl
theorem KV.val {kvs:List (κ×V)}{vs:List (κ×Value)}(r:KV kvs vs)(k:κ):RelO (valV kvs k) (valueAt vs k):=by
 unfold KV at r
 induction r with
 | nil=>exact True.intro
 | @cons p q ps qs h t ih =>
  obtain⟨h1,h2⟩:=h
  by_cases e:p.1=k
  ·have e':q.1=k:=h1.symm.trans e
   have b:valueAt (q::qs) k=some q.2:=by simp[valueAt,List.find?_cons,e']
   rw[q0k e,b];exact h2
  ·have e':¬q.1=k:=λz=>e (h1.trans z)
   have b:valueAt (q::qs) k=valueAt qs k:=by simp[valueAt,List.find?_cons,e']
   rw[q0l e,b];exact ih
theorem KV.any {kvs:List (κ×V)}{vs:List (κ×Value)}(r:KV kvs vs)(k:κ):(kvs.any λkv=>decide (kv.1=k))=vs.any λkv=>decide (kv.1=k):=by
 unfold KV at r
 induction r with
 | nil=>rfl
 | cons h t ih=>rw[List.any_cons,List.any_cons,ih,h.1]
theorem KV.repl {kvs:List (κ×V)}{vs:List (κ×Value)}(r:KV kvs vs)(k:κ){y:V}{u:Value}(ry:RelV y u) :
  KV (kvs.map λkv=>if kv.1=k then(kv.1,y)else kv) (vs.map λkv=>if kv.1=k then(kv.1,u)else kv):=by
 unfold KV at r ⊢
 induction r with
 | nil=>exact .nil
 | @cons p q ps qs h t ih =>
  rw[List.map_cons,List.map_cons]
  refine .cons ?_ ih
  obtain⟨h1,h2⟩:=h
  by_cases e:p.1=k
  ·rw[if_pos e,if_pos (h1.symm.trans e)];exact⟨h1,ry⟩
  ·rw[if_neg e,if_neg (λz=>e (h1.trans z))];exact⟨h1,h2⟩
theorem KV.put {kvs:List (κ×V)}{vs:List (κ×Value)}(r:KV kvs vs)(k:κ){y:V}{u:Value}(ry:RelV y u):KV (putK kvs k y) (stored vs k u):=by
 unfold putK stored
 rw[r.any k]
 by_cases e:(vs.any λkv=>decide (kv.1=k))=true
 ·rw[if_pos e,if_pos e];exact r.repl k ry
 ·rw[if_neg e,if_neg e];exact Paired.snoc r ⟨rfl,ry⟩
theorem KV.length {kvs:List (κ×V)}{vs:List (κ×Value)}(r:KV kvs vs):kvs.length=vs.length:=Paired.length r
end
theorem e1p {P:Program}{w:World}{k:Key}{u:Value}(r:RelV (kV k) u):(e0k P w).is k u=true:=by
 cases k with
 | inl i=>obtain⟨t,e⟩:=(show ∃t,u=Value.int i t from r);subst e;exact v0l P w i t
 | inr x=>obtain⟨t,e⟩:=(show ∃t,u=Value.str x t from r);subst e;exact v0k P w x t
theorem t0h {P:Program}{w:World}:∀ {ks:List Key} {us:List Value},Vals (ks.map kV) us->ItemsAre (e0k P w) ks us
 | [],_,r=>by rw[List.map_nil]at r;cases r;exact .nil
 | k::ks,_,r=>by
  rw[List.map_cons]at r
  cases r with
  | cons h t=>exact .cons (e1p h) (t0h t)
abbrev KT (H:Hp):List (List Key×V)->List (List Key×Addr×Value)->Prop:=Paired λp q=>p.1=q.1/\H q.2.1=some (.tup (p.1.map kV))/\RelV p.2 q.2.2
theorem KT.val {H:Hp}{kvs:List (List Key×V)}{xs:List (List Key×Addr×Value)}(r:KT H kvs xs)(k:List Key):RelO (valV kvs k) ((atKey xs k).map (·.2)):=by
 induction r with
 | nil=>exact True.intro
 | @cons p q ps qs h t ih =>
  obtain⟨h1,_,h2⟩:=h
  by_cases e:p.1=k
  ·have e':q.1=k:=h1.symm.trans e
   have b:atKey (q::qs) k=some q.2:=by simp[atKey,List.find?_cons,e']
   rw[q0k e,b];exact h2
  ·have e':¬q.1=k:=λz=>e (h1.trans z)
   have b:atKey (q::qs) k=atKey qs k:=by simp[atKey,List.find?_cons,e']
   rw[q0l e,b];exact ih
theorem KT.repl {H:Hp}{kvs:List (List Key×V)}{xs:List (List Key×Addr×Value)}(r:KT H kvs xs)(k:List Key){y:V}{u:Value}(ry:RelV y u) :
  KT H (kvs.map λkv=>if kv.1=k then(kv.1,y)else kv) (xs.map (putAt k u)):=by
 induction r with
 | nil=>exact .nil
 | @cons p q ps qs h t ih =>
  rw[List.map_cons,List.map_cons]
  refine .cons ?_ ih
  obtain⟨h1,h2,h3⟩:=h
  unfold putAt
  by_cases e:p.1=k
  ·rw[if_pos e,if_pos (h1.symm.trans e)];exact⟨h1,h2,ry⟩
  ·rw[if_neg e,if_neg (λz=>e (h1.trans z))];exact⟨h1,h2,h3⟩
theorem KT.put {H:Hp}{kvs:List (List Key×V)}{xs:List (List Key×Addr×Value)}(r:KT H kvs xs)(k:List Key){b:Addr}{y:V}{u:Value}(hb:H b=some (.tup (k.map kV)))(ry:RelV y u) :
  KT H (putK kvs k y) (storedH xs k b u):=by
 have e:(kvs.any λkv=>decide (kv.1=k))=(atKey xs k).isSome:=by
  rw[w0p,(r.val k).isSome_eq,Option.isSome_map]
 unfold putK storedH
 rw[e]
 by_cases q:(atKey xs k).isSome=true
 ·rw[if_pos q,if_pos q];exact r.repl k ry
 ·rw[if_neg q,if_neg q];exact Paired.snoc r ⟨rfl,hb,ry⟩
theorem KT.keeps {H H':Hp}{kvs:List (List Key×V)}{xs:List (List Key×Addr×Value)}(r:KT H kvs xs)(ht:∀b ys,H b=some (.tup ys)->H' b=some (.tup ys)):KT H' kvs xs :=
 Paired.mapP r λ_ _ z=>⟨z.1,ht _ _ z.2.1,z.2.2⟩
section
variable {P:Program}{w:World}{H:Hp}{h:Heap}{a:Addr}
theorem k1o {u:HO}(ok:HOk P w H h)(e:Rd H a u):e0s P w H h a u:=e.ok ok
theorem j1e {kvs:List (Key×V)}(ok:HOk P w H h)(e:Rd H a (.dK kvs)):kvs.length<=sizeLine/\(a==sysModules)=false/\∃vs,KV kvs vs/\h.DictOf (e0k P w) a vs :=
 show e0s P w H h a (.dK kvs)from k1o ok e
theorem m1d {kvs:List (Key×V)}(ok:HOk P w H h)(e:H a=some (.dK kvs)):kvs.length<=sizeLine/\(a==sysModules)=false/\∃vs,KV kvs vs/\h.DictOf (e0k P w) a vs:=j1e ok (.inl e)
theorem b1m {ks:List Key}(ok:HOk P w H h)(e:H a=some (.tup (ks.map kV))):(tupleKind (e0k P w)).is h ks a:=by
 obtain⟨_,its,r,o,h1,h2,n,h3⟩:=(show e0s P w H h a (.tup (ks.map kV))from ok a _ e)
 exact⟨o,its.toArray,n,h1,h2,h3,by simpa using t0h r⟩
theorem j1c {kvs:List (List Key×V)}(ok:HOk P w H h)(e:Rd H a (.dT kvs)):kvs.length<=sizeLine/\(a==sysModules)=false /\
  ∃xs,KT H kvs xs/\h.DictOfH (tupleKind (e0k P w)) a xs:=by
 obtain⟨z,y,xs,r,o,es,ep,h1,h2,h3,h4,h5⟩:=(show e0s P w H h a (.dT kvs)from k1o ok e)
 refine⟨z,y,xs,r,o,es,ep,h1,h2,h3,h4,λx hx=>?_,h5⟩
 have all:∀ {l:List (List Key×V)} {m:List (List Key×Addr×Value)},KT H l m->∀x∈m,(tupleKind (e0k P w)).is h x.1 x.2.1:=by
  intro l m q
  induction q with
  | nil=>intro x hx;exact nomatch hx
  | @cons p q ps qs hq t ih =>
   intro x hx
   rcases List.mem_cons.mp hx with e | hx
   ·subst e
    exact b1m ok (by rw[<- hq.1];exact hq.2.1)
   ·exact ih x hx
 exact all r x hx
theorem n1j {kvs:List (List Key×V)}(ok:HOk P w H h)(e:H a=some (.dT kvs)):kvs.length<=sizeLine/\(a==sysModules)=false /\
  ∃xs,KT H kvs xs/\h.DictOfH (tupleKind (e0k P w)) a xs:=j1c ok (.inl e)
end
def DGet (H:Hp)(a:Addr)(y:V)(r:Option V):Prop :=
 (∃kvs k,Rd H a (.dK kvs)/\y=kV k/\r=valV kvs k) ∨ ∃kvs k b,Rd H a (.dT kvs)/\y = .ref b/\H b=some (.tup (k.map kV))/\r=valV kvs k
def DPut (H:Hp)(a:Addr)(y v:V)(H':Hp):Prop :=
 (∃kvs k,H a=some (.dK kvs)/\y=kV k/\kvs.length<sizeLine/\H'=upd H a (.dK (putK kvs k v))) ∨
 ∃kvs k b,H a=some (.dT kvs)/\y = .ref b/\H b=some (.tup (k.map kV))/\kvs.length<sizeLine/\H'=upd H a (.dT (putK kvs k v))
theorem DGet.k {H:Hp}{a:Addr}{kvs:List (Key×V)}{k:Key}(e:H a=some (.dK kvs)):DGet H a (kV k) (valV kvs k):=.inl ⟨kvs,k,.inl e,rfl,rfl⟩
theorem DPut.k {H:Hp}{a:Addr}{kvs:List (Key×V)}{k:Key}{v:V}(e:H a=some (.dK kvs))(hl:kvs.length<sizeLine):DPut H a (kV k) v (upd H a (.dK (putK kvs k v))):=.inl ⟨kvs,k,e,rfl,hl,rfl⟩
section
variable {X:Cx}{pins:List (Addr×Obj)}{σ:St}{H:Hp}{s:Shared}{a:Addr}{y v:V}{u r:Value}{o:Option V}{A:Around}{E:Value->Shared->Prop}
theorem Inv.big (I:Inv X pins σ H s):sysModules<s.heap.objs.size:=by
 have h:mainGlobals<s.heap.objs.size:=(I.mod.glob.keeps I.bk).lt
 exact Nat.lt_trans (by decide) h
theorem c1j {Q:Value->Shared->Prop}(hu:A.units+1<cLine)(I:Inv X pins σ H s)(g:DGet H a y (some v))(ry:RelV y u)(h:∀w' s',Inv X pins σ H s'->RelV v w'->Q w' s') :
  wpAny (model X.prog X.w) A (getItem (.ref a) u) Q E s:=by
 rcases g with⟨kvs,k,e,ey,l⟩ | ⟨kvs,k,b,e,ey,eb,l⟩
 ·subst ey
  obtain⟨z,hd,vs,rel,dd⟩:=j1e I.hok e
  obtain⟨w',hw,rw'⟩:=RelO.some_of (v:=v) (o:=valueAt vs k) (by rw[l];exact rel.val k)
  exact wpAny_getItem_of (e1p ry) dd.mapOf hw (h w' _ (I.tok _) rw')
 ·subst ey
  cases (show u=Value.ref b from ry)
  obtain⟨z,hd,xs,rel,dd⟩:=j1c I.hok e
  obtain⟨w',hw,rw'⟩:=RelO.some_of (v:=v) (o:=(atKey xs k).map (·.2)) (by rw[l];exact rel.val k)
  obtain⟨p,hp,hp2⟩:=Option.map_eq_some_iff.mp hw
  refine wpAny_getItem_heap (tupleKind_room_in1 hu) (b1m I.hok eb) dd hp ?_
  rw[hp2]
  exact h w' _ (I.tok _) rw'
theorem v0x {h':Heap}{t':Nat}{ob:HO}(I:Inv X pins σ H s)(mu:Mut (H a))(hs:Heap.SameBut a s.heap h')(he:∃q,h'.get? a=some q)(new:e0s X.prog X.w (upd H a ob) h' a ob) :
  Inv X pins σ (upd H a ob) {s with heap:=h',toks:=t'} :=
 I.write (x:=a) (e:=a) mu (.inl rfl) (λb q hb z=>(hs.2 b hb).trans z) he new
theorem g1n {P:Program}{w:World}{H':Hp}{h':Heap}{kvs:List (Key×V)}{vs:List (Key×Value)}(z:kvs.length<=sizeLine)(hd:(a==sysModules)=false)(rel:KV kvs vs)(dd:h'.DictOf (e0k P w) a vs) :
  e0s P w H' h' a (.dK kvs):=⟨z,hd,vs,rel,dd⟩
theorem c1i {H':Hp}{Q:Unit->Shared->Prop}(hu:A.units+1<cLine)(I:Inv X pins σ H s)(g:DPut H a y v H')(ry:RelV y u)(rv:RelV v r)(h:∀s',Inv X pins σ H' s'->Q () s') :
  wpAny (model X.prog X.w) A (setItem (.ref a) u r) Q E s:=by
 rcases g with⟨kvs,k,e,ey,l,eH⟩ | ⟨kvs,k,b,e,ey,eb,l,eH⟩
 ·subst ey eH
  obtain⟨z,hd,vs,rel,dd⟩:=m1d I.hok e
  have hz:vs.length<=sizeLine:=by rw[<- rel.length];exact z
  have hl:(putK kvs k v).length<=sizeLine:=by have:=k0n kvs k v;omega
  refine wpAny_setItem_pairs (hsz:=hz) (e1p ry) dd λh' dd' hs=>h _ ?_
  have he:∃q,h'.get? a=some q:=let ⟨q,_,_,hq,_⟩:=dd';⟨q,hq⟩
  exact v0x I (by rw[e];exact True.intro) hs he (g1n hl hd (rel.put k rv) dd')
 ·subst ey eH
  cases (show u=Value.ref b from ry)
  obtain⟨z,hd,xs,rel,dd⟩:=n1j I.hok e
  have hz:xs.length<=sizeLine:=by rw[<- Paired.length rel];exact z
  have hl:(putK kvs k v).length<=sizeLine:=by have:=k0n kvs k v;omega
  refine wpAny_setItem_heap (hsz:=hz) (tupleKind_room_in1 hu) (b1m I.hok eb) dd λh' dd' hs=>h _ ?_
  obtain⟨q,es,ep,hq,h2,h3,h4,_,h5⟩:=dd'
  refine v0x I (by rw[e];exact True.intro) hs ⟨q,hq⟩ ⟨hl,hd,_,(rel.put k eb rv).keeps λc ys ec=>?_,q,es,ep,hq,h2,h3,h4,h5⟩
  rw[b0l (i1g ec e (λz=>nomatch z))]
  exact ec
end
def NoSl (i:Expr):Prop:=∀ov iv,subscripted i false ov iv=operate [ov,iv] (getItem ov iv)
theorem h1j {prog:Program}{w:World}{A:Around}{E:Value->Shared->Prop}{s:Shared}{env:Env}{value slice:Expr}{pos:Pos}{T id:String}{Q:Value->Shared->Prop}
  (hl:typeLookup (.type T) "__getitem__" = pure (some (.builtin id))) (hs:NoSl slice)
  (h:wpAny (model prog w) A (eval value env) (λo s₁=>wpAny (model prog w) A (eval slice env) (λi s₂=>s₂.TypeIs o T/\wpAny (model prog w) A (getItem o i) Q E s₂) E s₁) E s) :
  wpAny (model prog w) A (eval (.Subscript value slice pos) env) Q E s:=by
 refine Subscript_ (wpAny_mono h (λo s₁ h₁=>wpAny_mono h₁ (λi s₂ h₂=>?_) λ_ _ x=>x) λ_ _ x=>x)
 obtain⟨hT,h₂⟩:=h₂
 unfold subscriptTail
 refine wpAny_bind ?_
 rw[getitemInPython_of_ne hT.not_modules]
 refine wpAny_bind (wpAny_specialOf hT hl ?_)
 have fin:wpAny (model prog w) A (subscripted slice false o i) (λr s₃=>wpAny (model prog w) A (letTemporaryGo value o r>>=λ_=>pure r) Q E s₃) E s₂:=by
  rw[hs o i]
  exact wpAny_operating (wpAny_mono h₂ (λr s₃ h₃=>wpAny_bind (wpAny_letTemporaryGo (wpAny_pure h₃))) λ_ _ x=>x)
 first
  | exact wpAny_pure (wpAny_bind fin)
  | exact wpAny_bind (wpAny_pure (wpAny_bind fin))
  | exact wpAny_bind fin
theorem v0w {X:Cx}{pins:List (Addr×Obj)}{σ:St}{H:Hp}{s:Shared}{a:Addr}{y:V}{o:Option V}(I:Inv X pins σ H s)(g:DGet H a y o):s.TypeIs (.ref a) "dict" := by
 rcases g with⟨kvs,k,e,_,_⟩ | ⟨kvs,k,b,e,_,_,_⟩
 ·obtain⟨_,_,vs,_,dd⟩:=j1e I.hok e
  exact dd.typeIs
 ·obtain⟨_,_,xs,_,dd⟩:=j1c I.hok e
  exact dd.typeIs
def m1x (td ty:TE):TE:=λσ H Q=>td σ H λx H1=>ty σ H1 λy H2=>∃a v,x = .ref a/\DGet H2 a y (some v)/\Q v H2
def m1z (td ty tv:TE):TS:=λD σ H=>tv σ H λv H1=>td σ H1 λx H2=>ty σ H2 λy H3=>∃a H4,x = .ref a/\DPut H3 a y v H4/\D.nx σ H4
section
variable {X:Cx}{o i e value:Expr}{pos pos' tpos:Pos}{td ty tv:TE}
theorem n0u (hu:X.A.units+1<cLine)(ho:PE X o td)(hi:PE X i ty)(hs:NoSl i):PE X (.Subscript o i pos) (m1x td ty):=by
 intro pins s σ H Q I h
 refine h1j PySem.F.slot_dict_getitem.lookup hs (thn (ho pins s σ H _ I h) λu s1 ⟨x,H1,I1,rx,q1⟩=>thn (hi pins s1 σ H1 _ I1 q1) λiv s2 ⟨y,H2,I2,ry,a,v,ex,g,q2⟩=>?_)
 subst ex
 obtain rfl:u=Value.ref a:=rx
 exact⟨v0w I2 g,c1j hu I2 g ry λw' s3 I3 rw'=>⟨v,H2,I3,rw',q2⟩⟩
theorem u0x (hu:X.A.units+1<cLine)(ho:PE X o td)(hi:PE X i ty)(hv:PE X value tv)(hs:swapsWith value (some (.Subscript o i pos')) pos.line X.env=pure false) :
  PS X (.Assign [.Subscript o i pos'] value pos) (m1z td ty tv):=by
 intro pins s σ H D I h
 refine wpAny_Assign_Subscript (thn (hv pins s σ H _ I h) λr s1 ⟨v,H1,I1,rv,q1⟩=>thn (ho pins s1 σ H1 _ I1 q1) λu s2 ⟨x,H2,I2,rx,q2⟩=>thn (hi pins s2 σ H2 _ I2 q2) λiv s3 ⟨y,H3,I3,ry,a,H4,ex,g,q3⟩=>?_) hs
 subst ex
 obtain rfl:u=Value.ref a:=rx
 exact c1i hu I3 g ry rv λs4 I4=>⟨σ,H4,I4,q3⟩
end
theorem e1y {P:Program}{w:World}{H:Hp}(h:Heap)(hb:sysModules<h.objs.size):e0s P w H (h.push {cls:=.type "dict",data:=.dict #[]}) h.objs.size (.dK []) :=
 ⟨Nat.zero_le _,beq_eq_false_iff_ne.mpr (Ne.symm (Nat.ne_of_lt hb)),[],.nil,Heap.DictOf.new h⟩
def z0w:List (TE×TE)->St->Hp->(List (V×V)->Hp->Prop)->Prop
 | [],_,H,Q=>Q [] H
 | (tk,tv)::r,σ,H,Q=>tk σ H λx H1=>tv σ H1 λy H2=>z0w r σ H2 λps H3=>Q ((x,y)::ps) H3
abbrev VV:List (V×V)->List (Value×Value)->Prop:=Paired λp q=>RelV p.1 q.1/\RelV p.2 q.2
def PPs (X:Cx)(pos:Pos)(keys:List (Option Expr))(values:List Expr)(trs:List (TE×TE)):Prop :=
 ∀(pins:List (Addr×Obj)) (s:Shared) (σ:St) (H:Hp) (Q:List (V×V)->Hp->Prop),Inv X pins σ H s->z0w trs σ H Q ->
  wpAny (model X.prog X.w) X.A (evalPairs (pairTrees keys values X.env pos)) (λvs s'=>∃ps H',Inv X pins σ H' s'/\VV ps vs/\Q ps H') X.xe s
theorem h1u {X:Cx}{pos:Pos}:PPs X pos [] [] []:=λpins s σ H Q I h=>pairTrees_nil_walk ⟨[],H,I,.nil,h⟩
theorem q0v {X:Cx}{pos:Pos}{k v:Expr}{ks:List (Option Expr)}{vs:List Expr}{tk tv:TE}{trs:List (TE×TE)}(hk:PE X k tk)(hv:PE X v tv)(hr:PPs X pos ks vs trs) :
  PPs X pos (some k::ks) (v::vs) ((tk,tv)::trs):=λpins s σ H Q I h =>
 pairTrees_cons_walk (thn (hk pins s σ H _ I h) λu s1 ⟨x,H1,I1,rx,q1⟩=>thn (hv pins s1 σ H1 _ I1 q1) λw2 s2 ⟨y,H2,I2,ry,q2⟩ =>
  thn (hr pins s2 σ H2 _ I2 q2) λws s3 ⟨ps,H3,I3,rel,q3⟩=>⟨(x,y)::ps,H3,I3,.cons ⟨rx,ry⟩ rel,q3⟩)
def o0a (kvs more:List (Key×V)):List (Key×V):=more.foldl (λacc kv=>putK acc kv.1 kv.2) kvs
theorem KV.merge:∀ {more:List (Key×V)} {rs:List (Key×Value)} {kvs:List (Key×V)} {vs:List (Key×Value)},KV more rs->KV kvs vs->KV (o0a kvs more) (merged vs rs):=by
 intro more rs kvs vs r
 unfold KV at r
 induction r generalizing kvs vs with
 | nil=>intro q;exact q
 | @cons p q ps qs h t ih =>
  intro r0
  have e:KV (putK kvs p.1 p.2) (stored vs q.1 q.2):=by
   have:=r0.put p.1 h.2
   rw[<- h.1];exact this
  exact ih e
theorem l0g:∀(more kvs:List (Key×V)),(o0a kvs more).length<=kvs.length+more.length
 | [],kvs=>by show kvs.length<=kvs.length+0;omega
 | p::r,kvs=>by
  have h1:=l0g r (putK kvs p.1 p.2)
  have h2:=k0n kvs p.1 p.2
  show(o0a (putK kvs p.1 p.2) r).length<=_
  rw[List.length_cons];omega
theorem q0i {P:Program}{w:World}:∀ {kvs:List (Key×V)} {ws:List (Value×Value)},VV (kvs.map λkv=>(kV kv.1,kv.2)) ws->∃rs,Carries (e0k P w) ws rs/\KV kvs rs
 | [],_,r=>by rw[List.map_nil]at r;cases r;exact⟨[],True.intro,.nil⟩
 | p::kvs,_,r=>by
  rw[List.map_cons]at r
  cases r with
  | @cons a b as bs h t =>
   obtain⟨rs,c,q⟩:=q0i (P:=P) (w:=w) t
   obtain⟨b1,b2⟩:=b
   exact⟨(p.1,b2)::rs,⟨e1p h.1,rfl,c⟩,.cons ⟨rfl,h.2⟩ q⟩
def m1w (trs:List (TE×TE)):TE:=λσ H Q=>∀p,H p=none->z0w trs σ (upd H p (.dK [])) λps H2=>H2 p=some (.dK [])/\∃kvs:List (Key×V),ps=kvs.map (λkv=>(kV kv.1,kv.2))/\kvs.length<=15/\Q (.ref p) (upd H2 p (.dK (o0a [] kvs)))
theorem h1w {X:Cx}{pos:Pos}{keys:List (Option Expr)}{values:List Expr}{trs:List (TE×TE)}(h:PPs X pos keys values trs)(hall:keys.all (·.isSome)=true)(hl:keys.length=values.length)(h0:keys≠[])
  (h15:keys.length<=15):PE X (.Dict keys values pos) (m1w trs):=by
 intro pins s σ H Q I q
 have hn:=I.hok.fresh (Nat.le_refl s.heap.objs.size)
 have I1:=I.laid (a:=s.heap.objs.size) (o:=.dK []) (h':=s.heap.push {cls:=.type "dict",data:=.dict #[]}) (t':=s.toks) (λ_ _ q=>Heap.get?_push_of_some _ q) (Nat.le_refl _) (e1y s.heap I.big)
 refine wpAny_Dict_walk (knd:=e0k X.prog X.w) hall hl h0 h15 (thn (h pins _ σ _ _ I1 (q _ hn)) λws s2 ⟨ps,H2,I2,rel,e,kvs,ep,lk,q2⟩=>?_)
 subst ep
 obtain⟨rs,c,rk⟩:=q0i (P:=X.prog) (w:=X.w) rel
 obtain⟨z,hd,vs0,r0,dd⟩:=m1d I2.hok e
 cases r0
 refine⟨rs,c,dd,λh' dd' hs=>⟨.ref s.heap.objs.size,_,?_,rfl,q2⟩⟩
 have hz:(o0a [] kvs).length<=sizeLine:=by
  have h1:=l0g kvs []
  rw[List.length_nil]at h1
  rw[sizeLine_eq];omega
 have he:∃q,h'.get? s.heap.objs.size=some q:=let ⟨q,_,_,hq,_⟩:=dd';⟨q,hq⟩
 exact v0x I2 (by rw[e];exact True.intro) hs he (g1n hz hd (rk.merge .nil) dd')
end L2
namespace Att
open PySem PySem.W PySem.Calls PyProof.Rows
theorem o0d {P:Params}{h:Heap}:∀(ns:List Int) (vs:List Value),WellAll P h vs (ns.map WData.int)->IntsAre vs ns:=by
 intro ns
 induction ns with
 | nil =>
  intro vs w
  rw[List.map_nil]at w
  cases w
  exact .nil
 | cons n ns ih =>
  intro vs w
  rw[List.map_cons]at w
  cases w with
  | cons a b =>
   cases a
   exact .cons _ _ (ih _ b)
theorem a1h {l:OpenLaw}{n:Nat}(hn:l.most=some n){P:Params}{h:Heap}{args:List WData}{vals:List Value}
  (hpre:l.row.toRowW.claim.pre args=true) (hwl:WellAll P h vals args) :
  ∃a vs ns,vals=[Value.ref a]/\args=[WData.list (ns.map WData.int)]/\h.get? a=some {cls:=.type "list",data:=.seq vs.toArray}/\IntsAre vs ns/\ns.length<=n:=by
 have hsh:WShape.hasAll [] args [.list .int]=true:=(pre_splitW hpre).1
 have hc:l.pre.holds [] {args:=args}=true:=(pre_splitW hpre).2
 obtain⟨d,r,rfl,h1,h2⟩:=hasAllW_cons hsh
 obtain rfl:=hasAllW_nil h2
 obtain⟨xs,rfl,h3⟩:=hasW_list h1
 obtain⟨ns,rfl⟩:=items_int h3
 have hlen:ns.length<=n:=by
  unfold OpenLaw.pre at hc
  have h4:(WTm.not (.lt (.lit (.int (n:Int))) (.len (.arg 0)))).holds [] {args:=[.list (ns.map .int)]}=true:=by
   have h4:=(holds_andW hc).1
   rw[hn]at h4
   exact h4
  have h5:=condW_of h4 (w_not (w_lt w_lit (w_len_list (w_arg rfl))))
  rw[List.length_map]at h5
  refine Nat.le_of_not_lt λq=>?_
  have q':(n:Int)<((ns.length:Nat):Int):=by omega
  first
   | (rw[decide_eq_true q']at h5;exact absurd h5 (by decide))
   | (simp at h5;omega)
 cases hwl with
 | cons w1 w2 =>
  cases w2
  cases w1 with
  | list ho hall=>exact⟨_,_,ns,rfl,rfl,ho,o0d ns _ hall,hlen⟩
theorem a1r (l:OpenLaw)(args:List WData):l.row.toRowW.claim.post args (.bool true) args=true :=
 postW_of (r:=l.row.toRowW) (X:=(true==true))
  (show WShape.has [] (.bool true) .bool=true by first | rfl | decide | simp[WShape.has,WShape.arms,WShape.armsAll])
  (show(WTm.eq .res (.lit (.bool true))).value [] {args:=args,res:=some (.bool true),after:=args}=some (.bool (true==true))from w_eq_bool (w_res rfl) w_lit) rfl
theorem attach_call {l:OpenLaw}{n:Nat}{q:Program}{loose:List Str}{XP:(Str->Option Value)->Heap->Prop}{YP:World->Heap->Prop}{d:DefRec}
  (hn:l.most=some n) (hdf:d.params.defaults=[])
  (call:∀(w:World) (s₀ s₁:Shared) (mg mb:Str->Option Value) (fa:Addr) (o:Obj) (pm cd doc:Value) (a:Addr) (vs:List Value) (ns:List Int),
   Ground q loose [] XP w s₀ mg mb s₁.heap->YP w s₁.heap ->
   s₁.heap.get? fa=some o->o.data = .func (docDef d.name d.params d.body d.scope pm cd doc)->s₁.heap.CodeRec cd d.name->mg d.name=some (.ref fa) ->
   s₁.heap.get? a=some {cls:=.type "list",data:=.seq vs.toArray}->IntsAre vs ns->ns.length<=n->s₁.gens = #[] ->
   codeAny (model l.prog w) callerA (.call (.ref fa) ⟨[.ref a],[]⟩) (λr s'=>r = .ok (.ret (.bool true))/\OldK s₁.heap s'.heap/\s'.os=s₁.os/\AllBare s'.gens) s₁) :
  WalkO q loose XP YP l.row.toRowW d [] (λf vs=>PySem.call f vs):=by
 intro w s₀ s₁ mg mb G Y fa o pm cd doc dV kV ho hd hcd hD hmg hg args vals as hpre hlay hrd hwl hlo
 obtain rfl:dV = .none:=Dflts.none hD hdf
 obtain rfl:kV = .none:=Dflts.noKw hD
 obtain⟨a,vs,ns,rfl,rfl,hobj,hints,hlen⟩:=a1h hn hpre hwl
 refine enter_call (codeAny_mono (call w s₀ s₁ mg mb fa o pm cd doc a vs ns G Y ho (fd_plain hd) hcd hmg hobj hints hlen hg) λr s' hq=>?_)
 obtain⟨rfl,h2,h3,h4⟩:=hq
 exact⟨.inl ⟨.bool true,.bool true,[],rfl,λ_=>rfl,.bool true,a1r l _,λ_=>⟨List.Pairwise.nil,λ_ hm=>(nomatch hm)⟩⟩,h2,h3,h4⟩
end Att
namespace L2
open PySem PySem.Spec PyProof.Rows
theorem k0u:∀ {vs:List Value} {ns:List Int},IntsAre vs ns->Vals (ns.map V.int) vs
 | _,_,.nil=>.nil
 | _,_,.cons n t h=>.cons ⟨t,rfl⟩ (k0u h)
def Only (H:Hp):Prop:=∀b,H b=none ∨ ∃o xs,H b=some (.frz o (.lst xs))
theorem e1o {P:Program}{w:World}{K:PySem.W.Frag}{mg mb:Str->Option Value}{CX:CXT}{k:Nat}{fa a:Addr}{fd:FuncData}{x:Str}{sp:Sp}{s₁:Shared}{vs:List Value}{ns:List Int}
  (KX:K.In s₁.heap) (hns:s₁.heap.Ns mainGlobals mg) (hb:s₁.heap.Ns builtinsNs mb) (hbb:∀x:Str,x ≠ "__name__" -> mb x=bootBuiltins x) (hlim:s₁.heap.NoLimit) (hg:s₁.gens = #[])
  (ha:s₁.heap.get? a=some {cls:=.type "list",data:=.seq vs.toArray}) (hi:IntsAre vs ns) (hl:ns.length<=sizeLine) (hr:Room k callerA)
  (F:∀base:Heap,K.In base->base.Ns mainGlobals mg->FnOk P w K mg base CX k fa fd [x] sp) (hbind:∀(s:Shared) (u:Value),BindsTo s fd ⟨[u],[]⟩ [(x,u)])
  (hsp:∀H:Hp,Only H->SqL K H a (ns.map V.int)->sp [.ref a] H (λv _=>v = .bl true) λ_ _ _=>False)
  (hCX:∀H e s',CX [] H s₁ (λ_ _ _=>False) e s'->False) :
  codeAny (model P w) callerA (.call (.ref fa) ⟨[.ref a],[]⟩) (λr s'=>r = .ok (.ret (.bool true))/\OldK s₁.heap s'.heap/\s'.os=s₁.os/\AllBare s'.gens) s₁:=by
 have rv:=k0u hi
 have lenV:=hi.length
 have core:∀H:Hp,Only H->SqL K H a (ns.map V.int)->HOk P w H s₁.heap->(∀b,H b≠none->b=a)->(H a≠none->K.lookup a=none) ->
   codeAny (model P w) callerA (.call (.ref fa) ⟨[.ref a],[]⟩) (λr s'=>r = .ok (.ret (.bool true))/\OldK s₁.heap s'.heap/\s'.os=s₁.os/\AllBare s'.gens) s₁:=by
  intro H hO hS hok hA hK
  have base_of:∀ {b:Addr} {o:Obj},s₁.heap.get? b=some o->H b=none->(hidT s₁.heap H).get? b=some o:=λe n=>e1v e n
  have noA:∀ {b:Addr} {o:Obj} {es:Array DictEntry} {ep:Nat},s₁.heap.get? b=some o->o.data = .dict es ep->H b=none:=λ{b o es ep} e d=>by
   cases q:H b with
   | none=>rfl
   | some u =>
    have e':b=a:=hA b (by rw[q];simp)
    subst e'
    rw[ha]at e;cases e
    have d':Data.seq vs.toArray _=Data.dict es ep:=d
    cases d'
  have nsK:∀ {b:Addr} {m:Str->Option Value},s₁.heap.Ns b m->(hidT s₁.heap H).Ns b m:=λ{b m} ⟨o,es,ep,e,d,r⟩=>⟨o,es,ep,base_of e (noA e d),d,r⟩
  have hKb:K.In (hidT s₁.heap H):=λb o e=>base_of (KX b o e) (by
   cases q:H b with
   | none=>rfl
   | some u =>
    have e':b=a:=hA b (by rw[q];simp)
    subst e'
    rw[hK (by rw[q];simp)]at e;cases e)
  have hM:Mod K mg (hidT s₁.heap H):=⟨hKb,nsK hns,⟨mb,nsK hb,hbb⟩,let ⟨mc,h1,h2⟩:=hlim;⟨mc,nsK h1,h2⟩⟩
  have e0:Env0 P w K mg (hidT s₁.heap H) callerA [] s₁ H:=⟨rfl,hM,λb o e=>i1d e,Nat.le_of_eq (b1t _ _),trivial,λb hb=>absurd (show b∈([]:List Addr)from hb) (by simp),hok,.of_eq hg⟩
  refine codeAny_mono ((F _ hKb (nsK hns)).run callerA [] s₁ H ⟨[.ref a],[]⟩ [.ref a] [.ref a] _ _ hr e0 (hbind s₁ (.ref a)) (.cons rfl .nil) (hsp H hO hS)) λr s' h=>?_
  cases r with
  | error e=>exact(hCX H e s' h).elim
  | ok fl =>
   cases fl with
   | next=>exact False.elim h
   | brk=>exact False.elim h
   | cont=>exact False.elim h
   | ret u =>
    obtain⟨v,H',os,bare,un,hok',r',q⟩:=h
    have q':v = .bl true:=q
    subst q'
    obtain rfl:u=Value.bool true:=r'
    refine⟨rfl,OldK.of_keep λb o e=>?_,os,bare⟩
    cases q:H b with
    | none=>exact un.keep b o e q (by intro z;exact absurd (show b∈([]:List Addr)from z) (by simp)) (by simp)
    | some u =>
     rcases hO b with z | ⟨ob,xs,z⟩
     ·rw[q]at z;cases z
     ·have z2:=un.frzs b ob _ z
      obtain⟨e1,_⟩:=hok b _ z
      obtain⟨e2,_⟩:=hok' b _ z2
      rw[e]at e1;cases e1
      exact e2
 cases hk:K.lookup a with
 | some o =>
  have e:=KX a o hk
  rw[ha]at e
  cases e
  refine core (λ_=>none) (λ_=>.inl rfl) (.inr ⟨_,vs.toArray,_,hk,rfl,rfl,rfl,by rw[List.size_toArray,lenV];exact hl,by simpa using rv⟩) (λb u z=>by have z':(none:Option HO)=some u:=z;cases z') (λb z=>absurd rfl z) λz=>absurd rfl z
 | none =>
  refine core (λb=>if b=a then some (.frz {cls:=.type "list",data:=.seq vs.toArray} (.lst (ns.map V.int)))else none) (λb=>?_) (.inl (.inr ⟨{cls:=.type "list",data:=.seq vs.toArray},if_pos rfl⟩)) (λb u z=>?_) (λb z=>?_) λ_=>hk
  ·by_cases hb:b=a
   ·exact .inr ⟨_,_,if_pos hb⟩
   ·exact .inl (if_neg hb)
  ·by_cases hb:b=a
   ·have z':=(if_pos hb).symm.trans z
    cases z'
    subst hb
    exact⟨ha,by rw[List.length_map];exact hl,vs,_,rv,ha⟩
   ·have z':=(if_neg hb).symm.trans z
    cases z'
  ·by_cases hb:b=a
   ·exact hb
   ·exact absurd (if_neg hb) z
abbrev KOf {K:PySem.W.Frag}{h:Heap}(_:K.In h):PySem.W.Frag:=K
theorem h1b {l:PySem.W.OpenLaw}{n k:Nat}{q:Program}{loose:List Str}{XP:(Str->Option Value)->Heap->Prop}{YP:World->Heap->Prop}{d:DefRec}{K:Params->PySem.W.Frag}{CX:World->CXT}{sp:World->Sp}{x:Str}
  (hn:l.most=some n) (hn2:n<=sizeLine) (hdf:d.params.defaults=[]) (hr:Room k callerA)
  (hY:∀(w:World) (h:Heap),YP w h->(K w.params).In h)
  (F:∀(w:World) (mg:Str->Option Value) (fa:Addr) (h:Heap),(K w.params).In h->h.Ns mainGlobals mg->mg d.name=some (.ref fa) ->
   ∃fd:FuncData,(∀(s:Shared) (u:Value),BindsTo s fd ⟨[u],[]⟩ [(x,u)]) /\
    ∀base:Heap,(K w.params).In base->base.Ns mainGlobals mg->FnOk l.prog w (K w.params) mg base (CX w) k fa fd [x] (sp w))
  (hsp:∀(w:World) (H:Hp) (a:Addr) (ns:List Int),ns.length<=n->Only H->SqL (K w.params) H a (ns.map V.int)->sp w [.ref a] H (λv _=>v = .bl true) λ_ _ _=>False)
  (hCX:∀(w:World) (H:Hp) (s:Shared) (e:Value) (s':Shared),CX w [] H s (λ_ _ _=>False) e s'->False) :
  PySem.W.WalkO q loose XP YP l.row.toRowW d [] (λf vs=>PySem.call f vs):=by
 refine Att.attach_call hn hdf λw s₀ s₁ mg mb fa o pm cd doc a vs ns G Y ho hd hcd hmg hobj hints hlen hg=>?_
 have KX:=hY w _ Y
 obtain⟨fd,hb,hF⟩:=F w mg fa _ KX G.T.g hmg
 exact e1o KX G.T.g G.T.b G.T.builtins G.T.nolimit hg hobj hints (Nat.le_trans hlen hn2) hr hF hb (λH hO hS=>hsp w H a ns hlen hO hS) λH e s'=>hCX w H s₁ e s'
theorem d1p {l:PySem.W.OpenLaw}{n k:Nat}{q:Program}{loose:List Str}{XP:(Str->Option Value)->Heap->Prop}{YP:World->Heap->Prop}{d:DefRec}{K:Params->PySem.W.Frag}{CX:CXT}{sp:PySem.W.Frag->Sp}{x:Str}
  (hn:l.most=some n) (hn2:n<=sizeLine) (hdf:d.params.defaults=[]) (hr:Room k callerA)
  (hY:∀(w:World) (h:Heap),YP w h->(K w.params).In h)
  (F:∀(w:World) (mg:Str->Option Value) (fa:Addr) (h:Heap),(K w.params).In h->h.Ns mainGlobals mg->mg d.name=some (.ref fa) ->
   ∃fd:FuncData,(∀(s:Shared) (u:Value),BindsTo s fd ⟨[u],[]⟩ [(x,u)]) /\
    ∀base:Heap,(K w.params).In base->base.Ns mainGlobals mg->FnOk l.prog w (K w.params) mg base CX k fa fd [x] (sp (K w.params)))
  (hsp:∀(K:PySem.W.Frag) (H:Hp) (a:Addr) (ns:List Int),ns.length<=n->Only H->SqL K H a (ns.map V.int)->sp K [.ref a] H (λv _=>v = .bl true) λ_ _ _=>False)
  (hCX:∀(H:Hp) (s:Shared) (e:Value) (s':Shared),CX [] H s (λ_ _ _=>False) e s'->False) :
  PySem.W.WalkO q loose XP YP l.row.toRowW d [] (λf vs=>PySem.call f vs) :=
 h1b (K:=K) (CX:=λ_=>CX) (sp:=λw=>sp (K w.params)) hn hn2 hdf hr hY F (λw H a ns h1 h2 h3=>hsp (K w.params) H a ns h1 h2 h3) λ_ H s e s'=>hCX H s e s'
def o0j (s:Stmt):Arguments:=match s with
 | .FunctionDef _ a _ _ _ _ _ _ _ _=>a
 | _=>{posonlyargs:=[],args:=[],vararg:=none,kwonlyargs:=[],kw_defaults:=[],kwarg:=none,defaults:=[]}
def g0b (s:Stmt):List Stmt:=match s with
 | .FunctionDef _ _ b _ _ _ _ _ _ _=>b
 | _=>[]
def a0m (s:Stmt):Scope:=match s with
 | .FunctionDef _ _ _ _ _ _ sc _ _ _=>sc
 | _=>{kind:=.function,names:=[],isGenerator:=false,isCoroutine:=false}
abbrev CX0:CXT:=λ_ _ _ _ _ _=>False
abbrev E0:XK:=λ_ _ _=>False
theorem n1c {X:Cx}:d1l CX0 X E0:=λ_ _ _ _ _ _ _ h=>h.elim
structure Fun (K:PySem.W.Frag)(x qual:Str)(st:Stmt)(f:Addr)(fd:FuncData):Prop where
 ex:∃(oc:Value) (od:Option Addr) (kV doc pm:Value) (an:Option Addr) (cdv ct:Value) (osl:Array (Option Value)),
  fd=PySem.W.fnOf x qual (o0j st) (g0b st) (a0m st) .none kV doc pm an cdv ct/\K.lookup f=some ⟨oc,od,.func fd,osl⟩/\PySem.W.codeIn K cdv qual=true
 kp:PySem.W.keepIn K (.ref f)=true
section
variable {P:Program}{w:World}{K:PySem.W.Frag}{mg:Str->Option Value}{base:Heap}
theorem Fun.ok {x qual:Str}{st:Stmt}{f:Addr}{fd:FuncData}{N ps:List Str}{k:Nat}{sp:Sp}(F:Fun K x qual st f fd)(S:b0j N ps (a0m st))(len:∀vs H Q E,sp vs H Q E->vs.length=ps.length)
  (hbody:∀(cdv:Value) (A:Around) (outer:List Env) (s:Shared) (H:Hp) (vs:List V) (Q:VK) (E:XK),Room k (A.deeper (envOfC qual (a0m st) s.heap.objs.size f cdv))->sp vs H Q E ->
   ∃t,PSs (cxOf CX0 P w K mg base N qual (a0m st) f cdv A outer s H E).nox (g0b st) t/\t {nx:=λ_ H'=>Q .non H',rt:=Q} (start N vs) H):FnOk P w K mg base CX0 (k+1) f fd ps sp:=by
 obtain⟨oc,od,kV,doc,pm,an,cdv,ct,osl,rfl,lk,hcd⟩:=F.ex
 refine n1h lk hcd S len λA outer s H vs Q E hr hsp=>?_
 obtain⟨t,h,q⟩:=hbody cdv A outer s H vs Q E hr hsp
 exact⟨t,h.nox,q⟩
theorem l1z {x qual:Str}{st:Stmt}{f:Addr}{oc:Value}{od an:Option Addr}{osl:Array (Option Value)}{kV doc pm cdv ct:Value}(l:K.lookup f=some ⟨oc,od,.func (PySem.W.fnOf x qual (o0j st) (g0b st) (a0m st) .none kV doc pm an cdv ct),osl⟩)
  (c:PySem.W.codeIn K cdv qual=true) (k:PySem.W.keepIn K (.ref f)=true):Fun K x qual st f (PySem.W.fnOf x qual (o0j st) (g0b st) (a0m st) .none kV doc pm an cdv ct):=⟨⟨oc,od,kV,doc,pm,an,cdv,ct,osl,rfl,l,c⟩,k⟩
end
theorem e0z {A:Around}{k:Nat}(hr:Room k A):A.units+1<cLine:=Nat.lt_of_le_of_lt (Nat.add_le_add_left (by decide:1<=64) _) hr.units
theorem h0k {n:Nat}(h:n<=1000):n<sizeLine:=Nat.lt_of_le_of_lt h (by decide)
section
variable {X:Cx}
theorem pv (i:Nat){x:Str}{pos:Pos}(hN:X.N[i]? = some x:=by rfl)(hv:Vis X.env.scope x:=by first | exact Or.inl rfl | exact Or.inr (Or.inl rfl) | exact Or.inr (Or.inr rfl))(hd:(x==("__debug__" : Str))=false:=by decide)
  (hcd:(x==("__classdict__" : Str))=false:=by decide):PE X (.Name x pos) (tVar i):=k1x hN hv hd hcd
end
theorem iteT {A B:Prop}(h:A):if true=true then A else B:=by
 rw[if_pos rfl]
 exact h
theorem ite2 {c A B:Prop} [Decidable c](h1:c->A)(h2:¬c->B):if c then A else B:=by
 by_cases h:c
 ·rw[if_pos h]
  exact h1 h
 ·rw[if_neg h]
  exact h2 h
def Same (H H':Hp):Prop:=∀b o,H b=some o->H' b=some o
theorem Same.refl (H:Hp):Same H H:=λ_ _ h=>h
theorem Same.trans {H H1 H2:Hp}(a:Same H H1)(b:Same H1 H2):Same H H2:=λc o h=>b c o (a c o h)
theorem Same.free {H H':Hp}(e:Same H H'){l:Addr}(h:H' l=Option.none):H l=Option.none:=by
 cases q:H l with
 | none=>rfl
 | some o =>
  rw[e l o q]at h
  cases h
theorem Same.seq {K:PySem.W.Frag}{H H':Hp}{a:Addr}{xs:List V}(e:Same H H')(h:SqL K H a xs):SqL K H' a xs:=by
 rcases h with(h | ⟨o,h⟩) | h
 ·exact .inl (.inl (e _ _ h))
 ·exact .inl (.inr ⟨o,e _ _ h⟩)
 ·exact .inr h
def j0i (cells:List (Str×Addr)):List (Str×NameKind)->List (Str×Addr)->List (Str×Addr)
 | [],cs=>cs
 | (n,k)::r,cs=>j0i cells r (if k == .free then(match cells.lookup n with | some c=>(n,c)::cs | none=>cs)else cs)
def f0x (scope:Scope)(env:Env):List (Str×Addr):=j0i env.cells scope.names []
theorem z0b (env:Env):∀(names:List (Str×NameKind)) (cs:List (Str×Addr)),(∀x∈names,x.2 = .free->∃c,env.cells.lookup x.1=some c) ->
  (forIn names cs λ(x:Str×NameKind) (r:List (Str×Addr))=>(if(x.2 == .free)=true then(do let a <- cellOf env x.1;pure (ForInStep.yield ((x.1,a)::r)))else pure (ForInStep.yield r):Sem (ForInStep (List (Str×Addr)))))=pure (j0i env.cells names cs):=by
 intro names
 induction names with
 | nil=>intro cs _;rfl
 | cons x r ih =>
  intro cs h
  obtain⟨n,k⟩:=x
  rw[List.forIn_cons]
  have hr:∀y∈r,y.2 = .free->∃c,env.cells.lookup y.1=some c:=λy hy=>h y (List.mem_cons_of_mem _ hy)
  unfold j0i
  by_cases hk:k = .free
  ·subst hk
   obtain⟨c,hc⟩:=h (n,.free) List.mem_cons_self rfl
   have e:cellOf env n=pure c:=by unfold cellOf;rw[hc]
   rw[if_pos (show(NameKind.free==NameKind.free)=true from rfl),if_pos (show(NameKind.free==NameKind.free)=true from rfl),hc]
   show(cellOf env n>>=λa=>_)>>=_=_
   rw[e]
   exact ih _ hr
  ·have hb:(k==NameKind.free)=false:=by simpa using hk
   rw[if_neg (show ¬(k==NameKind.free)=true by rw[hb];exact Bool.false_ne_true),if_neg (show ¬(k==NameKind.free)=true by rw[hb];exact Bool.false_ne_true)]
   exact ih _ hr
theorem g0o {scope:Scope}{env:Env}(h:∀x∈scope.names,x.2 = .free->∃c,env.cells.lookup x.1=some c):closureFor scope env=pure (f0x scope env):=by
 have run:=z0b env scope.names [] h
 unfold closureFor f0x
 have e:(forIn scope.names ([]:List (Str×Addr)) λ(x:Str×NameKind) (r:List (Str×Addr))=>(match x with
   | (name,kind)=>if(kind==NameKind.free)=true then(do let a <- cellOf env name;pure (ForInStep.yield ((name,a)::r)))else pure (ForInStep.yield r):Sem (ForInStep (List (Str×Addr)))))=pure (j0i env.cells scope.names []):=run
 show(forIn scope.names ([]:List (Str×Addr)) _>>=λcs=>pure cs)=_
 exact(congrArg (λm:Sem (List (Str×Addr))=>m>>=λcs=>pure cs) e)
theorem q0e (cells:List (Str×Addr)):∀(names:List (Str×NameKind)) (cs:List (Str×Addr)),(∀p∈cs,cells.lookup p.1=some p.2)->∀p∈j0i cells names cs,cells.lookup p.1=some p.2
 | [],cs,h=>h
 | (n,k)::r,cs,h=>by
  unfold j0i
  refine q0e cells r _ λp hp=>?_
  by_cases hk:(k==NameKind.free)=true
  ·rw[if_pos hk]at hp
   cases e:cells.lookup n with
   | none=>rw[e]at hp;exact h p hp
   | some c =>
    rw[e]at hp
    rcases List.mem_cons.mp hp with rfl | hp
    ·exact e
    ·exact h p hp
  ·rw[if_neg hk]at hp
   exact h p hp
theorem f0p {scope:Scope}{env:Env}{x:Str}{c:Addr}(h:(f0x scope env).lookup x=some c):env.cells.lookup x=some c :=
 q0e env.cells scope.names [] (λ_ z=>nomatch z) (x,c) (PySem.mem_of_lookup h)
theorem g0e {cs:List (Str×Addr)}{x:Str}{c:Addr}(h:(x,c)∈cs):∃d,cs.lookup x=some d:=by
 induction cs with
 | nil=>cases h
 | cons p r ih =>
  obtain⟨y,d⟩:=p
  by_cases e:x==y
  ·exact⟨d,by rw[List.lookup_cons,e]⟩
  ·rcases List.mem_cons.mp h with z | z
   ·cases z;simp at e
   ·obtain⟨d',q⟩:=ih z
    exact⟨d',by simp only[Bool.not_eq_true]at e;rw[List.lookup_cons,e];exact q⟩
theorem o0q (cells:List (Str×Addr)):∀(names:List (Str×NameKind)) (cs:List (Str×Addr)) (p:Str×Addr),p∈cs->p∈j0i cells names cs
 | [],_,_,h=>h
 | (n,k)::r,cs,p,h=>by
  unfold j0i
  refine o0q cells r _ p ?_
  split
  ·split
   ·exact List.mem_cons_of_mem _ h
   ·exact h
  ·exact h
theorem q0f (cells:List (Str×Addr)){x:Str}{c:Addr}(hc:cells.lookup x=some c):∀(names:List (Str×NameKind)) (cs:List (Str×Addr)),(x,NameKind.free)∈names->(x,c)∈j0i cells names cs
 | [],_,h=>nomatch h
 | (n,k)::r,cs,h=>by
  unfold j0i
  rcases List.mem_cons.mp h with z | z
  ·cases z
   refine o0q cells r _ _ ?_
   rw[if_pos (show(NameKind.free==NameKind.free)=true from rfl),hc]
   exact List.mem_cons_self
  ·exact q0f cells hc r _ z
theorem m0c {scope:Scope}{env:Env}{x:Str}{c:Addr}(h:(x,NameKind.free)∈scope.names)(hc:env.cells.lookup x=some c):(f0x scope env).lookup x=some c:=by
 obtain⟨d,e⟩:=g0e (q0f env.cells hc scope.names [] h)
 have e':(f0x scope env).lookup x=some d:=e
 rw[e',<- f0p e',hc]
def blk (X:Cx)(scope:Scope)(N:List Str)(s:Shared)(H:Hp)(C:Addr)(fp:List Addr):Cx where
 prog:=X.prog
 w:=X.w
 K:=X.K
 mg:=X.mg
 base:=X.base
 A:=X.A
 N:=N
 s₀:=s
 H₀:=H
 env:=compEnvC scope (f0x scope X.env) C X.env
 outer:=X.stack
 stack:=X.stack
 ex:=fp
 fn:=λ_=>false
 calm:=X.calm
 pn:=[]
 xe:=λ_ _=>False
def capt (σ:St)(js:List Nat):St:=js.map λj=>(σ[j]?).getD none
def capN (N:List Str)(js:List Nat):List Str:=js.map λj=>(N[j]?).getD ""
def bst (n:Nat)(σ:St)(js:List Nat):St:=List.replicate n none++capt σ js
theorem k0q {n:Nat}{σ:St}{js:List Nat}:(bst n σ js).length=n+js.length:=by unfold bst capt;simp
section
variable {P:Program}{w:World}{A:Around}{R:Result->Shared->Prop}{s:Shared}
theorem o0p {elt tg iter:Expr}{ifs:List Expr}{scope:Scope}{pos:Pos}{it acc:Value}{env:Env}(J:Nat->Shared->Prop)
  (turn:∀n s,J n s->wpAny (model P w) A (pyNext it) (λr s1=>match r with
   | none=>R (.ok .next) s1
   | some v=>wpAny (model P w) A (letOwnedTupleGo tg it v) (λ_ s2=>wpAny (model P w) A (assign tg env v) (λ_ s3 =>
     wpAny (model P w) A (forIn ifs true λc r=>if r=true then do let ok <- isTrue c env (eval c env);pure (ForInStep.yield ok)else pure (ForInStep.yield r)) (λok s4 =>
      if ok=true then wpAny (model P w) A (eval elt env) (λx s5=>wpAny (model P w) A (call (.builtin "list.append") [acc,x]) (λ_ s6=>∃m,m<n/\J m s6) (λ_ _=>False) s5) (λ_ _=>False) s4
      else ∃m,m<n/\J m s4) (λ_ _=>False) s3) (λ_ _=>False) s2) (λ_ _=>False) s1) (λ_ _=>False) s)
  (n:Nat) (h:J n s):codeAny (model P w) A (.compLoop (.ListComp elt [⟨tg,iter,ifs,0⟩] scope pos) 0 it acc env) R s:=by
 have no:∀ {α:Type} {t:Sem α} {Q Q':α->Shared->Prop} {E:Value->Shared->Prop} {s:Shared},wpAny (model P w) A t Q (λ_ _=>False) s->(∀a s,Q a s->Q' a s)->wpAny (model P w) A t Q' E s :=
  λh hq=>wpAny_mono h hq λ_ _ f=>f.elim
 refine codeAny_loop rfl J (λn s hJ=>?_) n h
 show wpAny _ A ((compTurn (.ListComp elt [⟨tg,iter,ifs,0⟩] scope pos) 0 it acc env).onRaise (λx=>do noteFrame x env;theTreesLotGoes x)) _ _ s
 refine wpAny_noted ?_
 rw[compTurn_list]
 refine wpAny_bind (wpAny_standAt (wpAny_bind (no (turn n s hJ) λr s1 h1=>?_)))
 cases r with
 | none=>exact wpAny_pure h1
 | some v =>
  refine wpAny_bind (no h1 λ_ s2 h2=>wpAny_bind (no h2 λ_ s3 h3=>wpAny_bind (no h3 λok s4 h4=>?_)))
  cases ok with
  | false=>exact wpAny_pure ⟨rfl,h4⟩
  | true=>exact wpAny_bind (wpAny_bind (no h4 λx s5 h5=>wpAny_bind (no h5 λ_ s6 h6=>wpAny_pure (wpAny_pure ⟨rfl,h6⟩))))
end
def PTs (X:Cx)(ifs:List Expr)(t:TT):Prop :=
 ∀(pins:List (Addr×Obj)) (s:Shared) (σ:St) (H:Hp) (Q:Bool->Hp->Prop),Inv X pins σ H s->t σ H Q ->
  wpAny (model X.prog X.w) X.A (forIn ifs true λc r=>if r=true then do let ok <- isTrue c X.env (eval c X.env);pure (ForInStep.yield ok)else pure (ForInStep.yield r)) (TP X pins σ Q) X.xe s
def tAll:TT:=λ_ H Q=>Q true H
theorem f0i {X:Cx}:PTs X [] tAll:=λ_ _ _ H _ I h=>wpAny_tests_nil ⟨H,I,h⟩
theorem f0h {X:Cx}{c:Expr}{t:TT}(h:PT X c t):PTs X [c] t:=λpins s σ H Q I hq=>wpAny_tests_one (h pins s σ H Q I hq)
def j1q (J:It)(n:Nat)(js:List Nat)(g:TG)(tc:TT)(te:TE)(Q:VK)(σ:St)(H1:Hp):Prop:=∃W:Nat->Nat->List V->Hp->Prop,(∃m,W 0 m [] H1)/\∀i m ys H,W i m ys H ->
 (J.stop i H/\ys.length<=sizeLine/\∀l,H l=none->Q (.ref l) (upd H l (.lst ys))) ∨
 (J.go i H/\ys.length<sizeLine/\∃N:List V->Hp->Prop,(∀zs H',N zs H'->∃m',m'<m/\W (i+1) m' zs H')/\∀x H',J.yld i H x H'->g x (bst n σ js) H' λσ2 H2=>σ2.drop n=capt σ js/\tc σ2 H2 λb H3 =>
  if b=true then te σ2 H3 λv H4=>N (ys++[v]) H4 else N ys H3)
def y0i (n:Nat)(js:List Nat)(wi:TI)(g:TG)(tc:TT)(te:TE):TE:=λσ H Q=>wi σ H λJ H1=>j1q J n js g tc te Q σ H1
section
variable {X:Cx}
structure Blk (X:Cx)(scope:Scope)(own:List Str)(js:List Nat):Prop where
 kind:scope.kind = .function
 nocell:∀y∈scope.names,y.2 ≠ .cell
 names:∀y∈scope.names,y.2 = .local->scope.names.lookup y.1=some .local
 free:∀y∈scope.names,y.2 = .free->X.env.kindOf y.1=some .cell∨X.env.kindOf y.1=some .free
 uniq:∀x,(x,NameKind.free)∈scope.names->scope.names.lookup x=some .free
 nd:(own++capN X.N js).Nodup
 cap:∀j∈js,j<X.N.length/\((X.N[j]?).getD "",NameKind.free)∈scope.names
def blkB (sc:Scope)(N:List Str)(scope:Scope)(own:List Str)(js:List Nat):Bool :=
 scope.kind == .function&&scope.names.all (λy=>y.2 != .cell)&&scope.names.all (λy=>y.2 != .local||scope.names.lookup y.1==some .local) &&
 scope.names.all (λy=>y.2 != .free||sc.names.lookup y.1==some .cell||sc.names.lookup y.1==some .free)&&scope.names.all (λy=>y.2 != .free||scope.names.lookup y.1==some .free) &&
 decide (own++capN N js).Nodup&&js.all (λj=>decide (j<N.length)&&scope.names.any λy=>y.1==(N[j]?).getD "" && y.2 == .free)
theorem Blk.of {scope:Scope}{own:List Str}{js:List Nat}(sc:Scope)(N:List Str)(h:blkB sc N scope own js=true:=by decide +kernel)(e1:X.env.scope=sc:=by rfl)(e2:X.N=N:=by rfl):Blk X scope own js:=by
 subst e1 e2
 unfold blkB at h
 simp only[Bool.and_eq_true,List.all_eq_true,decide_eq_true_eq,beq_iff_eq]at h
 obtain⟨⟨⟨⟨⟨⟨h1,h2⟩,h3⟩,h4⟩,h5⟩,h6⟩,h7⟩:=h
 refine⟨h1,λy hy=>by simpa using h2 y hy,λy hy e=>?_,λy hy e=>?_,λx hx=>?_,h6,λj hj=>?_⟩
 ·have:=h3 y hy
  simpa [e] using this
 ·have:=h4 y hy
  simp only[e,bne_self_eq_false,Bool.false_or,Bool.or_eq_true,beq_iff_eq]at this
  exact this
 ·have:=h5 _ hx
  simpa using this
 ·obtain⟨a,b⟩:=h7 j hj
  refine⟨a,?_⟩
  obtain⟨y,hy,e⟩:=List.any_eq_true.mp b
  simp only[Bool.and_eq_true,beq_iff_eq]at e
  obtain⟨e1,e2⟩:=e
  rw[<- e1,<- e2]
  exact hy
theorem d0b {env:Env}:∀ {names:List (Str×NameKind)} {x:Str} {k:NameKind},
  (names.map λ(n,k)=>if(k==NameKind.free&&env.scope.kind == .function&&env.kindOf n==some .cell)then(n,NameKind.cell)else(n,k)).lookup x=some k->names.lookup x=some k∨(k = .cell/\names.lookup x=some .free)
 | [],_,_,h=>by simp at h
 | (n,q)::r,x,k,h=>by
  have ih:=@d0b env r x k
  cases hx:x==n with
  | true =>
   by_cases hc:(q==NameKind.free&&env.scope.kind == .function&&env.kindOf n==some .cell)=true
   ·simp only[List.map_cons,if_pos hc,List.lookup_cons,hx]at h
    cases h
    simp only[Bool.and_eq_true,beq_iff_eq]at hc
    obtain⟨⟨hq,_⟩,_⟩:=hc
    subst hq
    exact .inr ⟨rfl,by rw[List.lookup_cons,hx]⟩
   ·simp only[List.map_cons,if_neg hc,List.lookup_cons,hx]at h
    cases h
    exact .inl (by rw[List.lookup_cons,hx])
  | false =>
   have h':(r.map λ(n,k)=>if(k==NameKind.free&&env.scope.kind == .function&&env.kindOf n==some .cell)then(n,NameKind.cell)else(n,k)).lookup x=some k:=by
    by_cases hc:(q==NameKind.free&&env.scope.kind == .function&&env.kindOf n==some .cell)=true
    ·simp only[List.map_cons,if_pos hc,List.lookup_cons,hx]at h
     exact h
    ·simp only[List.map_cons,if_neg hc,List.lookup_cons,hx]at h
     exact h
   rcases ih h' with z | ⟨z,z'⟩
   ·exact .inl (by rw[List.lookup_cons,hx];exact z)
   ·exact .inr ⟨z,by rw[List.lookup_cons,hx];exact z'⟩
theorem c1x {scope:Scope}{own:List Str}{js:List Nat}{pins:List (Addr×Obj)}{σ:St}{H:Hp}{s:Shared}{fp:List Addr}{C:Addr}{h1:Heap}{tk:Nat}(B:Blk X scope own js)(I:Inv X pins σ H s)
  (hfp:∀b∈fp,FpOk X pins H b) (hfo:∀b∈fp,∃o,s.heap.get? b=some o) (hC:s.heap.objs.size<=C) (hns:h1.Ns C λ_=>none) (hk:∀b o,s.heap.get? b=some o->h1.get? b=some o) :
  Inv (blk X scope (own++capN X.N js) s H C fp) [] (bst own.length σ js) H {s with heap:=h1,toks:=tk}:=by
 have kindC:∀x,(blk X scope (own++capN X.N js) s H C fp).env.kindOf x=some .cell∨(blk X scope (own++capN X.N js) s H C fp).env.kindOf x=some .free->(x,NameKind.free)∈scope.names:=λx hx=>by
  have hx':(relabel scope X.env).names.lookup x=some .cell∨(relabel scope X.env).names.lookup x=some .free:=hx
  rcases hx' with z | z
  ·rcases d0b z with q | ⟨_,q⟩
   ·exact absurd rfl (B.nocell _ (PySem.mem_of_lookup q))
   ·exact PySem.mem_of_lookup q
  ·rcases d0b z with q | ⟨_,q⟩
   ·exact PySem.mem_of_lookup q
   ·exact PySem.mem_of_lookup q
 have has:∀x,(x,NameKind.free)∈scope.names->∃c,X.env.cells.lookup x=some c:=λx hx=>I.ok.has x (B.free (x,.free) hx rfl)
 have old:∀ {x c},(f0x scope X.env).lookup x=some c->X.env.cells.lookup x=some c:=λe=>f0p e
 have cellLt:∀ {x c},X.env.cells.lookup x=some c->c<s.heap.objs.size:=λ{x c} e=>by
  obtain⟨v,o,ho,_⟩:=I.cell x c e
  exact Heap.lt_size ho
 have fpLt:∀b∈fp,b<s.heap.objs.size:=λb hb=>let ⟨_,e⟩:=hfo b hb;Heap.lt_size e
 have fsOk:∀b∈frs X.stack,b∈X.env.locals::X.fs:=I.stkSub
 refine⟨⟨I.ok.mod,?_,I.ok.glob,I.ok.blt,hC,λx y c e1 e2=>I.ok.inj x y c (old e1) (old e2),λx hx=>?_,λx c z _=>absurd z Bool.false_ne_true,I.ok.hd,I.ok.frames,.inl rfl,λb hb=>⟨?_,λx c e=>?_⟩,I.bs,Nat.le_trans I.ok.bsz I.sz,
   λb o e hb=>?_,λb hb hf=>?_,I.stack,I.stkFree⟩,rfl,I.bare,Un.kept hk,⟨_,hns,λi x v e1 e2 e3=>?_⟩,λx c e=>?_,?_,λx c e=>I.freeC x c (old e),λp hp=>absurd hp (by show p∉[]++[];simp),I.hok.kept hk,?_⟩
 ·show(relabel scope X.env).kind = .function
  exact B.kind
 ·obtain⟨c,e⟩:=has x (kindC x hx)
  exact⟨c,m0c (kindC x hx) e⟩
 ·exact Nat.ne_of_lt (Nat.lt_of_lt_of_le (fpLt b hb) hC)
 ·exact(hfp b hb).2.2.2.2.1 x c (old e)
 ·have e1:=I.bs b o e
  obtain⟨f0,f1,f2,f3,f4,f5⟩:=hfp b hb
  rcases f3 with z | z
  ·exact I.ok.noex b o e z
  ·exact absurd (Nat.lt_of_lt_of_le (Heap.lt_size (I.ok.bs b o e).1) z) (Nat.lt_irrefl _)
 ·obtain⟨f0,f1,f2,f3,f4,f5⟩:=hfp b hb
  rcases List.mem_cons.mp (fsOk b hf)with z | z
  ·exact f1 z
  ·exact f2 z
 ·-- a captured name's value
  have hi:own.length<=i:=by
   rcases Nat.lt_or_ge i own.length with z | z
   ·exfalso
    have e2':(List.replicate own.length (none:Option V)++capt σ js)[i]? = some (some v):=e2
    rw[List.getElem?_append_left (by simpa using z),List.getElem?_replicate]at e2'
    split at e2' <;> cases e2'
   ·exact z
  have e1':(own++capN X.N js)[i]? = some x:=e1
  have e2':(List.replicate own.length (none:Option V)++capt σ js)[i]? = some (some v):=e2
  rw[List.getElem?_append_right hi]at e1'
  rw[List.getElem?_append_right (by simpa using hi),List.length_replicate]at e2'
  unfold capN at e1'
  unfold capt at e2'
  rw[List.getElem?_map]at e1' e2'
  cases ej:js[i - own.length]? with
  | none=>rw[ej]at e1';cases e1'
  | some j =>
   rw[ej]at e1' e2'
   have e1'':(X.N[j]?).getD "" = x:=Option.some.inj e1'
   have e2'':(σ[j]?).getD none=some v:=Option.some.inj e2'
   obtain⟨hj,hm⟩:=B.cap j (List.mem_of_getElem? ej)
   have eN:X.N[j]? = some x:=by
    rw[List.getElem?_eq_getElem hj]at e1'' ⊢
    exact congrArg some e1''
   have eS:σ[j]? = some (some v):=by
    cases q:σ[j]? with
    | none=>rw[q]at e2'';cases e2''
    | some u=>rw[q]at e2'';exact congrArg some e2''
   rw[e1'']at hm
   obtain⟨m,_,hl⟩:=I.loc
   have hv:Vis X.env.scope x:=by
    rcases B.free (x,.free) hm rfl with z | z
    ·exact .inr (.inl z)
    ·exact .inr (.inr z)
   obtain⟨u,r,l⟩:=hl j x v eN eS hv
   obtain⟨c,hc⟩:=has x hm
   refine⟨u,r,.inr ⟨?_,c,m0c hm hc,?_⟩⟩
   ·rcases e3 with z | z | z
    ·exfalso
     have z':(relabel scope X.env).names.lookup x=some .local:=z
     rcases d0b z' with q | ⟨q,_⟩
     ·rw[B.uniq x hm]at q
      cases q
     ·cases q
    ·exact .inl z
    ·exact .inr z
   ·rcases l with⟨k1,_⟩ | ⟨k2,c2,e2,ic⟩
    ·rcases B.free (x,.free) hm rfl with t | t <;> (rw[k1]at t;cases t)
    ·rw[hc]at e2;cases e2
     obtain⟨o,ho,hd⟩:=ic
     exact⟨o,hk c o ho,hd⟩
 ·obtain⟨v,o,ho,hd⟩:=I.cell x c (old e)
  exact⟨v,o,hk c o ho,hd⟩
 ·exact I.hok.fresh hC
 ·rw[k0q]
  show _=(own++capN X.N js).length
  unfold capN
  simp
end
section
variable {X:Cx}
theorem Inv.young {pins:List (Addr×Obj)}{σ:St}{H:Hp}{s:Shared}{h':Heap}{c:Addr}(I:Inv X pins σ H s)(hs:Heap.SameBut c s.heap h')(hn:H c=none)(h1:X.s₀.heap.objs.size<=c)(hL:c≠X.env.locals)
  (h2:∀x d,X.env.cells.lookup x=some d->d≠c) (h3:∀p∈X.pn++pins,p.1≠c):Inv X pins σ H {s with heap:=h'} :=
 I.turned (t':=s.toks) (λb o hb e=>(hs.2 b hb).trans e) hn hL (.inr h1) h2 h3
theorem Inv.track {pins:List (Addr×Obj)}{σ:St}{H:Hp}{s:Shared}{D:Addr}{ys:List V}{its:List Value}{n:Nat}(I:Inv X pins σ H s)(hn:H D=none)(h1:X.s₀.heap.objs.size<=D)(hL:D≠X.env.locals)
  (h2:∀x d,X.env.cells.lookup x=some d->d≠D) (h3:∀p∈X.pn++pins,p.1≠D) (hz:ys.length<=sizeLine) (r:Vals ys its) (e:s.heap.get? D=some {cls:=.type "list",data:=.seq its.toArray n}) :
  Inv X pins σ (upd H D (.lst ys)) s:=by
 have ne:∀ {b u},H b=some u->b≠D:=λ{b u} q=>b0y q hn
 refine⟨I.ok,I.os,I.bare,⟨I.base.keep,I.base.slot,λb o q z hx=>?_,I.base.there,λb xs q=>?_,λb o u q=>?_,λb ps q=>?_⟩,I.loc,I.cell,?_,λx c q=>?_,λp hp=>?_,λb o q=>?_,I.len⟩
 ·rw[b0l (Nat.ne_of_lt (Nat.lt_of_lt_of_le (Heap.lt_size q) h1))]
  exact I.base.free b o q z hx
 ·have q':=I.base.tups b xs q
  rw[b0l (ne q')];exact q'
 ·have q':=I.base.frzs b o u q
  rw[b0l (ne q')];exact q'
 ·obtain⟨more,q'⟩:=I.base.tbls b ps q
  exact⟨more,by rw[b0l (ne q')];exact q'⟩
 ·rw[b0l (Ne.symm hL)];exact I.free
 ·rw[b0l (h2 x c q)];exact I.freeC x c q
 ·obtain⟨a1,a2,a3⟩:=I.pin p hp
  exact⟨a1,by rw[b0l (h3 p hp)];exact a2,a3⟩
 ·by_cases hb:b=D
  ·subst hb
   rw[c0v]at q
   cases q
   exact⟨hz,its,n,r,e⟩
  ·rw[b0l hb]at q
   refine(I.hok b o q).stay (λ_ _ _ z=>z) (λc z=>?_) λc xs z=>?_
   ·rw[b0l (ne z)];exact z
   ·rw[b0l (ne z)];exact z
def d1n (X:Cx)(pins:List (Addr×Obj))(σ:St)(Q:VK)(C:Addr)(acc:Value)(s':Shared):Prop :=
 ∃(D:Addr) (H:Hp) (m:Str->Option Value),acc = .ref D/\s'.heap.Ns C m/\Inv X pins σ H s'/\H C=none/\X.s₀.heap.objs.size<=C/\C≠X.env.locals/\(∀x d,X.env.cells.lookup x=some d->d≠C)/\(∀p∈X.pn++pins,p.1≠C)/\Q (.ref D) H
theorem q0d {elt tg iter:Expr}{ifs:List Expr}{scope:Scope}{pos:Pos}{own:List Str}{js:List Nat}{g:TG}{tc:TT}{te:TE}{Q:VK}{pins:List (Addr×Obj)}{σ:St}{s2:Shared}{itv:Value}{E:Value->Shared->Prop}
  {RR:Value->Addr->Result->Shared->Prop} (hc:X.calm=true) (B:Blk X scope own js) (hg:∀s H C fp,(own++capN X.N js).Nodup->PG (blk X scope (own++capN X.N js) s H C fp) tg g) (ht:∀s H C fp,PTs (blk X scope (own++capN X.N js) s H C fp) ifs tc)
  (he:∀s H C fp,PE (blk X scope (own++capN X.N js) s H C fp) elt te)
  (h:PIE X pins σ tg (λJ H1=>j1q J own.length js g tc te Q σ H1) itv s2)
  (hR:∀C acc s',d1n X pins σ Q C acc s'->RR acc C (.ok .next) s') :
  wpAny (model X.prog X.w) X.A (newList []) (λacc s3=>wpAny (model X.prog X.w) X.A (newFunctionEnv scope X.env.globals (f0x scope X.env) [] X.env.qual none .none (some X.env)) (λcenv s4 =>
   codeAny (model X.prog X.w) X.A (.compStart (.ListComp elt [⟨tg,iter,ifs,0⟩] scope pos) 0 itv acc {cenv with scope:=relabel scope X.env}) (RR acc cenv.locals) s4) E s3) E s2:=by
 obtain⟨it,fp,tn,J,H2,rfl,I2,T,st2,f2,W,⟨m0,w0⟩,turn⟩:=h
 refine wpAny_newObj_type (wpAny_newFunctionEnv B.nocell (by intro y hy;simp at hy) (λh1 hns1 hsb1=>?_) B.kind)
 generalize hPu:s2.heap.push {cls:=.type "list",dict:=none,data:=.seq ([]:List Value).toArray}=Pu at hns1 hsb1 ⊢
 dsimp only at hns1 hsb1 ⊢
 have hDC:Pu.objs.size=s2.heap.objs.size+1:=by rw[<- hPu,Heap.size_push]
 generalize hD:s2.heap.objs.size=D at hDC ⊢
 have gD:Pu.get? D=some {cls:=.type "list",dict:=none,data:=.seq ([]:List Value).toArray}:=by
  rw[<- hPu,<- hD];exact Heap.get?_push_size _ rfl
 generalize hC:Pu.objs.size=C at hns1 hsb1 hDC ⊢
 have ltDC:D<C:=by rw[hDC];exact Nat.lt_succ_self D
 have neDC:D≠C:=Nat.ne_of_lt ltDC
 have keep1:∀b o,s2.heap.get? b=some o->h1.get? b=some o:=λb o e=>by
  have hb:b<D:=by rw[<- hD];exact Heap.lt_size e
  have hb2:b≠C:=Nat.ne_of_lt (Nat.lt_trans hb ltDC)
  refine(hsb1.2 b hb2).trans (Heap.get?_push_of_some _ ?_)
  rw[<- hPu]
  exact Heap.get?_push_of_some _ e
 have gD1:h1.get? D=some {cls:=.type "list",dict:=none,data:=.seq ([]:List Value).toArray}:=(hsb1.2 D neDC).trans (Heap.get?_push_of_some _ gD)
 have szD:s2.heap.objs.size<=D:=Nat.le_of_eq hD
 have szC:s2.heap.objs.size<=C:=Nat.le_trans szD (Nat.le_of_lt ltDC)
 have old:∀ {b:Addr},b<s2.heap.objs.size->b≠D/\b≠C:=λhb=>⟨Nat.ne_of_lt (Nat.lt_of_lt_of_le hb szD),Nat.ne_of_lt (Nat.lt_of_lt_of_le hb szC)⟩
 have fpo:∀b∈fp,∃o,s2.heap.get? b=some o:=λb hb=>let ⟨o,e,_⟩:=T.obj 0 _ st2 b hb;⟨o,e⟩
 have fpD:∀b∈fp,b≠D/\b≠C:=λb hb=>by
  obtain⟨o,e⟩:=fpo b hb
  exact old (Heap.lt_size e)
 have clD:∀x d,X.env.cells.lookup x=some d->d≠D/\d≠C:=λx d e=>by
  obtain⟨v,o,ho,_⟩:=I2.cell x d e
  exact old (Heap.lt_size ho)
 have pinD:∀p∈X.pn++pins,p.1≠D/\p.1≠C:=λp hp=>by
  exact old (Heap.lt_size (I2.pin p hp).1)
 have locD:D≠X.env.locals/\C≠X.env.locals:=by
  exact⟨(old I2.lt).1.symm,(old I2.lt).2.symm⟩
 let Y:=blk X scope (own++capN X.N js) s2 H2 C fp
 have IB:Inv Y [] (bst own.length σ js) H2 {s2 with heap:=h1,toks:=s2.toks+([]:List (Str×Value)).length}:=c1x B I2 f2 fpo szC hns1 keep1
 have fpB:∀ {H':Hp} {pl:List (Addr×Obj)},(∀b∈fp,H' b=none)->(∀p∈pl,p.1=D)->∀b∈fp,FpOk Y pl H' b:=λ{H' pl} hn hp b hb=>by
  obtain⟨f0,f1,f3,f4,f5,f6⟩:=f2 b hb
  refine⟨hn b hb,(fpD b hb).2,λz=>?_,.inl hb,λx c e=>f5 x c (f0p e),λp q=>?_⟩
  ·rcases List.mem_cons.mp (I2.stkSub b z)with z | z
   ·exact f1 z
   ·exact f3 z
  ·have q':p∈pl:=by simpa [Y,blk] using q
   rw[hp p q']
   exact(fpD b hb).1.symm
 have clB:∀x d,Y.env.cells.lookup x=some d->d≠D:=λx d e=>(clD x d (f0p e)).1
 have notFs:D∉Y.fs:=λz=>by
  obtain⟨_,o,ho,_⟩:=IB.ok.funs.mem z
  exact(old (Heap.lt_size (show s2.heap.get? D=some o from ho))).1 rfl
 have loop:∀s3:Shared,s3={s2 with heap:=h1,toks:=s2.toks+([]:List (Str×Value)).length} ->
   codeAny (model X.prog X.w) X.A (.compLoop (.ListComp elt [⟨tg,iter,ifs,0⟩] scope pos) 0 (.ref it) (.ref D) (compEnvC scope (f0x scope X.env) C X.env)) (RR (.ref D) C) s3:=by
  rintro s3 rfl
  refine o0p (λn s'=>∃(i:Nat) (ys:List V) (its:List Value) (k:Nat) (H':Hp),Inv Y [] (bst own.length σ js) H' s'/\tn i s'.heap/\(∀b∈fp,H' b=none)/\H' D=none/\Vals ys its /\
   s'.heap.get? D=some {cls:=.type "list",data:=.seq its.toArray k}/\W i n ys H') ?_ m0 ⟨0,[],[],0,H2,IB,T.keep 0 _ _ st2 (λb hb o e=>keep1 b o e),λb hb=>(f2 b hb).1,I2.hok.fresh szD,.nil,gD1,w0⟩
  rintro n s3 ⟨i,ys,its,k,H3,I3,st3,fr3,hD3,r3,g3,w3⟩
  have I3p:Inv Y [(D,{cls:=.type "list",data:=.seq its.toArray k})] (bst own.length σ js) H3 s3:=I3.pins_of λp hp=>by
   have e:p=(D,{cls:=.type "list",data:=.seq its.toArray k}):=by simpa using hp
   subst e
   exact⟨g3,hD3,neDC,notFs,λv z=>by cases z⟩
  have f3:∀b∈fp,FpOk Y [(D,{cls:=.type "list",data:=.seq its.toArray k})] H3 b:=fpB fr3 λp hp=>by
   have e:p=(D,{cls:=.type "list",data:=.seq its.toArray k}):=by simpa using hp
   rw[e]
  rcases turn i n ys H3 w3 with⟨stop,hz,qn⟩ | ⟨go,hz,N,hN,step⟩
  ·refine thn (T.done Y rfl rfl rfl hc i _ s3 _ H3 (λ_ _=>False) I3p f3 st3 stop) λr s4 ⟨hr,I4⟩=>?_
   subst hr
   refine hR C _ s4 ?_
   have g4:=(I4.pin (D,{cls:=.type "list",data:=.seq its.toArray k}) (by simp[Y,blk])).1
   obtain⟨m,hn4,_⟩:=id I4.loc
   have un:Un (frs X.stack) fp H2 H3 s2.heap s4.heap:=I4.base
   have I5:Inv X pins σ H3 s4:=I2.call' I4.os un I4.hok I4.bare λb hb=>let ⟨_,b1,_,b3,b4,b5⟩:=f2 b hb;⟨b3,b1,b4,b5⟩
   have I6:=I5.track (ys:=ys) (its:=its) (n:=k) hD3 (Nat.le_trans I2.sz szD) locD.1 (λx d e=>(clD x d e).1) (λp hp=>(pinD p hp).1) hz r3 g4
   refine⟨D,_,m,rfl,hn4,I6,?_,Nat.le_trans I2.sz szC,locD.2,λx d e=>(clD x d e).2,λp hp=>(pinD p hp).2,qn D hD3⟩
   rw[b0l (Ne.symm neDC)]
   exact I4.free
  ·refine thn (T.item Y rfl rfl rfl hc i _ s3 _ H3 (λ_ _=>False) I3p f3 st3 go) λr s4 ⟨u,hr,h4⟩=>?_
   subst hr
   refine thn h4 λ_ s5 ⟨x,H5,I5,r5,y5,st5,fr5⟩=>?_
   have f5:∀b∈fp,FpOk Y [(D,{cls:=.type "list",data:=.seq its.toArray k})] H5 b:=λb hb=>⟨fr5 b hb,(f3 b hb).2⟩
   have I5':=I5.pinned f5 (T.obj _ _ st5)
   refine thn (hg s2 H2 C fp B.nd _ s5 _ H5 x u _ I5' r5 (step x H5 y5)) λ_ s6 ⟨σ6,H6,I6,d6,q6⟩=>?_
   refine thn (ht s2 H2 C fp _ s6 σ6 H6 _ I6 q6) λok s7 ⟨H7,I7,q7⟩=>?_
   have after:∀ {s8:Shared} {H8:Hp},Inv Y ([(D,{cls:=.type "list",data:=.seq its.toArray k})]++i0y fp s5.heap) σ6 H8 s8 ->
     s8.heap.get? D=some {cls:=.type "list",data:=.seq its.toArray k}/\H8 D=none/\tn (i+1) s8.heap/\(∀b∈fp,H8 b=none)/\Inv Y [] (bst own.length σ js) H8 s8:=λ{s8 H8} I8=>by
    have p8:=I8.pin (D,{cls:=.type "list",data:=.seq its.toArray k}) (by simp[Y,blk])
    refine⟨p8.1,p8.2.1,T.keep _ _ _ st5 λb hb o e=>(I8.pin (b,o) (List.mem_append_right _ (List.mem_append_right _ (d0l hb e)))).1,λb hb=>?_,?_⟩
    ·obtain⟨o,e,_⟩:=T.obj _ _ st5 b hb
     exact(I8.pin (b,o) (List.mem_append_right _ (List.mem_append_right _ (d0l hb e)))).2.1
    ·refine(I8.pins_of (pins':=[]) λp hp=>absurd hp (by simp[Y,blk])).weak ?_ λj v e=>?_
     ·rw[I8.len,k0q]
      show _=(own++capN X.N js).length
      unfold capN
      simp
     ·rcases Nat.lt_or_ge j own.length with z | z
      ·exfalso
       unfold bst at e
       rw[List.getElem?_append_left (by simpa using z),List.getElem?_replicate]at e
       split at e <;> cases e
      ·unfold bst at e
       rw[List.getElem?_append_right (by simpa using z),List.length_replicate,<- d6,List.getElem?_drop]at e
       rw[<- e]
       congr 1
       omega
   cases ok with
   | false =>
    rw[if_neg Bool.false_ne_true]at q7 ⊢
    obtain⟨m',hm,w7⟩:=hN _ _ q7
    obtain⟨a1,a2,a3,a4,a5⟩:=after I7
    exact⟨m',hm,i+1,ys,its,k,H7,a5,a3,a4,a2,r3,a1,w7⟩
   | true =>
    rw[if_pos rfl]at q7 ⊢
    refine thn (he s2 H2 C fp _ s7 σ6 H7 _ I7 q7) λu8 s8 ⟨v8,H8,I8,r8,n8⟩=>?_
    obtain⟨m',hm,w8⟩:=hN _ _ n8
    obtain⟨a1,a2,a3,a4,a5⟩:=after I8
    have hsz:its.toArray.size<sizeLine:=by rw[List.size_toArray,<- r3.length];exact hz
    refine call_meets F.slot_list_append ⟨_,a1,rfl⟩ F.entry_list_append (F.args_list_append_2 _ _) (PySem.list_append D its.toArray k u8 (by omega)) ⟨a1,?_⟩
    have q9:=PySem.IsL.update a1 (λxs=>xs.push u8)
    have sb:Heap.SameBut D s8.heap (s8.heap.update D (Obj.mapSeq λxs=>xs.push u8)):=Heap.SameBut.update ..
    have I9:=a5.young sb a2 szD neDC clB (λp hp=>absurd hp (by show p∉[]++[];simp))
    have fin:∃k',(s8.heap.update D (Obj.mapSeq λxs=>xs.push u8)).get? D=some {cls:=.type "list",data:=.seq (its++[u8]).toArray k'}:=⟨_,by
     rw[show(its++[u8]).toArray=its.toArray.push u8 by simp]
     exact q9⟩
    obtain⟨k',fin⟩:=fin
    exact⟨m',hm,i+1,ys++[v8],its++[u8],k',H8,I9,T.keep _ _ _ a3 (λb hb o e=>(sb.2 b (fpD b hb).1).trans e),a4,a2,r3.append (.cons r8 .nil),fin,w8⟩
 exact codeAny_compStart_list (loop _ rfl) (T.self _ 0 _ _ _ (T.keep 0 _ _ st2 λb hb o e=>keep1 b o e) (loop _ rfl))
theorem d0q {elt tg iter:Expr}{ifs:List Expr}{scope:Scope}{pos:Pos}(own:List Str)(js:List Nat){wi:TI}{g:TG}{tc:TT}{te:TE}(hc:X.calm=true)(B:Blk X scope own js)(hi:PI X tg iter wi)
  (hg:∀s H C fp,(own++capN X.N js).Nodup->PG (blk X scope (own++capN X.N js) s H C fp) tg g) (ht:∀s H C fp,PTs (blk X scope (own++capN X.N js) s H C fp) ifs tc) (he:∀s H C fp,PE (blk X scope (own++capN X.N js) s H C fp) elt te)
  (hs:∀x,foldedSetIterable iter X.env x=pure x:=by intro _;rfl):PE X (.ListComp elt [⟨tg,iter,ifs,0⟩] scope pos) (y0i own.length js wi g tc te):=by
 intro pins s σ H Q I h
 have hcl:closureFor scope X.env=pure (f0x scope X.env):=g0o λx hx hf=>I.ok.has x.1 (B.free x hx hf)
 rw[eval_ListComp]
 refine wpAny_comprehension_free (use:=none) rfl hs hcl B.kind B.names (thn (hi pins s σ H _ I h) λv s1 h1=>thn h1 λitv s2 h2=>?_)
 refine q0d (RR:=λacc C=>compPost (model X.prog X.w) X.A X.xe none (EP X pins σ Q) acc C) hc B hg ht he h2 λC acc s' hb=>?_
 obtain⟨D,H',m,rfl,hn,I',c1,c2,c3,c4,c5,q⟩:=hb
 exact⟨m,hn,λh' hs'=>⟨.ref D,H',I'.young hs' c1 c2 c3 c4 c5,rfl,q⟩⟩
theorem k0k {elt tg iter:Expr}{ifs:List Expr}{scope:Scope}{pos pos' spos:Pos}{i:Nat}{x:Str}(own:List Str)(js:List Nat){wi:TI}{g:TG}{tc:TT}{te:TE}(hN:X.N.Nodup)(hi:X.N[i]? = some x)(hx:Loc X.env.scope x)
  (hc:X.calm=true) (B:Blk X scope own js) (hit:PI X tg iter wi)
  (hg:∀s H C fp,(own++capN X.N js).Nodup->PG (blk X scope (own++capN X.N js) s H C fp) tg g) (ht:∀s H C fp,PTs (blk X scope (own++capN X.N js) s H C fp) ifs tc) (he:∀s H C fp,PE (blk X scope (own++capN X.N js) s H C fp) elt te)
  (hf:X.fn x=true∨X.env.scope.names.lookup x=some .local:=by first | exact .inl rfl | exact .inr rfl | assumption)
  (hw:swapsWith (.ListComp elt [⟨tg,iter,ifs,0⟩] scope pos) (some (.Name x pos')) spos.line X.env=pure true:=by rfl)
  (hs:∀x,foldedSetIterable iter X.env x=pure x:=by intro _;rfl) :
  PS X (.Assign [.Name x pos'] (.ListComp elt [⟨tg,iter,ifs,0⟩] scope pos) spos) (λD σ H=>y0i own.length js wi g tc te σ H λv H'=>D.nx (σ.set i (some v)) H'):=by
 intro pins s σ H D I h
 have hcl:closureFor scope X.env=pure (f0x scope X.env):=g0o λx hx hf=>I.ok.has x.1 (B.free x hx hf)
 rw[exec_Assign_Name_used _ _ _ _ hw]
 refine wpAny_bind (wpAny_standAt (wpAny_bind ?_))
 show wpAny _ X.A (do let _ <- comprehension (.ListComp elt [⟨tg,iter,ifs,0⟩] scope pos) scope X.env _ (newList []) false (eval iter X.env) (some (assign (.Name x pos') X.env))) _ _ s
 refine wpAny_bind (thn (Q:=λ_ s'=>SP X pins D .next s') (wpAny_comprehension_free (use:=some (assign (.Name x pos') X.env)) rfl hs hcl B.kind B.names (thn (hit pins s σ H _ I h) λv s1 h1=>thn h1 λitv s2 h2=>?_)) λ_ s' q=>wpAny_pure (wpAny_pure q))
 refine q0d (Q:=λv H'=>D.nx (σ.set i (some v)) H') (RR:=λacc C=>compPost (model X.prog X.w) X.A X.xe (some (assign (.Name x pos') X.env)) (λ_ s'=>SP X pins D .next s') acc C) hc B hg ht he h2 λC acc s' hb=>?_
 obtain⟨l,H',m,rfl,hn,I',c1,c2,c3,c4,c5,q⟩:=hb
 show wpAny _ X.A (assign (.Name x pos') X.env (.ref l)) _ _ _
 refine wpAny_assign_Name (n0q (v:=.ref l) I' hN hi hx rfl (λs3 I3 ⟨a,sb,ha⟩=>?_) hf)
 have ne:C≠a:=by
  rcases ha with z | z
  ·rw[z];exact c3
  ·exact(c4 x a z).symm
 exact⟨m,hn.sameBut sb ne,λh' hs'=>⟨_,H',I3.young hs' c1 c2 c3 c4 c5,q⟩⟩
end
section
variable {X:Cx}
def Dv (j:Int):Prop:=0<j/\j.natAbs.log2<9000
theorem Dv.small {j:Int}(h:0<j)(h2:j<1073741824):Dv j:=⟨h,by
 have e:j.natAbs≠0:=by omega
 have:j.natAbs.log2<30:=(Nat.log2_lt e).mpr (by omega)
 omega⟩
theorem q0x:OpR X (binaryOp .FloorDiv) (rI (λ_ j=>Dv j) λi j=>.int (i / j)):=opI λi j _ _ _ _ _ hc q=>by
 rw[<- Int.fdiv_eq_ediv_of_nonneg i (Int.le_of_lt hc.1)]at q
 exact floordiv_int (Int.ne_of_gt hc.1) q (.inl (PyProof.noPylong_of_log2 hc.2))
theorem i1h:MtR X "int.bit_length" (λx xs H Q=>∃i,x = .int i/\xs=[]/\Q (.int (Builtin.Int.intBits i:Nat)) H):=by
 intro pins s σ H x xs v us Q I rx rv h
 obtain⟨i,rfl,rfl,q⟩:=h
 obtain⟨t,rfl⟩:=rx
 cases rv
 exact call_int_bit_length ⟨.int (Builtin.Int.intBits i:Nat),H,I.tok _,⟨_,rfl⟩,q⟩
def isaT (t T:String):Option Bool:=if(Value.type t==Value.type T)=true then some true else if PySem.W.kitMeta T=true then(fastBuiltinMro t).map (·.contains (.type T))else none
theorem m0q:isaT "int" "int" = some true:=by decide +kernel
theorem l0k:isaT "int" "bool" = some false:=by decide +kernel
theorem g0n:isaT "int" "list" = some false:=by decide +kernel
theorem k0i:isaT "int" "tuple" = some false:=by decide +kernel
theorem t0k:isaT "int" "str" = some false:=by decide +kernel
theorem l0l:isaT "bool" "int" = some true:=by decide +kernel
theorem h0i:isaT "bool" "bool" = some true:=by decide +kernel
theorem f0r:isaT "bool" "list" = some false:=by decide +kernel
theorem j0f:isaT "bool" "tuple" = some false:=by decide +kernel
theorem r0h:isaT "bool" "str" = some false:=by decide +kernel
theorem m0o:isaT "str" "int" = some false:=by decide +kernel
theorem g0l:isaT "str" "list" = some false:=by decide +kernel
theorem k0g:isaT "str" "tuple" = some false:=by decide +kernel
theorem t0i:isaT "str" "str" = some true:=by decide +kernel
theorem m0p:isaT "NoneType" "int" = some false:=by decide +kernel
theorem g0m:isaT "NoneType" "list" = some false:=by decide +kernel
theorem k0h:isaT "NoneType" "tuple" = some false:=by decide +kernel
theorem t0j:isaT "NoneType" "str" = some false:=by decide +kernel
theorem l0j:isaT "list" "int" = some false:=by decide +kernel
theorem d0m:isaT "list" "list" = some true:=by decide +kernel
theorem j0e:isaT "list" "tuple" = some false:=by decide +kernel
theorem r0g:isaT "list" "str" = some false:=by decide +kernel
theorem k0f:isaT "tuple" "int" = some false:=by decide +kernel
theorem f0j:isaT "tuple" "list" = some false:=by decide +kernel
theorem i0t:isaT "tuple" "tuple" = some true:=by decide +kernel
theorem p0h:isaT "tuple" "str" = some false:=by decide +kernel
theorem e1q {K:PySem.W.Frag}{t T:String}:PySem.W.kitOne K (.type t) (.type T)=isaT t T:=rfl
theorem m0w {x:Str}{T:String}{pos:Pos}(hg:Gl X x)(hm:X.mg x=none)(hv:bootBuiltins x=some (.type T))(hn:x ≠ "__name__" := by decide)(hd:(x==("__debug__" : Str))=false:=by decide):PE X (.Name x pos) (tC (.ty T)) :=
 h1z hg hm hv rfl hn hd
structure OkN (P:Program)(w:World)(K:PySem.W.Frag)(mg:Str->Option Value)(base:Heap)(k:Nat)(x:Str)(ps:List Str)(sp:Sp):Prop where
 ex:∃f fd,mg x=some (.ref f)/\PySem.W.keepIn K (.ref f)=true/\d1m K fd ps []/\(∃oc od osl,K.lookup f=some ⟨oc,od,.func fd,osl⟩)/\FnOk P w K mg base CX0 k f fd ps sp
theorem b0k {k:Nat}{x:Str}{ps:List Str}{sp:Sp}{p pos:Pos}{e:Expr}{es:List Expr}{t:TA}(F:OkN X.prog X.w X.K X.mg X.base k x ps sp)(hr:Room k X.A)(ha:PA X (e::es) t)(hg:Gl X x:=by rfl)
  (hdb:(x==("__debug__" : Str))=false:=by decide) (he:starEach (e::es) X.env=(false,eval e X.env)::starEach es X.env:=by rfl) (hpl:(backTo pos (starEach es X.env)).any (·.1)=false:=by rfl) :
  PE X (.Call (.Name x p) (e::es) [] pos) (h1i sp [] E0 t):=by
 obtain⟨f,fd,hm,hk,hb,lk,F⟩:=F.ex
 exact h1x F hr hg hm hk hb .nil n1c ha hdb he hpl
structure DefN (K:PySem.W.Frag)(mg:Str->Option Value)(x:Str)(st:Stmt)(ps:List Str):Prop where
 ex:∃f fd,mg x=some (.ref f)/\Fun K x x st f fd/\∀us:List Value,us.length=ps.length->bindArgs fd ⟨us,[]⟩=pure (ps.zip us)
theorem DefN.ok {P:Program}{w:World}{K:PySem.W.Frag}{mg:Str->Option Value}{base:Heap}{x:Str}{st:Stmt}{N ps:List Str}{k:Nat}{sp:Sp}(D:DefN K mg x st ps)(S:b0j N ps (a0m st))(len:∀vs H Q E,sp vs H Q E->vs.length=ps.length)
  (hbody:∀(f:Addr) (cdv:Value) (A:Around) (outer:List Env) (s:Shared) (H:Hp) (vs:List V) (Q:VK) (E:XK),Room k (A.deeper (envOfC x (a0m st) s.heap.objs.size f cdv))->sp vs H Q E ->
   ∃t,PSs (cxOf CX0 P w K mg base N x (a0m st) f cdv A outer s H E).nox (g0b st) t/\t {nx:=λ_ H'=>Q .non H',rt:=Q} (start N vs) H):OkN P w K mg base (k+1) x ps sp:=by
 obtain⟨f,fd,hm,F,hb⟩:=D.ex
 refine⟨f,fd,hm,F.kp,.all hb,?_,F.ok S len λcdv A outer s H vs Q E hr h=>hbody f cdv A outer s H vs Q E hr h⟩
 obtain⟨oc,od,kV,doc,pm,an,cdv,ct,osl,_,lk,_⟩:=F.ex
 exact⟨oc,od,osl,lk⟩
theorem c0k {K:PySem.W.Frag}{mg:Str->Option Value}{h:Heap}{x:Str}{st:Stmt}{ps:List Str}{f:Addr}{oc:Value}{od an:Option Addr}{osl:Array (Option Value)}{kV doc pm cdv ct:Value}(KX:K.In h)(G:h.Ns mainGlobals mg)
  (a:PySem.W.nsIn K mainGlobals x=some (some (.ref f))) (l:K.lookup f=some ⟨oc,od,.func (PySem.W.fnOf x x (o0j st) (g0b st) (a0m st) .none kV doc pm an cdv ct),osl⟩)
  (c:PySem.W.codeIn K cdv x=true) (k:PySem.W.keepIn K (.ref f)=true)
  (hb:∀(kV doc pm:Value) (an:Option Addr) (cdv ct:Value) (us:List Value),us.length=ps.length->bindArgs (PySem.W.fnOf x x (o0j st) (g0b st) (a0m st) .none kV doc pm an cdv ct) ⟨us,[]⟩=pure (ps.zip us)):DefN K mg x st ps :=
 ⟨f,_,PySem.W.mg_of KX G a,l1z l c k,λus hl=>hb kV doc pm an cdv ct us hl⟩
theorem i1o {P:Program}{w:World}{K:PySem.W.Frag}{mg:Str->Option Value}{x p:Str}{st:Stmt}{k:Nat}{fa:Addr}{sp:Sp}(D:DefN K mg x st [p])(hfa:mg x=some (.ref fa))
  (F:∀base:Heap,OkN P w K mg base k x [p] sp):∃fd:FuncData,(∀(s:Shared) (v:Value),BindsTo s fd ⟨[v],[]⟩ [(p,v)])/\∀base:Heap,K.In base->base.Ns mainGlobals mg->FnOk P w K mg base CX0 k fa fd [p] sp:=by
 obtain⟨f,fd,hm,F0,hb⟩:=D.ex
 obtain⟨oc,od,kV,doc,pm,an,cdv,ct,osl,_,lk,_⟩:=F0.ex
 refine⟨fd,λs v=>.of_eq (hb [v] rfl),λbase _ _=>?_⟩
 obtain⟨f',fd',hm',_,_,⟨oc',od',osl',lk'⟩,G⟩:=(F base).ex
 rw[hfa]at hm'
 cases hm'
 rw[hfa]at hm
 cases hm
 rw[lk]at lk'
 cases lk'
 exact G
end
structure BI (mg:Str->Option Value):Prop where
 len_:mg "len" = none
 range_:mg "range" = none
 isinstance_:mg "isinstance" = none
 int_:mg "int" = none
 bool_:mg "bool" = none
 list_:mg "list" = none
 tuple_:mg "tuple" = none
 str_:mg "str" = none
 sum_:mg "sum" = none
 all_:mg "all" = none
 max_:mg "max" = none
 min_:mg "min" = none
 sorted_:mg "sorted" = none
 set_:mg "set" = none
 zip_:mg "zip" = none
 enumerate_:mg "enumerate" = none
 reversed_:mg "reversed" = none
 dict_:mg "dict" = none
 any_:mg "any" = none
 abs_:mg "abs" = none
 repr_:mg "repr" = none
theorem n1m {K:PySem.W.Frag}{mg:Str->Option Value}{h:Heap}(KX:K.In h)(G:h.Ns mainGlobals mg)
  (len_:PySem.W.nsIn K mainGlobals "len" = some none) (range_:PySem.W.nsIn K mainGlobals "range" = some none) (isinstance_:PySem.W.nsIn K mainGlobals "isinstance" = some none) (int_:PySem.W.nsIn K mainGlobals "int" = some none) (bool_:PySem.W.nsIn K mainGlobals "bool" = some none) (list_:PySem.W.nsIn K mainGlobals "list" = some none) (tuple_:PySem.W.nsIn K mainGlobals "tuple" = some none) (str_:PySem.W.nsIn K mainGlobals "str" = some none) (sum_:PySem.W.nsIn K mainGlobals "sum" = some none) (all_:PySem.W.nsIn K mainGlobals "all" = some none) (max_:PySem.W.nsIn K mainGlobals "max" = some none) (min_:PySem.W.nsIn K mainGlobals "min" = some none) (sorted_:PySem.W.nsIn K mainGlobals "sorted" = some none) (set_:PySem.W.nsIn K mainGlobals "set" = some none) (zip_:PySem.W.nsIn K mainGlobals "zip" = some none) (enumerate_:PySem.W.nsIn K mainGlobals "enumerate" = some none) (reversed_:PySem.W.nsIn K mainGlobals "reversed" = some none) (dict_:PySem.W.nsIn K mainGlobals "dict" = some none) (any_:PySem.W.nsIn K mainGlobals "any" = some none) (abs_:PySem.W.nsIn K mainGlobals "abs" = some none) (repr_:PySem.W.nsIn K mainGlobals "repr" = some none):BI mg :=
 ⟨PySem.W.mg_none_of KX G len_,PySem.W.mg_none_of KX G range_,PySem.W.mg_none_of KX G isinstance_,PySem.W.mg_none_of KX G int_,PySem.W.mg_none_of KX G bool_,PySem.W.mg_none_of KX G list_,PySem.W.mg_none_of KX G tuple_,PySem.W.mg_none_of KX G str_,PySem.W.mg_none_of KX G sum_,PySem.W.mg_none_of KX G all_,PySem.W.mg_none_of KX G max_,PySem.W.mg_none_of KX G min_,PySem.W.mg_none_of KX G sorted_,PySem.W.mg_none_of KX G set_,PySem.W.mg_none_of KX G zip_,PySem.W.mg_none_of KX G enumerate_,PySem.W.mg_none_of KX G reversed_,PySem.W.mg_none_of KX G dict_,PySem.W.mg_none_of KX G any_,PySem.W.mg_none_of KX G abs_,PySem.W.mg_none_of KX G repr_⟩
def Grow (t:Addr)(H H':Hp):Prop:=∀b o,H b=some o->b≠t->H' b=some o
theorem Grow.refl {t:Addr}{H:Hp}:Grow t H H:=λ_ _ h _=>h
theorem Grow.upd {t:Addr}{H H':Hp}(g:Grow t H H')(o:HO):Grow t H (L2.upd H' t o):=λb u h n=>by rw[b0l n];exact g b u h n
theorem Same.new {H H':Hp}{l:Addr}{o:HO}(s:Same H H')(h:H' l=none):Same H (L2.upd H' l o):=λb u e=>by
 have:=s b u e
 rw[b0l (b0y this h)];exact this
theorem Same.seqT {K:PySem.W.Frag}{H H':Hp}{a:Addr}{xs:List V}(e:Same H H')(h:SqT K H a xs):SqT K H' a xs:=by
 rcases h with(h | ⟨o,h⟩) | h
 ·exact .inl (.inl (e _ _ h))
 ·exact .inl (.inr ⟨o,e _ _ h⟩)
 ·exact .inr h
theorem Grow.seq {K:PySem.W.Frag}{t:Addr}{H H':Hp}{a:Addr}{xs:List V}{kvs:List (Key×V)}(g:Grow t H H')(ht:H t=some (.dK kvs))(h:SqL K H a xs):SqL K H' a xs:=by
 rcases h with(h | ⟨o,h⟩) | h
 ·exact .inl (.inl (g _ _ h (i1g h ht (by intro z;cases z))))
 ·exact .inl (.inr ⟨o,g _ _ h (i1g h ht (by intro z;cases z))⟩)
 ·exact .inr h
def e0m (c:Addr)(sp lf:Int):List (Key×V):=[(Sum.inr "cells",.ref c),(Sum.inr "spot",.int sp),(Sum.inr "left",.int lf)]
theorem j1f:¬((Sum.inr ("cells" : Str):Key)=Sum.inr ("spot" : Str)):=by decide +kernel
theorem j1i:¬((Sum.inr ("cells" : Str):Key)=Sum.inr ("left" : Str)):=by decide +kernel
theorem d1z:¬((Sum.inr ("spot" : Str):Key)=Sum.inr ("left" : Str)):=by decide +kernel
theorem p0n {c:Addr}{sp lf:Int}:valV (e0m c sp lf) (Sum.inr "cells" : Key)=some (.ref c):=by
 simp[valV,e0m]
theorem z0t {c:Addr}{sp lf:Int}:valV (e0m c sp lf) (Sum.inr "spot" : Key)=some (.int sp):=by
 simp only[valV,e0m,List.find?_cons,decide_eq_false j1f,decide_true,Option.map_some]
theorem z0v {c:Addr}{sp lf:Int}:valV (e0m c sp lf) (Sum.inr "left" : Key)=some (.int lf):=by
 simp only[valV,e0m,List.find?_cons,decide_eq_false j1i,decide_eq_false d1z,decide_true,Option.map_some]
theorem q0u {c:Addr}{sp lf x:Int}:putK (e0m c sp lf) (Sum.inr "left" : Key) (.int x)=e0m c sp x:=by
 unfold putK
 rw[if_pos (by simp[e0m])]
 simp only[e0m,List.map_cons,List.map_nil,if_neg j1i,if_neg d1z,if_pos]
theorem e1c {c:Addr}{sp lf x:Int}:putK (e0m c sp lf) (Sum.inr "spot" : Key) (.int x)=e0m c x lf:=by
 unfold putK
 rw[if_pos (by simp[e0m])]
 simp only[e0m,List.map_cons,List.map_nil,if_neg j1f,if_pos,if_neg (show ¬((Sum.inr ("left" : Str):Key)=Sum.inr ("spot" : Str))from λe=>d1z e.symm)]
theorem z0u {c:Addr}:o0a [] [((Sum.inr ("cells" : Str):Key),V.ref c),((Sum.inr ("spot" : Str):Key),V.int 0),((Sum.inr ("left" : Str):Key),V.int 0)]=e0m c 0 0:=by
 simp only[o0a,List.foldl_cons,List.foldl_nil]
 have e1:putK ([]:List (Key×V)) (Sum.inr ("cells" : Str)) (V.ref c)=[((Sum.inr ("cells" : Str):Key),V.ref c)]:=by simp[putK]
 have e2:putK [((Sum.inr ("cells" : Str):Key),V.ref c)] (Sum.inr ("spot" : Str)) (V.int 0)=[((Sum.inr ("cells" : Str):Key),V.ref c),((Sum.inr ("spot" : Str):Key),V.int 0)]:=by
  unfold putK
  rw[if_neg (by simp only[List.any_cons,List.any_nil,decide_eq_false j1f];simp)]
  rfl
 have e3:putK [((Sum.inr ("cells" : Str):Key),V.ref c),((Sum.inr ("spot" : Str):Key),V.int 0)] (Sum.inr ("left" : Str)) (V.int 0)=e0m c 0 0:=by
  unfold putK
  rw[if_neg (by simp only[List.any_cons,List.any_nil,decide_eq_false j1i,decide_eq_false d1z];simp)]
  rfl
 rw[e1,e2,e3]
theorem n1k {ns:List Int}:cutV (ns.map V.int) none (some 63)=(ns.take 63).map V.int:=by
 unfold cutV
 have e0:HT.sIx (ns.map V.int).length 0 none=0:=rfl
 rw[e0,List.drop_zero,Nat.sub_zero,List.map_take]
 show List.take (HT.sIx _ _ (some ((63:Nat):Int))) _=_
 rw[HT.sIx_nat]
 rcases Nat.le_total 63 (ns.map V.int).length with h | h
 ·rw[Nat.min_eq_left h]
 ·rw[Nat.min_eq_right h,List.take_of_length_le (Nat.le_refl _),List.take_of_length_le h]
end L2
namespace L2
theorem drawn {Q:Int->Hp->Prop}{m x:Int}{H':Hp}(hm:0<m)(k:∀r:Nat,(r:Int)<m->Q (r:Nat) H'):Q (x % m) H':=by
 obtain⟨r,e⟩:=Int.eq_ofNat_of_zero_le (Int.emod_nonneg x (Int.ne_of_gt hm))
 have:=Int.emod_lt_of_pos x hm
 rw[e]at this ⊢
 exact k r this
theorem w0u {y:Int}:-(2^64)<y % 2147483647/\y % 2147483647<2^64:=by omega
theorem dv64:Dv 64:=Dv.small (by decide) (by decide)
end L2
namespace L2
open PySem PySem.Spec PyProof.Rows
theorem k0s (a b:Nat):Builtin.bitAnd (a:Int) (b:Int)=((a &&& b:Nat):Int):=by
 unfold Builtin.bitAnd
 rw[decide_eq_true (Int.natCast_nonneg a),decide_eq_true (Int.natCast_nonneg b)]
 simp
theorem p0s (a b:Nat):Builtin.bitOr (a:Int) (b:Int)=((a ||| b:Nat):Int):=by
 unfold Builtin.bitOr Builtin.bitAnd Builtin.bitNot
 rw[decide_eq_false (show ¬(0:Int) <= -(a:Int) - 1 by omega),decide_eq_false (show ¬(0:Int) <= -(b:Int) - 1 by omega)]
 have h1:(-(-(a:Int) - 1) - 1).toNat=a:=by omega
 have h2:(-(-(b:Int) - 1) - 1).toNat=b:=by omega
 simp only[h1,h2]
 omega
theorem h1s (a k:Nat):(a:Int) / 2^((k:Int).toNat)=((a >>> k:Nat):Int):=by
 rw[Int.toNat_natCast,Nat.shiftRight_eq_div_pow]
 exact(Int.natCast_ediv a (2^k)).symm.trans (by norm_cast) |>.symm▸(by simp)
theorem c1y (a k:Nat):Builtin.bitAnd ((a:Int) / 2^((k:Int).toNat)) 1=if a.testBit k then 1 else 0:=by
 rw[h1s,show(1:Int)=((1:Nat):Int)from rfl,k0s]
 have:(a >>> k) &&& 1=(a.testBit k).toNat:=by
  rw[Nat.and_one_is_mod,Nat.testBit]
  rw[Nat.one_and_eq_mod_two]
  rcases Nat.mod_two_eq_zero_or_one (a >>> k)with p | p <;> simp[p]
 rw[this]
 cases a.testBit k <;> rfl
theorem a1g (k:Nat):(1:Int)*(2:Int)^((k:Int).toNat)=((1 <<< k:Nat):Int):=by
 rw[Int.toNat_natCast,Nat.shiftLeft_eq,Int.one_mul,Nat.one_mul]
 simp
def h0y (n:Nat):Nat:=if n=0 then 0 else n.log2+1
theorem f1g (n:Nat):Builtin.Int.intBits (n:Int)=h0y n:=by
 unfold Builtin.Int.intBits h0y
 by_cases h:n=0
 ·subst h;rfl
 ·rw[if_neg (by simp;omega),if_neg h];simp
def d0g (n:Nat):List Nat:=(List.range (h0y n)).filter n.testBit
def h1n (K:PySem.W.Frag):Sp:=λvs H Q _=>∃(a:Addr) (ns:List Int),vs=[.ref a]/\SqL K H a (ns.map V.int)/\ns.length<=63/\∀H',Q (.bl true) H'
theorem j1j {n m:Nat}(h:n<2^m):h0y n<=m:=by
 unfold h0y
 by_cases h0:n=0
 ·rw[if_pos h0];omega
 ·rw[if_neg h0]
  exact(Nat.log2_lt h0).mpr h
theorem c0q:bootBuiltins "len" = some (.builtin "len"):=by decide +kernel
theorem b0u:bootBuiltins "isinstance" = some (.builtin "isinstance"):=by decide +kernel
theorem g1s:bootBuiltins "int" = some (.type "int"):=by decide +kernel
theorem w0e:bootBuiltins "bool" = some (.type "bool"):=by decide +kernel
theorem o0u:bootBuiltins "list" = some (.type "list"):=by decide +kernel
theorem j0x:bootBuiltins "tuple" = some (.type "tuple"):=by decide +kernel
theorem m1g:bootBuiltins "str" = some (.type "str"):=by decide +kernel
theorem g1q:bootBuiltins "sum" = some (.builtin "sum"):=by decide +kernel
theorem c1v:bootBuiltins "all" = some (.builtin "all"):=by decide +kernel
theorem c1u:bootBuiltins "min" = some (.builtin "min"):=by decide +kernel
theorem h0x:bootBuiltins "sorted" = some (.builtin "sorted"):=by decide +kernel
theorem g1r:bootBuiltins "set" = some (.type "set"):=by decide +kernel
theorem m0t:bootBuiltins "enumerate" = some (.type "enumerate"):=by decide +kernel
section
variable {X:Cx}{a b e o:Expr}{es:List Expr}{ta tb te to:TE}{t:TA}{pos apos cpos:Pos}(K:PySem.W.Frag)
theorem h0o (ha:PE X a ta)(he:∀whole,isTrue a X.env whole=(do let v <- whole;standAt a.pos;holding [v] (truthy v)))(hK:X.K=K:=by rfl) :
  PT X a (λσ H Q=>ta σ H λx H'=>∃k,TruV K x H' k/\Q k H'):=by subst hK;exact e1d ha he
theorem y0o (hK:X.K=K:=by rfl):OpR X (compareOp .In) (rIn K false):=by subst hK;exact a1z
theorem i0f (hK:X.K=K:=by rfl):OpR X (compareOp .NotIn) (rIn K true):=by subst hK;exact s0s
theorem b0c (hK:X.K=K:=by rfl):IxR X (rIx K):=by subst hK;exact l1o
theorem c0g (hK:X.K=K:=by rfl):SlR X (rSlL K):=by subst hK;exact h1r
theorem b0e (hK:X.K=K:=by rfl):k0t X (.builtin "len") (λxs H Q=>∃p ys,xs=[.ref p]/\(SqL K H p ys∨SqT K H p ys)/\Q (.int ys.length) H):=by subst hK;exact u0e
theorem z0c (hK:X.K=K:=by rfl):k0t X (.type "list") (λxs H Q=>∃p ys,xs=[.ref p]/\(SqL K H p ys∨SqT K H p ys)/\∀l,H l=none->Q (.ref l) (upd H l (.lst ys))):=by subst hK;exact u0d
theorem i0m (hK:X.K=K:=by rfl):k0t X (.type "tuple") (λxs H Q=>∃p ys,xs=[.ref p]/\((SqL K H p ys/\∀l,H l=none->Q (.ref l) (upd H l (.tup ys)))∨(SqT K H p ys/\Q (.ref p) H))):=by subst hK;exact r0z
theorem l0y {es:List Expr}{k:Nat}{t:TGs}{n:Nat}(hc:X.calm=true)(h:PGs X es t)(hn:(assignEach es X.env).length=n:=by rfl)(hst:(assignEach es X.env).findIdx? (·.1)=none:=by rfl)(hK:X.K=K:=by rfl) :
  PG X (.Tuple es k pos) (gTup K n t):=by subst hK;exact k1w hc h hn hst
variable {name:Str}{T id:String}{r:V->List V->Hp->VK->Prop}
theorem h1y (pa:PlainAttrs T)(slot:Slot T name id)(hty:typeOf (.builtin id)=pure (.type "method_descriptor"))(hm:MtR X id r)(ho:PE X o to)
  (hbase:attributeBase o name X.env (eval o X.env)=eval o X.env:=by rfl) (hline:(apos.endLine==cpos.line)=true:=by rfl) (hK:X.K=K:=by rfl):PE X (.Call (.Attribute o name apos) [] [] cpos) (tBM0 K T r to):=by
 subst hK;exact k1y pa slot hty hm ho hbase hline
theorem p0q (pa:PlainAttrs T)(slot:Slot T name id)(hty:typeOf (.builtin id)=pure (.type "method_descriptor"))(hm:MtR X id r)(ho:PE X o to)(ha:PA X (e::es) t)
  (hbase:attributeBase o name X.env (eval o X.env)=eval o X.env:=by rfl)
  (hfew:((backTo cpos (starEach (e::es) X.env)).all (λx=>!x.1)&&(backToKw cpos (keywordEach [] X.env)).all (λx=>x.1.isSome)&&decide ((e::es).length+([]:List Keyword).length+(if([]:List Keyword).isEmpty then 0 else 1)<30))=true:=by rfl)
  (hline:(apos.endLine==cpos.line)=true:=by rfl) (he:starEach (e::es) X.env=(false,eval e X.env)::starEach es X.env:=by rfl) (hpl:(backTo cpos (starEach es X.env)).any (·.1)=false:=by rfl)
  (hK:X.K=K:=by rfl):PE X (.Call (.Attribute o name apos) (e::es) [] cpos) (tBM K T r to t):=by
 subst hK
 exact n1b pa slot hty hm ho ha hbase hfew hline he hpl
end
inductive D where
 | non | bl (b:Bool) | int (i:Int) | str (x:Str) | tup (ds:List D) | lst (ds:List D)
def StT (H:Hp)(a:Addr)(xs:List V):Prop:=H a=some (.tup xs)
theorem StT.sq {K:PySem.W.Frag}{H:Hp}{a:Addr}{xs:List V}(h:StT H a xs):SqT K H a xs:=SqT.of h
instance {K:PySem.W.Frag} {H:Hp} {a:Addr} {xs:List V}:Coe (StT H a xs) (SqT K H a xs):=⟨StT.sq⟩
def StL (H:Hp)(a:Addr)(xs:List V):Prop:=H a=some (.lst xs)
theorem StL.sq {K:PySem.W.Frag}{H:Hp}{a:Addr}{xs:List V}(h:StL H a xs):SqL K H a xs:=SqL.of h
instance {K:PySem.W.Frag} {H:Hp} {a:Addr} {xs:List V}:Coe (StL H a xs) (SqL K H a xs):=⟨StL.sq⟩
mutual
def RepD (K:PySem.W.Frag)(H:Hp):V->D->Prop
 | v,.non=>v = .non
 | v,.bl b=>v = .bl b
 | v,.int i=>v = .int i
 | v,.str x=>v = .str x
 | v,.tup ds=>∃a vs,v = .ref a/\StT H a vs/\RepDs K H vs ds
 | v,.lst ds=>∃a vs,v = .ref a/\StL H a vs/\RepDs K H vs ds
def RepDs (K:PySem.W.Frag)(H:Hp):List V->List D->Prop
 | [],[]=>True
 | v::vs,d::ds=>RepD K H v d/\RepDs K H vs ds
 | _,_=>False
end
mutual
def eqD:D->D->Bool
 | .non,.non=>true
 | .bl a,.bl b=>a==b
 | .bl a,.int b=>(if a then 1 else 0)==b
 | .int a,.bl b=>a==(if b then 1 else 0)
 | .int a,.int b=>a==b
 | .str a,.str b=>a==b
 | .tup ds,.tup es=>eqDs ds es
 | .lst ds,.lst es=>eqDs ds es
 | _,_=>false
def eqDs:List D->List D->Bool
 | [],[]=>true
 | d::ds,e::es=>eqD d e&&eqDs ds es
 | _,_=>false
end
mutual
def D.depth:D->Nat
 | .tup ds=>depths ds+1
 | .lst ds=>depths ds+1
 | _=>0
def depths:List D->Nat
 | []=>0
 | d::ds=>max d.depth (depths ds)
end
section
variable {K:PySem.W.Frag}{H H':Hp}
theorem RepDs.length:∀ {vs:List V} {ds:List D},RepDs K H vs ds->vs.length=ds.length
 | [],[],_=>rfl
 | v::vs,d::ds,h=>by
  unfold RepDs at h
  rw[List.length_cons,List.length_cons,RepDs.length h.2]
 | [],d::ds,h=>by unfold RepDs at h;exact h.elim
 | v::vs,[],h=>by unfold RepDs at h;exact h.elim
theorem RepDs.get:∀ {vs:List V} {ds:List D} {i:Nat} {d:D},RepDs K H vs ds->ds[i]? = some d->∃v,vs[i]? = some v/\RepD K H v d
 | [],[],_,_,_,e=>by simp at e
 | v::vs,d::ds,0,_,h,e=>by
  unfold RepDs at h
  simp at e;subst e
  exact⟨v,rfl,h.1⟩
 | v::vs,d::ds,i+1,_,h,e=>by
  unfold RepDs at h
  obtain⟨u,a,b⟩:=RepDs.get (i:=i) h.2 (by simpa using e)
  exact⟨u,by simpa using a,b⟩
 | [],d::ds,_,_,h,_=>by unfold RepDs at h;exact h.elim
 | v::vs,[],_,_,h,_=>by unfold RepDs at h;exact h.elim
theorem RepDs.getV:∀ {vs:List V} {ds:List D} {i:Nat} {v:V},RepDs K H vs ds->vs[i]? = some v->∃d,ds[i]? = some d/\RepD K H v d
 | [],[],_,_,_,e=>by simp at e
 | v::vs,d::ds,0,_,h,e=>by
  unfold RepDs at h
  simp at e;subst e
  exact⟨d,rfl,h.1⟩
 | v::vs,d::ds,i+1,_,h,e=>by
  unfold RepDs at h
  obtain⟨u,a,b⟩:=RepDs.getV (i:=i) h.2 (by simpa using e)
  exact⟨u,by simpa using a,b⟩
 | [],d::ds,_,_,h,_=>by unfold RepDs at h;exact h.elim
 | v::vs,[],_,_,h,_=>by unfold RepDs at h;exact h.elim
theorem RepDs.append:∀ {vs ws:List V} {ds es:List D},RepDs K H vs ds->RepDs K H ws es->RepDs K H (vs++ws) (ds++es)
 | [],ws,[],es,_,h=>h
 | v::vs,ws,d::ds,es,h,h'=>by
  unfold RepDs at h
  show RepDs K H (v::(vs++ws)) (d::(ds++es))
  unfold RepDs
  exact⟨h.1,RepDs.append h.2 h'⟩
 | [],_,d::ds,_,h,_=>by unfold RepDs at h;exact h.elim
 | v::vs,_,[],_,h,_=>by unfold RepDs at h;exact h.elim
theorem RepDs.one {v:V}{d:D}(h:RepD K H v d):RepDs K H [v] [d]:=by unfold RepDs;exact⟨h,by unfold RepDs;trivial⟩
theorem RepDs.nil:RepDs K H [] []:=by unfold RepDs;trivial
theorem RepDs.cons {v:V}{d:D}{vs:List V}{ds:List D}(h:RepD K H v d)(t:RepDs K H vs ds):RepDs K H (v::vs) (d::ds):=by unfold RepDs;exact⟨h,t⟩
theorem i0c:∀ {vs:List V} {ns:List Int},RepDs K H vs (ns.map D.int)↔vs=ns.map V.int
 | [],[]=>by simp[RepDs]
 | v::vs,n::ns=>by
  have ih:=@i0c vs ns
  rw[List.map_cons,List.map_cons]
  unfold RepDs RepD
  rw[ih]
  constructor
  ·rintro⟨rfl,rfl⟩;rfl
  ·intro h;injection h with h1 h2;exact⟨h1,h2⟩
 | [],n::ns=>by rw[List.map_cons];unfold RepDs;simp
 | v::vs,[]=>by rw[List.map_nil];unfold RepDs;simp
mutual
theorem RepD.keep (hl:∀a vs,StL H a vs->StL H' a vs)(ht:∀a vs,StT H a vs->StT H' a vs):∀ {v:V} {d:D},RepD K H v d->RepD K H' v d
 | v,.non,h=>by unfold RepD at h ⊢;exact h
 | v,.bl b,h=>by unfold RepD at h ⊢;exact h
 | v,.int i,h=>by unfold RepD at h ⊢;exact h
 | v,.str x,h=>by unfold RepD at h ⊢;exact h
 | v,.tup ds,h=>by
  unfold RepD at h ⊢
  obtain⟨a,vs,e,h1,h2⟩:=h
  exact⟨a,vs,e,ht _ _ h1,RepDs.keep hl ht h2⟩
 | v,.lst ds,h=>by
  unfold RepD at h ⊢
  obtain⟨a,vs,e,h1,h2⟩:=h
  exact⟨a,vs,e,hl _ _ h1,RepDs.keep hl ht h2⟩
theorem RepDs.keep (hl:∀a vs,StL H a vs->StL H' a vs)(ht:∀a vs,StT H a vs->StT H' a vs):∀ {vs:List V} {ds:List D},RepDs K H vs ds->RepDs K H' vs ds
 | [],[],_=>RepDs.nil
 | v::vs,d::ds,h=>by
  unfold RepDs at h ⊢
  exact⟨RepD.keep hl ht h.1,RepDs.keep hl ht h.2⟩
 | [],d::ds,h=>by unfold RepDs at h;exact h.elim
 | v::vs,[],h=>by unfold RepDs at h;exact h.elim
end
theorem RepD.same {v:V}{d:D}(h:RepD K H v d)(s:Same H H'):RepD K H' v d:=h.keep (λ_ _ q=>s _ _ q) λ_ _ q=>s _ _ q
theorem RepDs.same {vs:List V}{ds:List D}(h:RepDs K H vs ds)(s:Same H H'):RepDs K H' vs ds:=h.keep (λ_ _ q=>s _ _ q) λ_ _ q=>s _ _ q
end
mutual
theorem e0j:∀d:D,eqD d d=true
 | .non=>by simp[eqD]
 | .bl b=>by simp[eqD]
 | .int i=>by simp[eqD]
 | .str x=>by simp[eqD]
 | .tup ds=>by unfold eqD;exact eqDs_refl ds
 | .lst ds=>by unfold eqD;exact eqDs_refl ds
theorem eqDs_refl:∀ds:List D,eqDs ds ds=true
 | []=>by simp[eqDs]
 | d::ds=>by unfold eqDs;rw[e0j d,eqDs_refl ds];rfl
end
section
variable {X:Cx}{pins:List (Addr×Obj)}{σ:St}{H:Hp}{s:Shared}
mutual
theorem n0e (I:Inv X pins σ H s):∀ {v:V} {d e:D},RepD X.K H v d->RepD X.K H v e->d=e
 | v,.non,e,h,h'=>by
  unfold RepD at h;subst h
  cases e <;> (unfold RepD at h';first | rfl | (obtain⟨_,_,z,_⟩:=h';cases z) | cases h')
 | v,.bl b,e,h,h'=>by
  unfold RepD at h;subst h
  cases e <;> (unfold RepD at h';first | (cases h';rfl) | (obtain⟨_,_,z,_⟩:=h';cases z) | cases h')
 | v,.int b,e,h,h'=>by
  unfold RepD at h;subst h
  cases e <;> (unfold RepD at h';first | (cases h';rfl) | (obtain⟨_,_,z,_⟩:=h';cases z) | cases h')
 | v,.str b,e,h,h'=>by
  unfold RepD at h;subst h
  cases e <;> (unfold RepD at h';first | (cases h';rfl) | (obtain⟨_,_,z,_⟩:=h';cases z) | cases h')
 | v,.tup ds,e,h,h'=>by
  unfold RepD at h
  obtain⟨a,vs,rfl,h1,h2⟩:=h
  cases e with
  | tup es =>
   unfold RepD at h'
   obtain⟨b,ws,z,g1,g2⟩:=h'
   cases z
   rw[I.tuple_inj g1.sq h1.sq]at g2
   rw[repDs_inj I h2 g2]
  | lst es =>
   unfold RepD at h'
   obtain⟨b,ws,z,g1,g2⟩:=h'
   cases z
   obtain⟨_,_,⟨o,n,e1,c1,_⟩,_⟩:=I.list (StL.sq g1)
   obtain⟨_,_,⟨o',e2,c2,_⟩,_⟩:=I.tuple h1.sq
   rw[e1]at e2;cases e2
   rw[c1]at c2
   exact absurd c2 (by decide)
  | non=>unfold RepD at h';cases h'
  | bl _=>unfold RepD at h';cases h'
  | int _=>unfold RepD at h';cases h'
  | str _=>unfold RepD at h';cases h'
 | v,.lst ds,e,h,h'=>by
  unfold RepD at h
  obtain⟨a,vs,rfl,h1,h2⟩:=h
  cases e with
  | lst es =>
   unfold RepD at h'
   obtain⟨b,ws,z,g1,g2⟩:=h'
   cases z
   rw[I.list_inj (StL.sq g1) (StL.sq h1)]at g2
   rw[repDs_inj I h2 g2]
  | tup es =>
   unfold RepD at h'
   obtain⟨b,ws,z,g1,g2⟩:=h'
   cases z
   obtain⟨_,_,⟨o,n,e1,c1,_⟩,_⟩:=I.list (StL.sq h1)
   obtain⟨_,_,⟨o',e2,c2,_⟩,_⟩:=I.tuple g1.sq
   rw[e1]at e2;cases e2
   rw[c1]at c2
   exact absurd c2 (by decide)
  | non=>unfold RepD at h';cases h'
  | bl _=>unfold RepD at h';cases h'
  | int _=>unfold RepD at h';cases h'
  | str _=>unfold RepD at h';cases h'
theorem repDs_inj (I:Inv X pins σ H s):∀ {vs:List V} {ds es:List D},RepDs X.K H vs ds->RepDs X.K H vs es->ds=es
 | [],[],[],_,_=>rfl
 | v::vs,d::ds,e::es,h,h'=>by
  unfold RepDs at h h'
  rw[n0e I h.1 h'.1,repDs_inj I h.2 h'.2]
 | [],d::ds,_,h,_=>by unfold RepDs at h;exact h.elim
 | v::vs,[],_,h,_=>by unfold RepDs at h;exact h.elim
 | [],_,d::ds,_,h=>by unfold RepDs at h;exact h.elim
 | v::vs,_,[],_,h=>by unfold RepDs at h;exact h.elim
end
end
theorem g0y (A:Around):A.in1.units=A.units+1:=rfl
theorem q0b:∀ {ds:List D} {j:Nat} {d:D},ds[j]? = some d->d.depth<=depths ds
 | [],_,_,h=>by simp at h
 | d::ds,0,_,h=>by simp at h;subst h;unfold depths;omega
 | d::ds,j+1,e,h=>by
  have:=q0b (ds:=ds) (j:=j) (by simpa using h)
  unfold depths;omega
def t0s (ds es:List D)(j:Nat):Bool:=match ds[j]?,es[j]? with
 | some d,some e=>eqD d e
 | _,_=>true
theorem h0u:∀ {ds es:List D},ds.length=es.length->(List.range ds.length).all (t0s ds es)=eqDs ds es
 | [],[],_=>by simp[eqDs]
 | d::ds,e::es,h=>by
  have ih:=h0u (ds:=ds) (es:=es) (by simpa using h)
  rw[List.length_cons,List.range_succ_eq_map,List.all_cons,List.all_map]
  unfold eqDs
  rw[<- ih]
  congr 1
 | [],_::_,h=>by simp at h
 | _::_,[],h=>by simp at h
theorem f0w:∀ {ds es:List D},ds.length≠es.length->eqDs ds es=false
 | [],[],h=>absurd rfl h
 | [],_::_,_=>by simp[eqDs]
 | _::_,[],_=>by simp[eqDs]
 | d::ds,e::es,h=>by
  unfold eqDs
  rw[f0w (ds:=ds) (es:=es) (by simpa using h),Bool.and_false]
section
variable {X:Cx}{pins:List (Addr×Obj)}{σ:St}{H:Hp}{s:Shared}
theorem n0h (I:Inv X pins σ H s){m:Nat}(ih:∀ {A:Around} {v u:V} {vv uu:Value} {d e:D},d.depth<=m->A.units+m<cLine->RelV v vv->RelV u uu->RepD X.K H v d->RepD X.K H u e->SeqAt.EqAt A s vv uu (eqD d e)){A:Around}(hu:A.units+m<cLine)
  {vs us:List V} {vvs uus:List Value} {ds es:List D} (hd:depths ds<=m) (rv:Vals vs vvs) (ru:Vals us uus) (hv:RepDs X.K H vs ds) (he:RepDs X.K H us es) :
  ∀j (h1:j<vvs.toArray.size) (h2:j<uus.toArray.size),SeqAt.EqAt A s vvs.toArray[j] uus.toArray[j] (t0s ds es j):=by
 intro j h1 h2
 rw[List.size_toArray]at h1 h2
 have l1:=rv.length
 have l2:=ru.length
 have g1:vs[j]? = some vs[j]:=List.getElem?_eq_getElem (by omega)
 have g2:us[j]? = some us[j]:=List.getElem?_eq_getElem (by omega)
 obtain⟨x,ex,rx⟩:=rv.get g1
 obtain⟨y,ey,ry⟩:=ru.get g2
 obtain⟨d,ed,rd⟩:=hv.getV g1
 obtain⟨e,ee,re⟩:=he.getV g2
 rw[List.getElem?_eq_getElem h1]at ex
 rw[List.getElem?_eq_getElem h2]at ey
 cases ex
 cases ey
 have:t0s ds es j=eqD d e:=by unfold t0s;rw[ed,ee]
 rw[this,List.getElem_toArray,List.getElem_toArray]
 exact ih (Nat.le_trans (q0b ed) hd) hu rx ry rd re
theorem g1a (I:Inv X pins σ H s)(n:Nat)(ih:0<n->∀ {A:Around} {v u:V} {vv uu:Value} {d e:D},d.depth<=n - 1->A.units+(n - 1)<cLine->RelV v vv->RelV u uu->RepD X.K H v d->RepD X.K H u e->SeqAt.EqAt A s vv uu (eqD d e))
  {A:Around} {v u:V} {vv uu:Value} {d e:D} (hd:d.depth<=n) (hu:A.units+n<cLine) (rv:RelV v vv) (ru:RelV u uu) (hv:RepD X.K H v d) (he:RepD X.K H u e):SeqAt.RcAt A s vv uu (eqD d e)/\SeqAt.EqAt A s vv uu (eqD d e):=by
 have hu0:A.units<cLine:=by omega
 have isL:∀ {a xs},StL H a xs->∃its:List Value,Vals xs its/\s.heap.IsList a its.toArray:=λq=>by
  obtain⟨its,r,p,_⟩:=I.list q.sq
  exact⟨its,r,p.isList⟩
 have isT:∀ {a xs},StT H a xs->∃its:List Value,Vals xs its/\s.heap.IsTuple a its.toArray:=λq=>by
  obtain⟨its,r,p,_⟩:=I.tuple q.sq
  exact⟨its,r,p⟩
 cases d with
 | non =>
  unfold RepD at hv;subst hv;cases rv
  cases e with
  | non=>unfold RepD at he;subst he;cases ru;exact⟨.none_none,.same _⟩
  | bl b=>unfold RepD at he;subst he;cases ru;exact⟨.none_bool _,.none_bool _⟩
  | int b=>unfold RepD at he;subst he;obtain⟨t,rfl⟩:=ru;exact⟨.none_int _ _,.none_int _ _⟩
  | str b=>unfold RepD at he;subst he;obtain⟨t,rfl⟩:=ru;exact⟨.none_str _ _,.none_str _ _⟩
  | tup es=>unfold RepD at he;obtain⟨a,vs,rfl,q,_⟩:=he;cases ru;obtain⟨its,_,q⟩:=isT q;exact⟨.none_tuple q hu0,.none_tuple q hu0⟩
  | lst es=>unfold RepD at he;obtain⟨a,vs,rfl,q,_⟩:=he;cases ru;obtain⟨its,_,q⟩:=isL q;exact⟨.none_list q hu0,.none_list q hu0⟩
 | bl x =>
  unfold RepD at hv;subst hv;cases rv
  cases e with
  | non=>unfold RepD at he;subst he;cases ru;exact⟨.bool_none _,.bool_none _⟩
  | bl b=>unfold RepD at he;subst he;cases ru;exact⟨.bool_bool _ _,.bool_bool _ _⟩
  | int b=>unfold RepD at he;subst he;obtain⟨t,rfl⟩:=ru;exact⟨.bool_int _ _ _,.bool_int _ _ _⟩
  | str b=>unfold RepD at he;subst he;obtain⟨t,rfl⟩:=ru;exact⟨.bool_str _ _ _,.bool_str _ _ _⟩
  | tup es=>unfold RepD at he;obtain⟨a,vs,rfl,q,_⟩:=he;cases ru;obtain⟨its,_,q⟩:=isT q;exact⟨.bool_tuple _ q hu0,.bool_tuple _ q hu0⟩
  | lst es=>unfold RepD at he;obtain⟨a,vs,rfl,q,_⟩:=he;cases ru;obtain⟨its,_,q⟩:=isL q;exact⟨.bool_list _ q hu0,.bool_list _ q hu0⟩
 | int x =>
  unfold RepD at hv;subst hv;obtain⟨t0,rfl⟩:=rv
  cases e with
  | non=>unfold RepD at he;subst he;cases ru;exact⟨.int_none _ _,.int_none _ _⟩
  | bl b=>unfold RepD at he;subst he;cases ru;exact⟨.int_bool _ _ _,.int_bool _ _ _⟩
  | int b=>unfold RepD at he;subst he;obtain⟨t,rfl⟩:=ru;exact⟨.int_int _ _ _ _,.int_int _ _ _ _⟩
  | str b=>unfold RepD at he;subst he;obtain⟨t,rfl⟩:=ru;exact⟨.int_str _ _ _ _,.int_str _ _ _ _⟩
  | tup es=>unfold RepD at he;obtain⟨a,vs,rfl,q,_⟩:=he;cases ru;obtain⟨its,_,q⟩:=isT q;exact⟨.int_tuple _ _ q hu0,.int_tuple _ _ q hu0⟩
  | lst es=>unfold RepD at he;obtain⟨a,vs,rfl,q,_⟩:=he;cases ru;obtain⟨its,_,q⟩:=isL q;exact⟨.int_list _ _ q hu0,.int_list _ _ q hu0⟩
 | str x =>
  unfold RepD at hv;subst hv;obtain⟨t0,rfl⟩:=rv
  cases e with
  | non=>unfold RepD at he;subst he;cases ru;exact⟨.str_none _ _,.str_none _ _⟩
  | bl b=>unfold RepD at he;subst he;cases ru;exact⟨.str_bool _ _ _,.str_bool _ _ _⟩
  | int b=>unfold RepD at he;subst he;obtain⟨t,rfl⟩:=ru;exact⟨.str_int _ _ _ _,.str_int _ _ _ _⟩
  | str b=>unfold RepD at he;subst he;obtain⟨t,rfl⟩:=ru;exact⟨.str_str _ _ _ _,.str_str _ _ _ _⟩
  | tup es=>unfold RepD at he;obtain⟨a,vs,rfl,q,_⟩:=he;cases ru;obtain⟨its,_,q⟩:=isT q;exact⟨.str_tuple _ _ q hu0,.str_tuple _ _ q hu0⟩
  | lst es=>unfold RepD at he;obtain⟨a,vs,rfl,q,_⟩:=he;cases ru;obtain⟨its,_,q⟩:=isL q;exact⟨.str_list _ _ q hu0,.str_list _ _ q hu0⟩
 | tup ds =>
  have hv0:=hv
  unfold RepD at hv
  obtain⟨a,vs,rfl,q,hq⟩:=hv
  cases rv
  obtain⟨its,r1,q1⟩:=isT q
  cases e with
  | non=>unfold RepD at he;subst he;cases ru;exact⟨.tuple_none q1 hu0,.tuple_none q1 hu0⟩
  | bl b=>unfold RepD at he;subst he;cases ru;exact⟨.tuple_bool _ q1 hu0,.tuple_bool _ q1 hu0⟩
  | int b=>unfold RepD at he;subst he;obtain⟨t,rfl⟩:=ru;exact⟨.tuple_int _ _ q1 hu0,.tuple_int _ _ q1 hu0⟩
  | str b=>unfold RepD at he;subst he;obtain⟨t,rfl⟩:=ru;exact⟨.tuple_str _ _ q1 hu0,.tuple_str _ _ q1 hu0⟩
  | lst es=>unfold RepD at he;obtain⟨b,ws,rfl,g,_⟩:=he;cases ru;obtain⟨its2,_,g1⟩:=isL g;exact⟨.tuple_list q1 g1 hu0,.tuple_list q1 g1 hu0⟩
  | tup es =>
   have he0:=he
   unfold RepD at he
   obtain⟨b,ws,rfl,g,hg⟩:=he
   cases ru
   obtain⟨its2,r2,g1⟩:=isT g
   have hd':depths ds+1<=n:=by simpa [D.depth] using hd
   have l1:=r1.length
   have l2:=r2.length
   have m1:=hq.length
   have m2:=hg.length
   have rc:SeqAt.RcAt A s (.ref a) (.ref b) (eqD (.tup ds) (.tup es)):=by
    have:=SeqAt.RcAt.tuples (e:=t0s ds es) q1 g1 hu0 (n0h I (λ{A} {v} {u} {vv} {uu} {d} {e}=>ih (by omega) (A:=A)) (A:=A.in1) (by rw[g0y];omega) (m:=n - 1) (by omega) r1 r2 hq hg)
    rw[List.size_toArray,List.size_toArray]at this
    unfold eqD
    by_cases hl:ds.length=es.length
    ·have z:(its.length==its2.length)=true:=by rw[beq_iff_eq];omega
     have mm:min its.length its2.length=ds.length:=by omega
     rw[z,Bool.and_true,mm,h0u hl]at this
     exact this
    ·have z:(its.length==its2.length)=false:=by rw[beq_eq_false_iff_ne];omega
     rw[z,Bool.and_false]at this
     rw[f0w hl]
     exact this
   refine⟨rc,?_⟩
   by_cases hab:a=b
   ·subst hab
    rw[n0e I hv0 he0,e0j]
    exact .same _
   ·exact .of_refs hab rc
 | lst ds =>
  have hv0:=hv
  unfold RepD at hv
  obtain⟨a,vs,rfl,q,hq⟩:=hv
  cases rv
  obtain⟨its,r1,q1⟩:=isL q
  cases e with
  | non=>unfold RepD at he;subst he;cases ru;exact⟨.list_none q1 hu0,.list_none q1 hu0⟩
  | bl b=>unfold RepD at he;subst he;cases ru;exact⟨.list_bool _ q1 hu0,.list_bool _ q1 hu0⟩
  | int b=>unfold RepD at he;subst he;obtain⟨t,rfl⟩:=ru;exact⟨.list_int _ _ q1 hu0,.list_int _ _ q1 hu0⟩
  | str b=>unfold RepD at he;subst he;obtain⟨t,rfl⟩:=ru;exact⟨.list_str _ _ q1 hu0,.list_str _ _ q1 hu0⟩
  | tup es=>unfold RepD at he;obtain⟨b,ws,rfl,g,_⟩:=he;cases ru;obtain⟨its2,_,g1⟩:=isT g;exact⟨.list_tuple q1 g1 hu0,.list_tuple q1 g1 hu0⟩
  | lst es =>
   have he0:=he
   unfold RepD at he
   obtain⟨b,ws,rfl,g,hg⟩:=he
   cases ru
   obtain⟨its2,r2,g1⟩:=isL g
   have hd':depths ds+1<=n:=by simpa [D.depth] using hd
   have l1:=r1.length
   have l2:=r2.length
   have m1:=hq.length
   have m2:=hg.length
   have rc:SeqAt.RcAt A s (.ref a) (.ref b) (eqD (.lst ds) (.lst es)):=by
    unfold eqD
    by_cases hl:ds.length=es.length
    ·have:=SeqAt.RcAt.lists (e:=t0s ds es) q1 g1 (by rw[List.size_toArray,List.size_toArray];omega) hu0 (n0h I (λ{A} {v} {u} {vv} {uu} {d} {e}=>ih (by omega) (A:=A)) (A:=A.in1) (by rw[g0y];omega) (m:=n - 1) (by omega) r1 r2 hq hg)
     rw[List.size_toArray,show its.length=ds.length by omega,h0u hl]at this
     exact this
    ·rw[f0w hl]
     exact SeqAt.RcAt.lists_lengths q1 g1 (by rw[List.size_toArray,List.size_toArray,bne_iff_ne];omega) hu0
   refine⟨rc,?_⟩
   by_cases hab:a=b
   ·subst hab
    rw[n0e I hv0 he0,e0j]
    exact .same _
   ·exact .of_refs hab rc
theorem w0y (I:Inv X pins σ H s):∀(n:Nat) {A:Around} {v u:V} {vv uu:Value} {d e:D},d.depth<=n->A.units+n<cLine->RelV v vv->RelV u uu->RepD X.K H v d->RepD X.K H u e ->
  SeqAt.RcAt A s vv uu (eqD d e)/\SeqAt.EqAt A s vv uu (eqD d e):=by
 intro n
 induction n with
 | zero=>exact λhd hu=>g1a I 0 (λhlt=>absurd hlt (by omega)) hd hu
 | succ n ih=>exact λhd hu=>g1a I (n+1) (λ_ A v u vv uu d e h1 h2 h3 h4 h5 h6=>(ih (A:=A) h1 h2 h3 h4 h5 h6).2) hd hu
end
section
variable {X:Cx}(K:PySem.W.Frag)
def rEqD (K:PySem.W.Frag):R2:=λx y H Q=>∃d e,RepD K H x d/\RepD K H y e/\d.depth<=60/\Q (.bl (eqD d e)) H
def rNeD (K:PySem.W.Frag):R2:=λx y H Q=>∃d e,RepD K H x d/\RepD K H y e/\d.depth<=60/\Q (.bl (!eqD d e)) H
theorem c0e (hu:X.A.units+64<cLine)(hK:X.K=K:=by rfl):OpR X (compareOp .Eq) (rEqD K):=by
 subst hK
 intro pins s σ H x y v u Q I rx ry h
 obtain⟨d,e,hd,he,hz,q⟩:=h
 exact(w0y I 60 hz (by omega) rx ry hd he).1 X.prog X.w _ _ ⟨.bl _,H,I,rfl,q⟩
theorem k1p {pins:List (Addr×Obj)}{σ:St}{H:Hp}{s:Shared}(I:Inv X pins σ H s){A:Around}{v u:V}{vv uu:Value}{d e:D}(hd:d.depth<=60)(hu:A.units+61<cLine)(rv:RelV v vv)(ru:RelV u uu)(hv:RepD X.K H v d)(he:RepD X.K H u e) :
  SeqAt.RcNeAt A s vv uu (!eqD d e):=by
 have hu0:A.units<cLine:=by omega
 have isL:∀ {a xs},StL H a xs->∃its:List Value,Vals xs its/\s.heap.IsList a its.toArray:=λq=>by
  obtain⟨its,r,p,_⟩:=I.list q.sq
  exact⟨its,r,p.isList⟩
 have isT:∀ {a xs},StT H a xs->∃its:List Value,Vals xs its/\s.heap.IsTuple a its.toArray:=λq=>by
  obtain⟨its,r,p,_⟩:=I.tuple q.sq
  exact⟨its,r,p⟩
 cases d with
 | non =>
  unfold RepD at hv;subst hv;cases rv
  cases e with
  | non=>unfold RepD at he;subst he;cases ru;exact .none_none
  | bl b=>unfold RepD at he;subst he;cases ru;exact .none_bool _
  | int b=>unfold RepD at he;subst he;obtain⟨t,rfl⟩:=ru;exact .none_int _ _
  | str b=>unfold RepD at he;subst he;obtain⟨t,rfl⟩:=ru;exact .none_str _ _
  | tup es=>unfold RepD at he;obtain⟨a,vs,rfl,q,_⟩:=he;cases ru;obtain⟨its,_,q⟩:=isT q;exact .none_tuple q hu0
  | lst es=>unfold RepD at he;obtain⟨a,vs,rfl,q,_⟩:=he;cases ru;obtain⟨its,_,q⟩:=isL q;exact .none_list q hu0
 | bl x =>
  unfold RepD at hv;subst hv;cases rv
  cases e with
  | non=>unfold RepD at he;subst he;cases ru;exact .bool_none _
  | bl b=>unfold RepD at he;subst he;cases ru;exact .bool_bool _ _
  | int b=>unfold RepD at he;subst he;obtain⟨t,rfl⟩:=ru;exact .bool_int _ _ _
  | str b=>unfold RepD at he;subst he;obtain⟨t,rfl⟩:=ru;exact .bool_str _ _ _
  | tup es=>unfold RepD at he;obtain⟨a,vs,rfl,q,_⟩:=he;cases ru;obtain⟨its,_,q⟩:=isT q;exact .bool_tuple _ q hu0
  | lst es=>unfold RepD at he;obtain⟨a,vs,rfl,q,_⟩:=he;cases ru;obtain⟨its,_,q⟩:=isL q;exact .bool_list _ q hu0
 | int x =>
  unfold RepD at hv;subst hv;obtain⟨t0,rfl⟩:=rv
  cases e with
  | non=>unfold RepD at he;subst he;cases ru;exact .int_none _ _
  | bl b=>unfold RepD at he;subst he;cases ru;exact .int_bool _ _ _
  | int b=>unfold RepD at he;subst he;obtain⟨t,rfl⟩:=ru;exact .int_int _ _ _ _
  | str b=>unfold RepD at he;subst he;obtain⟨t,rfl⟩:=ru;exact .int_str _ _ _ _
  | tup es=>unfold RepD at he;obtain⟨a,vs,rfl,q,_⟩:=he;cases ru;obtain⟨its,_,q⟩:=isT q;exact .int_tuple _ _ q hu0
  | lst es=>unfold RepD at he;obtain⟨a,vs,rfl,q,_⟩:=he;cases ru;obtain⟨its,_,q⟩:=isL q;exact .int_list _ _ q hu0
 | str x =>
  unfold RepD at hv;subst hv;obtain⟨t0,rfl⟩:=rv
  cases e with
  | non=>unfold RepD at he;subst he;cases ru;exact .str_none _ _
  | bl b=>unfold RepD at he;subst he;cases ru;exact .str_bool _ _ _
  | int b=>unfold RepD at he;subst he;obtain⟨t,rfl⟩:=ru;exact .str_int _ _ _ _
  | str b=>unfold RepD at he;subst he;obtain⟨t,rfl⟩:=ru;exact .str_str _ _ _ _
  | tup es=>unfold RepD at he;obtain⟨a,vs,rfl,q,_⟩:=he;cases ru;obtain⟨its,_,q⟩:=isT q;exact .str_tuple _ _ q hu0
  | lst es=>unfold RepD at he;obtain⟨a,vs,rfl,q,_⟩:=he;cases ru;obtain⟨its,_,q⟩:=isL q;exact .str_list _ _ q hu0
 | tup ds =>
  unfold RepD at hv
  obtain⟨a,vs,rfl,q,hq⟩:=hv
  cases rv
  obtain⟨its,r1,q1⟩:=isT q
  cases e with
  | non=>unfold RepD at he;subst he;cases ru;exact .tuple_none q1 hu0
  | bl b=>unfold RepD at he;subst he;cases ru;exact .tuple_bool _ q1 hu0
  | int b=>unfold RepD at he;subst he;obtain⟨t,rfl⟩:=ru;exact .tuple_int _ _ q1 hu0
  | str b=>unfold RepD at he;subst he;obtain⟨t,rfl⟩:=ru;exact .tuple_str _ _ q1 hu0
  | lst es=>unfold RepD at he;obtain⟨b,ws,rfl,g,_⟩:=he;cases ru;obtain⟨its2,_,g1⟩:=isL g;exact .tuple_list q1 g1 hu0
  | tup es =>
   unfold RepD at he
   obtain⟨b,ws,rfl,g,hg⟩:=he
   cases ru
   obtain⟨its2,r2,g1⟩:=isT g
   have hd':depths ds+1<=60:=by simpa [D.depth] using hd
   have l1:=r1.length
   have l2:=r2.length
   have m1:=hq.length
   have m2:=hg.length
   have:=SeqAt.RcNeAt.tuples (e:=t0s ds es) q1 g1 hu0 (n0h I (λ{A} {v} {u} {vv} {uu} {d} {e} a1 a2 a3 a4 a5 a6=>(w0y I 60 a1 a2 a3 a4 a5 a6).2) (A:=A.in1) (by rw[g0y];omega) (m:=60) (by omega) r1 r2 hq hg)
   rw[List.size_toArray,List.size_toArray]at this
   unfold eqD
   by_cases hl:ds.length=es.length
   ·have z:(its.length==its2.length)=true:=by rw[beq_iff_eq];omega
    have mm:min its.length its2.length=ds.length:=by omega
    rw[z,Bool.and_true,mm,h0u hl]at this
    exact this
   ·have z:(its.length==its2.length)=false:=by rw[beq_eq_false_iff_ne];omega
    rw[z,Bool.and_false]at this
    rw[f0w hl]
    exact this
 | lst ds =>
  unfold RepD at hv
  obtain⟨a,vs,rfl,q,hq⟩:=hv
  cases rv
  obtain⟨its,r1,q1⟩:=isL q
  cases e with
  | non=>unfold RepD at he;subst he;cases ru;exact .list_none q1 hu0
  | bl b=>unfold RepD at he;subst he;cases ru;exact .list_bool _ q1 hu0
  | int b=>unfold RepD at he;subst he;obtain⟨t,rfl⟩:=ru;exact .list_int _ _ q1 hu0
  | str b=>unfold RepD at he;subst he;obtain⟨t,rfl⟩:=ru;exact .list_str _ _ q1 hu0
  | tup es=>unfold RepD at he;obtain⟨b,ws,rfl,g,_⟩:=he;cases ru;obtain⟨its2,_,g1⟩:=isT g;exact .list_tuple q1 g1 hu0
  | lst es =>
   unfold RepD at he
   obtain⟨b,ws,rfl,g,hg⟩:=he
   cases ru
   obtain⟨its2,r2,g1⟩:=isL g
   have hd':depths ds+1<=60:=by simpa [D.depth] using hd
   have l1:=r1.length
   have l2:=r2.length
   have m1:=hq.length
   have m2:=hg.length
   unfold eqD
   by_cases hl:ds.length=es.length
   ·have:=SeqAt.RcNeAt.lists (e:=t0s ds es) q1 g1 (by rw[List.size_toArray,List.size_toArray];omega) hu0 (n0h I (λ{A} {v} {u} {vv} {uu} {d} {e} a1 a2 a3 a4 a5 a6=>(w0y I 60 a1 a2 a3 a4 a5 a6).2) (A:=A.in1) (by rw[g0y];omega) (m:=60) (by omega) r1 r2 hq hg)
    rw[List.size_toArray,show its.length=ds.length by omega,h0u hl]at this
    exact this
   ·rw[f0w hl]
    exact SeqAt.RcNeAt.lists_lengths q1 g1 (by rw[List.size_toArray,List.size_toArray,bne_iff_ne];omega) hu0
theorem k0c (hu:X.A.units+64<cLine)(hK:X.K=K:=by rfl):OpR X (compareOp .NotEq) (rNeD K):=by
 subst hK
 intro pins s σ H x y v u Q I rx ry h
 obtain⟨d,e,hd,he,hz,q⟩:=h
 exact k1p I hz (by omega) rx ry hd he X.prog X.w _ _ ⟨.bl _,H,I,rfl,q⟩
theorem k0l (ns:List Int):∀j,j<=ns.length->preSum (λi=>ns.getD i 0) j=(ns.take j).sum
 | 0,_=>by simp[preSum]
 | j+1,h=>by
  rw[preSum,k0l ns j (by omega),List.take_add_one,List.sum_append]
  have:ns[j]? = some ns[j]:=List.getElem?_eq_getElem (by omega)
  rw[this,List.getD_eq_getElem?_getD,this]
  simp
theorem n0p {ns:List Int}(h:∀n∈ns,0<=n):∀j,0<=(ns.take j).sum/\(ns.take j).sum<=ns.sum:=by
 induction ns with
 | nil=>intro j;simp
 | cons a r ih =>
  intro j
  have ha:=h a List.mem_cons_self
  have ih':=ih λn hn=>h n (List.mem_cons_of_mem _ hn)
  have h0:=ih' r.length
  rw[List.take_length]at h0
  cases j with
  | zero=>simp;omega
  | succ j =>
   have:=ih' j
   simp only[List.take_succ_cons,List.sum_cons]
   omega
theorem y0t {ns:List Int}(h:∀n∈ns,0<=n):∀n∈ns,n<=ns.sum:=by
 induction ns with
 | nil=>intro n hn;cases hn
 | cons a r ih =>
  intro n hn
  have ha:=h a List.mem_cons_self
  have hr:∀n∈r,0<=n:=λn hn=>h n (List.mem_cons_of_mem _ hn)
  have h0:=n0p hr r.length
  rw[List.take_length]at h0
  rw[List.sum_cons]
  rcases List.mem_cons.mp hn with rfl | hn
  ·omega
  ·have:=ih hr n hn
   omega
theorem u0b (hc:X.calm=true)(hK:X.K=K:=by rfl):k0t X (.builtin "sum") (λxs H Q=>∃(p:Addr) (ns:List Int),xs=[.ref p]/\SqL K H p (ns.map V.int)/\(∀n∈ns,0<=n)/\ns.sum<2^62/\Q (.int ns.sum) H):=by
 subst hK
 intro pins s σ H xs us Q I r h
 obtain⟨p,ns,rfl,hq,h0,hb,q⟩:=h
 obtain⟨u,rfl,ru⟩:=l0u r
 cases ru
 obtain⟨its,rv,pl,hz⟩:=I.list hq
 refine call_sum_walk (wpAny_pyIter_list pl.isList ?_)
 have hne:p≠s.heap.objs.size:=Nat.ne_of_lt (by obtain⟨o,n,e,_⟩:=pl;exact Heap.lt_size e)
 have hl:its.length=ns.length:=by have:=rv.length;rw[List.length_map]at this;omega
 refine⟨s.heap.objs.size,_,_,_,_,_,λi=>ns.getD i 0,rfl,Walks.list (A:=X.A.in1) (show X.A.in1.handled=none from I.ok.hd hc) s.heap.objs.size p hne its.toArray,⟨⟨_,Heap.get?_push_size _ rfl,rfl,rfl⟩,?_⟩,λb hb=>?_,λi v hv=>?_,λj hj=>?_,λh' tk t' hk=>?_⟩
 ·exact pl.isList.at λo e=>Heap.get?_push_of_some _ e
 ·rw[Heap.size_push]
  rcases List.mem_cons.mp hb with rfl | hb
  ·exact Nat.lt_succ_self _
  ·rw[List.mem_singleton.mp hb]
   obtain⟨o,n,e,_⟩:=pl
   exact Nat.lt_succ_of_lt (Heap.lt_size e)
 ·have hv':its[i]? = some v:=by simpa using hv
  have hi:i<its.length:=(List.getElem?_eq_some_iff.mp hv').1
  obtain⟨w,e1,e2⟩:=rv.get (i:=i) (x:=V.int ns[i]) (by rw[List.getElem?_map,List.getElem?_eq_getElem (by omega)];rfl)
  rw[hv']at e1;cases e1
  obtain⟨t,rfl⟩:=e2
  exact⟨t,by show _=Value.int (ns.getD i 0) t;rw[List.getD_eq_getElem?_getD,List.getElem?_eq_getElem (by omega)];rfl⟩
 ·rw[List.size_toArray]at hj
  have m1:ns.getD j 0∈ns:=by
   rw[List.getD_eq_getElem?_getD,List.getElem?_eq_getElem (by omega)]
   exact List.getElem_mem _
  have a1:=h0 _ m1
  have a2:=y0t h0 _ m1
  have a3:=n0p h0 (j+1)
  rw[k0l ns (j+1) (by omega)]
  exact⟨⟨by show _<=ns.getD j 0;omega,by show ns.getD j 0<_;omega⟩,by omega,by omega⟩
 ·rw[List.size_toArray,hl,k0l ns _ (Nat.le_refl _),List.take_length]
  refine⟨.int ns.sum,H,I.kept λb o e=>?_,⟨_,rfl⟩,q⟩
  refine hk b o (λz=>?_) (Heap.get?_push_of_some _ e)
  rw[List.mem_singleton.mp z]at e
  exact absurd (Heap.lt_size e) (Nat.lt_irrefl _)
theorem o0t (hc:X.calm=true)(hK:X.K=K:=by rfl):k0t X (.builtin "all") (λxs H Q=>∃(p:Addr) (bs:List Bool),xs=[.ref p]/\SqL K H p (bs.map V.bl)/\Q (.bl (bs.all id)) H):=by
 subst hK
 intro pins s σ H xs us Q I r h
 obtain⟨p,bs,rfl,hq,q⟩:=h
 obtain⟨u,rfl,ru⟩:=l0u r
 cases ru
 obtain⟨its,rv,pl,hz⟩:=I.list hq
 refine call_all_walk (wpAny_pyIter_list pl.isList ?_)
 have hne:p≠s.heap.objs.size:=Nat.ne_of_lt (by obtain⟨o,n,e,_⟩:=pl;exact Heap.lt_size e)
 have hl:its.length=bs.length:=by have:=rv.length;rw[List.length_map]at this;omega
 refine⟨s.heap.objs.size,_,_,_,_,_,λi=>bs.getD i true,rfl,Walks.list (A:=X.A.in1) (show X.A.in1.handled=none from I.ok.hd hc) s.heap.objs.size p hne its.toArray,⟨⟨_,Heap.get?_push_size _ rfl,rfl,rfl⟩,?_⟩,λi v s' Q' E' hv hQ'=>?_,λh' tk hk=>?_⟩
 ·exact pl.isList.at λo e=>Heap.get?_push_of_some _ e
 ·have hv':its[i]? = some v:=by simpa using hv
  have hi:i<its.length:=(List.getElem?_eq_some_iff.mp hv').1
  obtain⟨w,e1,e2⟩:=rv.get (i:=i) (x:=V.bl bs[i]) (by rw[List.getElem?_map,List.getElem?_eq_getElem (by omega)];rfl)
  rw[hv']at e1;cases e1
  cases e2
  have hQ2:Q' (bs.getD i true) s':=hQ'
  rw[List.getD_eq_getElem?_getD,List.getElem?_eq_getElem (by omega)]at hQ2
  exact wpAny_truthy_bool hQ2
 ·rw[List.size_toArray,hl]
  have e:((List.range bs.length).all λi=>bs.getD i true)=bs.all id:=by
   rw[Bool.eq_iff_iff]
   simp only[List.all_eq_true,List.mem_range,id]
   constructor
   ·intro g b hb
    obtain⟨i,hi,rfl⟩:=List.getElem_of_mem hb
    have:=g i hi
    rw[List.getD_eq_getElem?_getD,List.getElem?_eq_getElem hi]at this
    exact this
   ·intro g i hi
    rw[List.getD_eq_getElem?_getD,List.getElem?_eq_getElem hi]
    exact g _ (List.getElem_mem _)
  rw[e]
  refine⟨.bl (bs.all id),H,I.kept λb o e=>?_,rfl,q⟩
  refine hk b o (λz=>?_) (Heap.get?_push_of_some _ e)
  rw[List.mem_singleton.mp z]at e
  exact absurd (Heap.lt_size e) (Nat.lt_irrefl _)
end
abbrev a0e (ks:List Nat):List D:=ks.map λj=>D.int (j:Nat)
def tyD:D->String
 | .non => "NoneType" | .bl _ => "bool" | .int _ => "int" | .str _ => "str" | .tup _ => "tuple" | .lst _ => "list"
theorem d0k (K:PySem.W.Frag){X:Cx}(hK:X.K=K:=by rfl):k0t X (.builtin "isinstance") (λxs H Q=>∃x d T b,xs=[x,.ty T]/\RepD K H x d/\isaT (tyD d) T=some b/\Q (.bl b) H):=by
 subst hK
 intro pins s σ H xs us Q I r h
 obtain⟨x,d,T,b,rfl,hd,e,q⟩:=h
 cases r with
 | cons r1 rr =>
  cases rr with
  | cons r2 rr =>
   cases rr
   cases (show _=Value.type T from r2)
   have e':∀ {t:String},tyD d=t->PySem.W.kitOne X.K (.type t) (.type T)=some b:=λ{t} z=>by rw[<- z];exact e1q.trans e
   have fin:∀tk,EP X pins σ Q (.bool b) {s with toks:=tk}:=λtk=>⟨.bl b,H,I.tok tk,rfl,q⟩
   cases d with
   | non=>unfold RepD at hd;subst hd;exact l0i I r1 .non (e' rfl) fin
   | bl y=>unfold RepD at hd;subst hd;exact l0i I r1 (.bl y) (e' rfl) fin
   | int y=>unfold RepD at hd;subst hd;exact l0i I r1 (.int y) (e' rfl) fin
   | str y=>unfold RepD at hd;subst hd;exact l0i I r1 (.str y) (e' rfl) fin
   | tup ds =>
    unfold RepD at hd
    obtain⟨a,vs,rfl,hq,_⟩:=hd
    cases r1
    obtain⟨its,_,⟨o,h1,h2,_⟩,_⟩:=I.tuple hq.sq
    exact PySem.W.kia_one PySem.W.kitx_tuple I.kIn ⟨o,h1,h2⟩ (e' rfl) (λz=>nomatch z) fin
   | lst ds =>
    unfold RepD at hd
    obtain⟨a,vs,rfl,hq,_⟩:=hd
    cases r1
    obtain⟨its,_,⟨o,n,h1,h2,_⟩,_⟩:=I.list (StL.sq hq)
    exact PySem.W.kia_one PySem.W.kitx_list I.kIn ⟨o,h1,h2⟩ (e' rfl) (λz=>nomatch z) fin
inductive Sv where
 | un | vl (d:D) | ow (ds:List D) | tp (n:Nat) | dk (kvs:List (Key×D)) | dt (kvs:List (List Key×D)) | ex (C:Addr) (fs:Option (List (Str×D))) | sc (ns:List Int) | px (d:D) (C:Addr) (fs:Option (List (Str×D))) | xl (es:List (Addr×Option (List (Str×D)))) | ob (C:Addr) (fs:List (Str×D)) | ll (xss:List (List D)) | ds (C:Addr) (n w:List (Key×D))
def Sv.own:Sv->Bool
 | .ow _=>true
 | .tp _=>true
 | .dk _=>true
 | .dt _=>true
 | .ll _=>true
 | .ds _ _ _=>true
 | _=>false
abbrev En:=List Sv
inductive R where
 | d (d:D) | o (i:Nat) | n (s:Sv) | t (n:String) | x (s:Sv)
abbrev R.f (ds:List D):R:=.n (.ow ds)
def gt:En->Nat->Sv
 | [],_=>.un
 | s::_,0=>s
 | _::r,n+1=>gt r n
def pt:En->Nat->Sv->En
 | [],_,_=>[]
 | _::r,0,s=>s::r
 | x::r,n+1,s=>x::pt r n s
theorem k0y:∀(ρ:En) (i:Nat) (s:Sv),(pt ρ i s).length=ρ.length
 | [],_,_=>rfl
 | _::_,0,_=>rfl
 | x::r,n+1,s=>by simp[pt,k0y r n s]
theorem d0u:∀(ρ:En) (i j:Nat) (s:Sv),i≠j->gt (pt ρ i s) j=gt ρ j
 | [],_,_,_,_=>rfl
 | _::_,0,0,_,h=>absurd rfl h
 | _::_,0,j+1,_,_=>rfl
 | x::r,i+1,0,s,_=>rfl
 | x::r,i+1,j+1,s,h=>d0u r i j s (by omega)
theorem t0l:∀(ρ:En) (i:Nat) (s:Sv),i<ρ.length->gt (pt ρ i s) i=s
 | [],_,_,h=>by simp at h
 | _::_,0,_,_=>rfl
 | x::r,i+1,s,h=>t0l r i s (by simpa using h)
theorem p0x:∀(ρ:En) (i:Nat),ρ.length<=i->gt ρ i = .un
 | [],_,_=>rfl
 | x::r,0,h=>by simp at h
 | x::r,i+1,h=>p0x r i (by simpa using h)
theorem p0r {ρ:En}{i:Nat}(h:(gt ρ i).own=true):i<ρ.length:=by
 rcases Nat.lt_or_ge i ρ.length with q | q
 ·exact q
 ·rw[p0x ρ i q]at h;cases h
def c0s (σ:St)(ρ:En)(a:Addr):Prop:=∃i,(gt ρ i).own=true/\σ[i]? = some (some (.ref a))
open Classical in
noncomputable def hid (H:Hp)(S:Addr->Prop):Hp:=λa=>if S a then none else H a
theorem r0i {H:Hp}{S:Addr->Prop}{a:Addr}{o:HO}:hid H S a=some o↔¬S a/\H a=some o:=by
 unfold hid
 split
 ·rename_i h;simp[h]
 ·rename_i h;simp[h]
theorem m0s {H:Hp}{S:Addr->Prop}{a:Addr}{o:HO}(h:¬S a)(e:H a=some o):hid H S a=some o:=r0i.mpr ⟨h,e⟩
theorem c0a {H H':Hp}{S S':Addr->Prop}(h:∀a o,H a=some o->¬S a->H' a=some o/\¬S' a):Same (hid H S) (hid H' S'):=λa o e=>by
 obtain⟨n,e⟩:=r0i.mp e
 obtain⟨e',n'⟩:=h a o e n
 exact m0s n' e'
theorem d0c {H:Hp}{S:Addr->Prop}:Same (hid H S) H:=λa o e=>(r0i.mp e).2
structure Fr where
 H0:Hp
 Z:Addr->Prop
 M:Addr->Prop
 I:Nat->Addr->Prop
 P:Nat->Addr->Prop
def Fr.pin (F:Fr)(i:Nat)(a:Addr):Prop:=F.I i a∨F.P i a
def hs (F:Fr)(σ:St)(ρ:En):Addr->Prop:=λa=>F.Z a∨c0s σ ρ a
def exP (e C:Addr)(od:Option Addr):Heap->Prop:=λh=>∃oe vs,h.get? e=some oe/\oe.cls = .ref C/\oe.dict=od/\oe.data = .fields vs
def exD (K:PySem.W.Frag)(Hh:Hp):Option (List (Str×D))->Option Addr->Prop
 | none,none=>True
 | some fs,some dx=>∃ks,Hh dx=some (.xd ks)/\ks.map Prod.fst=fs.map Prod.fst/\RepDs K Hh (ks.map Prod.snd) (fs.map Prod.snd)
 | _,_=>False
theorem exD.same {K:PySem.W.Frag}{Hh Hh':Hp}:∀ {fs:Option (List (Str×D))} {od:Option Addr},exD K Hh fs od->Same Hh Hh'->exD K Hh' fs od
 | none,none,h,_=>h
 | some fs,some dx,⟨ks,h1,h2,h3⟩,g=>⟨ks,g _ _ h1,h2,h3.same g⟩
 | none,some _,h,_=>h.elim
 | some _,none,h,_=>h.elim
def Exs (K:PySem.W.Frag)(Hh:Hp):List V->List (Addr×Option (List (Str×D)))->Prop
 | [],[]=>True
 | x::vs,c::es=>(∃e od,x = .ref e/\Hh e=some (.ext (exP e c.1 od))/\exD K Hh c.2 od)/\Exs K Hh vs es
 | _,_=>False
theorem Exs.same {K:PySem.W.Frag}{Hh Hh':Hp}:∀ {vs:List V} {es:List (Addr×Option (List (Str×D)))},Exs K Hh vs es->Same Hh Hh'->Exs K Hh' vs es
 | [],[],h,_=>h
 | x::vs,c::es,⟨⟨e,od,h1,h2,h3⟩,h4⟩,g=>⟨⟨e,od,h1,g _ _ h2,h3.same g⟩,Exs.same h4 g⟩
 | [],_::_,h,_=>h.elim
 | _::_,[],h,_=>h.elim
def LlP (a:Addr)(bs:List Addr)(vss:List (List V)):Program->World->Heap->Prop:=λ_ _ h=>bs.length<=sizeLine/\bs.Nodup/\(∃n,h.get? a=some {cls:=.type "list",data:=.seq (bs.map Value.ref).toArray n})/\vss.length=bs.length /\
 ∀(k:Nat) (b:Addr) (vs:List V),bs[k]? = some b->vss[k]? = some vs->vs.length<=sizeLine/\∃(its:List Value) (n:Nat),Vals vs its/\h.get? b=some {cls:=.type "list",data:=.seq its.toArray n}
def f1n (K:PySem.W.Frag)(H:Hp)(vss:List (List V))(dss:List (List D)):Prop:=vss.length=dss.length/\∀(k:Nat) (vs:List V) (ds:List D),vss[k]? = some vs->dss[k]? = some ds->RepDs K H vs ds
theorem f1n.same {K:PySem.W.Frag}{H H':Hp}{vss:List (List V)}{dss:List (List D)}(h:f1n K H vss dss)(g:Same H H'):f1n K H' vss dss:=⟨h.1,λk vs ds a b=>(h.2 k vs ds a b).same g⟩
def DsP (x C dx d1 d2:Addr)(f1 f2:Str)(k1 k2:List (Key×V)):Program->World->Heap->Prop:=λP w h=>dx≠x/\d1≠x/\d2≠x/\dx≠d1/\dx≠d2/\d1≠d2/\e0s P w (λb=>if b=dx then some (.own x)else none) h x (.ins C dx [(f1,.ref d1),(f2,.ref d2)]) /\
 e0s P w (λ_=>none) h d1 (.dK k1)/\e0s P w (λ_=>none) h d2 (.dK k2)
def SvOk (K:PySem.W.Frag)(Hh H:Hp)(v:Option (Option V)):Sv->Prop
 | .xl es=>∃l vs,v=some (some (.ref l))/\Hh l=some (.lst vs)/\Exs K Hh vs es
 | .ob C fs=>∃a dx ks,v=some (some (.ref a))/\Hh a=some (.ins C dx ks)/\ks.map Prod.fst=fs.map Prod.fst/\RepDs K Hh (ks.map Prod.snd) (fs.map Prod.snd)
 | .ll xss=>∃l bs vss,v=some (some (.ref l))/\H l=some (.big bs (LlP l bs vss))/\f1n K Hh vss xss
 | .ds C n w=>∃x dx d1 d2 k1 k2,v=some (some (.ref x))/\H x=some (.big [dx,d1,d2] (DsP x C dx d1 d2 "nets" "wishes" k1 k2))/\k1.map Prod.fst=n.map Prod.fst/\RepDs K Hh (k1.map Prod.snd) (n.map Prod.snd)/\k2.map Prod.fst=w.map Prod.fst/\RepDs K Hh (k2.map Prod.snd) (w.map Prod.snd)
 | .px d C fs=>∃p x e od,v=some (some (.ref p))/\Hh p=some (.tup [x,.ref e])/\RepD K Hh x d/\Hh e=some (.ext (exP e C od))/\exD K Hh fs od
 | .sc ns=>∃c,v=some (some (.ref c))/\SqL K Hh c (List.map V.int ns)
 | .ex C fs=>∃e od,v=some (some (.ref e))/\Hh e=some (.ext (exP e C od))/\exD K Hh fs od
 | .un=>True
 | .vl d=>∃x,v=some (some x)/\RepD K Hh x d
 | .ow ds=>∃l vs,v=some (some (.ref l))/\H l=some (.lst vs)/\RepDs K Hh vs ds
 | .tp n=>∃t c ns sp lf,v=some (some (.ref t))/\H t=some (.dK (e0m c sp lf))/\SqL K Hh c (List.map V.int ns)/\0<=sp/\sp<=n/\0<=lf
 | .dk kvs=>∃t ks,v=some (some (.ref t))/\H t=some (.dK ks)/\ks.map Prod.fst=kvs.map Prod.fst/\RepDs K Hh (ks.map Prod.snd) (kvs.map Prod.snd)
 | .dt kvs=>∃t ks,v=some (some (.ref t))/\H t=some (.dT ks)/\ks.map Prod.fst=kvs.map Prod.fst/\RepDs K Hh (ks.map Prod.snd) (kvs.map Prod.snd)
theorem SvOk.keep {K:PySem.W.Frag}{Hh Hh' H H':Hp}{v:Option (Option V)}{s:Sv}(h:SvOk K Hh H v s)(g:Same Hh Hh')(k:∀l o,s.own=true->v=some (some (.ref l))->H l=some o->H' l=some o):SvOk K Hh' H' v s:=by
 cases s with
 | un=>trivial
 | vl d=>obtain⟨x,e,r⟩:=h;exact⟨x,e,r.same g⟩
 | ow ds=>obtain⟨l,vs,e,a,r⟩:=h;exact⟨l,vs,e,k _ _ rfl e a,r.same g⟩
 | tp n=>obtain⟨t,c,ns,sp,lf,e,a,b,r⟩:=h;exact⟨t,c,ns,sp,lf,e,k _ _ rfl e a,g.seq b,r⟩
 | dk kvs=>obtain⟨t,ks,e,a,b,r⟩:=h;exact⟨t,ks,e,k _ _ rfl e a,b,r.same g⟩
 | dt kvs=>obtain⟨t,ks,e,a,b,r⟩:=h;exact⟨t,ks,e,k _ _ rfl e a,b,r.same g⟩
 | ex C fs=>obtain⟨t,od,e,a,b⟩:=h;exact⟨t,od,e,g _ _ a,b.same g⟩
 | sc ns=>obtain⟨c,e,a⟩:=h;exact⟨c,e,g.seq a⟩
 | px d C fs=>obtain⟨p,x,e,od,a,b,c,d',e'⟩:=h;exact⟨p,x,e,od,a,g _ _ b,c.same g,g _ _ d',e'.same g⟩
 | xl es=>obtain⟨p,vs,a,b,c⟩:=h;exact⟨p,vs,a,g _ _ b,c.same g⟩
 | ob C fs=>obtain⟨p,dx,ks,a,b,c,d⟩:=h;exact⟨p,dx,ks,a,g _ _ b,c,d.same g⟩
 | ll xss=>obtain⟨l,bs,vss,e,a,r⟩:=h;exact⟨l,bs,vss,e,k _ _ rfl e a,r.same g⟩
 | ds C n w=>obtain⟨x,dx,d1,d2,k1,k2,e,a,r1,r2,r3,r4⟩:=h;exact⟨x,dx,d1,d2,k1,k2,e,k _ _ rfl e a,r1,r2.same g,r3,r4.same g⟩
theorem SvOk.alive {K:PySem.W.Frag}{Hh H:Hp}{v:Option (Option V)}{s:Sv}(h:SvOk K Hh H v s)(ho:s.own=true):∃l o,v=some (some (.ref l))/\H l=some o:=by
 cases s with
 | un=>cases ho
 | vl d=>cases ho
 | ow ds=>obtain⟨l,vs,e,a,r⟩:=h;exact⟨l,_,e,a⟩
 | tp n=>obtain⟨t,c,ns,sp,lf,e,a,b,r⟩:=h;exact⟨t,_,e,a⟩
 | dk kvs=>obtain⟨t,ks,e,a,b,r⟩:=h;exact⟨t,_,e,a⟩
 | dt kvs=>obtain⟨t,ks,e,a,b,r⟩:=h;exact⟨t,_,e,a⟩
 | ex C fs=>cases ho
 | sc ns=>cases ho
 | px d C fs=>cases ho
 | xl es=>cases ho
 | ob C fs=>cases ho
 | ll xss=>obtain⟨l,bs,vss,e,a,r⟩:=h;exact⟨l,_,e,a⟩
 | ds C n w=>obtain⟨x,dx,d1,d2,k1,k2,e,a,r⟩:=h;exact⟨x,_,e,a⟩
def Nt (H:Hp)(a:Addr):Prop:=H a≠none/\∀xs,H a≠some (.tup xs)
theorem l1d {H:Hp}{a l:Addr}{o:HO}(al:a≠l)(h:Nt H a):Nt (upd H l o) a:=by unfold Nt;rw[b0l al];exact h
structure Rel (K:PySem.W.Frag)(F:Fr)(σ:St)(ρ:En)(H:Hp):Prop where
 len:σ.length=ρ.length
 fr:∀a o,F.H0 a=some o->¬F.M a->H a=some o
 zl:∀a,F.Z a->Nt H a
 zo:∀a,c0s σ ρ a->¬F.Z a
 ow:∀i a,(gt ρ i).own=true->σ[i]? = some (some (.ref a))->(F.I i a/\F.M a)∨F.H0 a=none
 mi:∀i a,F.pin i a->σ[i]? = some (some (.ref a))
 ml:∀a,F.M a->F.H0 a≠none
 ma:∀a,F.M a->H a≠none
 nd:∀i j a,(gt ρ i).own=true->(gt ρ j).own=true->σ[i]? = some (some (.ref a))->σ[j]? = some (some (.ref a))->i=j
 sl:∀i,SvOk K (hid H (hs F σ ρ)) H σ[i]? (gt ρ i)
structure Kp (σ:St)(ρ ρ':En)(H H':Hp):Prop where
 st:∀a o,H a=some o->¬c0s σ ρ a->H' a=some o
 sb:∀i,(gt ρ' i).own=true->(gt ρ i).own=true
theorem Kp.so {σ:St}{ρ ρ':En}{H H':Hp}(k:Kp σ ρ ρ' H H'){a:Addr}(h:c0s σ ρ' a):c0s σ ρ a:=by
 obtain⟨i,hi,e⟩:=h
 exact⟨i,k.sb i hi,e⟩
theorem Kp.refl {σ:St}{ρ:En}{H:Hp}:Kp σ ρ ρ H H:=⟨λ_ _ e _=>e,λ_ h=>h⟩
theorem Kp.trans {σ:St}{ρ ρ1 ρ2:En}{H H1 H2:Hp}(a:Kp σ ρ ρ1 H H1)(b:Kp σ ρ1 ρ2 H1 H2):Kp σ ρ ρ2 H H2 :=
 ⟨λx o e n=>b.st x o (a.st x o e n) λz=>n (a.so z),λx z=>a.sb x (b.sb x z)⟩
theorem Kp.fresh {σ:St}{ρ:En}{H:Hp}{l:Addr}{o:HO}(h:H l=none):Kp σ ρ ρ H (upd H l o) :=
 ⟨λa u e _=>by rw[b0l (b0y e h)];exact e,λ_ h=>h⟩
section
variable {K:PySem.W.Frag}{F:Fr}{σ:St}{ρ ρ':En}{H H':Hp}
theorem i0e (r:Rel K F σ ρ H){a:Addr}(h:c0s σ ρ a):H a≠none:=by
 obtain⟨i,hi,e⟩:=h
 obtain⟨l,o,e',h'⟩:=(r.sl i).alive hi
 rw[e]at e';injection e' with e';injection e' with e';injection e' with e'
 rw[e',h'];exact λz=>nomatch z
theorem e1t (r:Rel K F σ ρ H){a:Addr}(h:hs F σ ρ a):H a≠none:=by
 rcases h with h | h
 ·exact(r.zl a h).1
 ·exact i0e r h
theorem SvOk.nt {K:PySem.W.Frag}{Hh H:Hp}{v:Option (Option V)}{s:Sv}(h:SvOk K Hh H v s)(ho:s.own=true):∃l,v=some (some (.ref l))/\Nt H l:=by
 cases s with
 | un=>cases ho
 | vl d=>cases ho
 | ow ds=>obtain⟨l,vs,e,a,r⟩:=h;exact⟨l,e,by rw[a];exact(λz=>nomatch z),by rw[a];exact λ_ z=>nomatch z⟩
 | tp n=>obtain⟨l,c,ns,sp,lf,e,a,b,r⟩:=h;exact⟨l,e,by rw[a];exact(λz=>nomatch z),by rw[a];exact λ_ z=>nomatch z⟩
 | dk kvs=>obtain⟨l,ks,e,a,b,r⟩:=h;exact⟨l,e,by rw[a];exact(λz=>nomatch z),by rw[a];exact λ_ z=>nomatch z⟩
 | dt kvs=>obtain⟨l,ks,e,a,b,r⟩:=h;exact⟨l,e,by rw[a];exact(λz=>nomatch z),by rw[a];exact λ_ z=>nomatch z⟩
 | ex C fs=>cases ho
 | sc ns=>cases ho
 | px d C fs=>cases ho
 | xl es=>cases ho
 | ob C fs=>cases ho
 | ll xss=>obtain⟨l,bs,vss,e,a,r⟩:=h;exact⟨l,e,by rw[a];exact(λz=>nomatch z),by rw[a];exact λ_ z=>nomatch z⟩
 | ds C n w=>obtain⟨l,dx,d1,d2,k1,k2,e,a,r⟩:=h;exact⟨l,e,by rw[a];exact(λz=>nomatch z),by rw[a];exact λ_ z=>nomatch z⟩
theorem x0d (r:Rel K F σ ρ H){a:Addr}(h:c0s σ ρ a):Nt H a:=by
 obtain⟨i,hi,e⟩:=h
 obtain⟨l,e',h'⟩:=(r.sl i).nt hi
 rw[e]at e';injection e' with e';injection e' with e';injection e' with e'
 rw[e'];exact h'
theorem e1s (r:Rel K F σ ρ H){a:Addr}(h:hs F σ ρ a):Nt H a:=by
 rcases h with h | h
 ·exact r.zl a h
 ·exact x0d r h
theorem o0h (r:Rel K F σ ρ H){l:Addr}(h:H l=none):¬hs F σ ρ l:=λz=>e1t r z h
theorem e1x (r:Rel K F σ ρ H){l:Addr}(h:H l=none):F.H0 l=none:=by
 cases h0:F.H0 l with
 | none=>rfl
 | some o =>
  by_cases q:F.M l
  ·exact absurd h (r.ma l q)
  ·have:=r.fr l o h0 q
   rw[h]at this;cases this
theorem Kp.vis (k:Kp σ ρ ρ' H H'):Same (hid H (hs F σ ρ)) (hid H' (hs F σ ρ')):=c0a λa o e n =>
 ⟨k.st a o e λz=>n (.inr z),λz=>by
  rcases z with z | z
  ·exact n (.inl z)
  ·exact n (.inr (k.so z))⟩
theorem y0y {a:Addr}(g:Same H H')(h:H a≠none):H' a≠none:=λe=>by
 cases h':H a with
 | none=>exact h h'
 | some o=>rw[g a o h']at e;cases e
theorem i1w {a:Addr}(g:Same H H')(h:Nt H a):Nt H' a:=by
 cases h':H a with
 | none=>exact(h.1 h').elim
 | some o =>
  have e:=g a o h'
  unfold Nt
  rw[e,<- h'];exact h
theorem Rel.grow (r:Rel K F σ ρ H)(g:Same H H'):Rel K F σ ρ H' where
 len:=r.len
 fr:=λa o e n=>g a o (r.fr a o e n)
 zl:=λa z=>i1w g (r.zl a z)
 zo:=r.zo
 ow:=r.ow
 mi:=r.mi
 ml:=r.ml
 ma:=λa z=>y0y g (r.ma a z)
 nd:=r.nd
 sl:=λi=>(r.sl i).keep (c0a λa o e n=>⟨g a o e,n⟩) λl o _ _ e=>g l o e
theorem Rel.fresh (r:Rel K F σ ρ H){l:Addr}{o:HO}(h:H l=none):Rel K F σ ρ (upd H l o):=r.grow ((Same.refl H).new h)
theorem a1p:∀(ρ:En) (i:Nat) (s:Sv),ρ.length<=i->pt ρ i s=ρ
 | [],_,_,_=>rfl
 | x::r,0,s,h=>by simp at h
 | x::r,i+1,s,h=>by simp[pt,a1p r i s (by simpa using h)]
theorem k0m {i j:Nat}{s:Sv}(hs:s.own=false)(hj:(gt (pt ρ i s) j).own=true):i≠j/\(gt ρ j).own=true:=by
 by_cases ij:i=j
 ·subst ij
  rcases Nat.lt_or_ge i ρ.length with q | q
  ·rw[t0l ρ i s q,hs]at hj;cases hj
  ·rw[p0x _ i (by rw[k0y];exact q)]at hj;cases hj
 ·rw[d0u ρ i j s ij]at hj
  exact⟨ij,hj⟩
theorem Rel.setS (r:Rel K F σ ρ H){i:Nat}{v:V}{s:Sv}(hs':s.own=false)(hd:SvOk K (hid H (hs F σ ρ)) H (some (some v)) s)(hm:∀a,¬F.pin i a):Rel K F (σ.set i (some v)) (pt ρ i s) H:=by
 rcases Nat.lt_or_ge i ρ.length with hi | hi
 case inr =>
  rw[a1p ρ i s hi,List.set_eq_of_length_le (by rw[r.len];exact hi)];exact r
 have sub:∀a,c0s (σ.set i (some v)) (pt ρ i s) a->c0s σ ρ a:=λa ⟨j,hj,e⟩=>by
  obtain⟨ij,hj⟩:=k0m hs' hj
  rw[List.getElem?_set_ne ij]at e
  exact⟨j,hj,e⟩
 have vis:Same (hid H (hs F σ ρ)) (hid H (hs F (σ.set i (some v)) (pt ρ i s))):=c0a λa o e n=>⟨e,λz=>n (z.imp id (sub a))⟩
 refine⟨by rw[List.length_set,k0y,r.len],r.fr,r.zl,λa h=>r.zo a (sub a h),λj a hj e=>?_,λj a h=>?_,r.ml,r.ma,λj k a hj hk ej ek=>?_,λj=>?_⟩
 ·obtain⟨ij,hj⟩:=k0m hs' hj
  rw[List.getElem?_set_ne ij]at e
  exact r.ow j a hj e
 ·have:i≠j:=λe=>hm a (e▸h)
  rw[List.getElem?_set_ne this];exact r.mi j a h
 ·obtain⟨nj,hj⟩:=k0m hs' hj
  obtain⟨nk,hk⟩:=k0m hs' hk
  rw[List.getElem?_set_ne nj]at ej
  rw[List.getElem?_set_ne nk]at ek
  exact r.nd j k a hj hk ej ek
 ·by_cases ij:i=j
  ·subst ij
   rw[t0l ρ i _ hi,List.getElem?_set_self (by rw[r.len];exact hi)]
   exact hd.keep vis λl o ho=>by rw[hs']at ho;cases ho
  ·rw[d0u ρ i j _ ij,List.getElem?_set_ne ij]
   exact(r.sl j).keep vis λl o _ _ e=>e
theorem Rel.set (r:Rel K F σ ρ H){i:Nat}{v:V}{d:D}(hd:RepD K (hid H (hs F σ ρ)) v d)(hm:∀a,¬F.pin i a):Rel K F (σ.set i (some v)) (pt ρ i (.vl d)) H :=
 r.setS rfl ⟨v,rfl,hd⟩ hm
theorem Rel.setF (r:Rel K F σ ρ H){i:Nat}{l:Addr}{o:HO}{s:Sv}(hs':s.own=true)(hd:SvOk K (hid H (hs F σ ρ)) (upd H l o) (some (some (.ref l))) s)(hn:H l=none)(hm:∀a,¬F.pin i a) :
  Rel K F (σ.set i (some (.ref l))) (pt ρ i s) (upd H l o):=by
 have rf:=r.fresh (o:=o) hn
 rcases Nat.lt_or_ge i ρ.length with hi | hi
 case inr =>
  rw[a1p ρ i s hi,List.set_eq_of_length_le (by rw[r.len];exact hi)];exact rf
 have at1:∀ {a},(σ.set i (some (V.ref l)))[i]? = some (some (.ref a))->a=l:=λe=>by
  rw[List.getElem?_set_self (by rw[r.len];exact hi)]at e
  injection e with e;injection e with e;injection e with e
  exact e.symm
 have sub:∀a,c0s (σ.set i (some (.ref l))) (pt ρ i s) a->c0s σ ρ a∨a=l:=λa h=>by
  obtain⟨j,hj,e⟩:=h
  by_cases ij:i=j
  ·subst ij;exact .inr (at1 e)
  ·rw[d0u ρ i j _ ij]at hj
   rw[List.getElem?_set_ne ij]at e
   exact .inl ⟨j,hj,e⟩
 have vis:Same (hid H (hs F σ ρ)) (hid (upd H l o) (hs F (σ.set i (some (.ref l))) (pt ρ i s))):=c0a λa u e n=>by
  have al:=b0y e hn
  refine⟨by rw[b0l al];exact e,λz=>?_⟩
  rcases z with z | z
  ·exact n (.inl z)
  ·rcases sub a z with z | z
   ·exact n (.inr z)
   ·exact al z
 have nol:∀j,(gt ρ j).own=true->σ[j]? ≠ some (some (.ref l)):=λj hj e=>i0e r ⟨j,hj,e⟩ hn
 refine⟨by rw[List.length_set,k0y,r.len],rf.fr,rf.zl,λa h=>?_,λj a hj e=>?_,λj a h=>?_,r.ml,rf.ma,λj k a hj hk ej ek=>?_,λj=>?_⟩
 ·rcases sub a h with h | h
  ·exact r.zo a h
  ·subst h;exact λz=>(r.zl _ z).1 hn
 ·by_cases ij:i=j
  ·subst ij
   rw[at1 e];exact .inr (e1x r hn)
  ·rw[d0u ρ i j _ ij]at hj
   rw[List.getElem?_set_ne ij]at e
   exact r.ow j a hj e
 ·have:i≠j:=λe=>hm a (e▸h)
  rw[List.getElem?_set_ne this];exact r.mi j a h
 ·by_cases nj:i=j
  ·by_cases nk:i=k
   ·omega
   ·subst nj
    have:=at1 ej
    subst this
    rw[d0u ρ i k _ nk]at hk
    rw[List.getElem?_set_ne nk]at ek
    exact absurd ek (nol k hk)
  ·rw[d0u ρ i j _ nj]at hj
   rw[List.getElem?_set_ne nj]at ej
   by_cases nk:i=k
   ·subst nk
    have:=at1 ek
    subst this
    exact absurd ej (nol j hj)
   ·rw[d0u ρ i k _ nk]at hk
    rw[List.getElem?_set_ne nk]at ek
    exact r.nd j k a hj hk ej ek
 ·by_cases ij:i=j
  ·subst ij
   rw[t0l ρ i _ hi,List.getElem?_set_self (by rw[r.len];exact hi)]
   exact hd.keep vis λ_ _ _ _ e=>e
  ·rw[d0u ρ i j _ ij,List.getElem?_set_ne ij]
   exact(r.sl j).keep vis λa o ho e h=>by
    rw[b0l (b0y h hn)];exact h
theorem Rel.write (r:Rel K F σ ρ H){i:Nat}{l:Addr}{o:HO}{s:Sv}(hi:(gt ρ i).own=true)(el:σ[i]? = some (some (.ref l)))(hs':s.own=true)(new:SvOk K (hid H (hs F σ ρ)) (upd H l o) (some (some (.ref l))) s):Rel K F σ (pt ρ i s) (upd H l o)/\Kp σ ρ (pt ρ i s) H (upd H l o):=by
 have lt:=p0r hi
 have own':∀j,(gt (pt ρ i s) j).own=true->(gt ρ j).own=true:=λj h=>by
  by_cases ij:i=j
  ·subst ij;exact hi
  ·rw[d0u ρ i j _ ij]at h;exact h
 have sub:∀a,c0s σ (pt ρ i s) a->c0s σ ρ a:=λa ⟨j,hj,e⟩=>⟨j,own' j hj,e⟩
 have hso:c0s σ ρ l:=⟨i,hi,el⟩
 have vis:Same (hid H (hs F σ ρ)) (hid (upd H l o) (hs F σ (pt ρ i s))):=c0a λa u e n=>by
  have al:a≠l:=λz=>n (.inr (z▸hso))
  exact⟨by rw[b0l al];exact e,λz=>n (z.imp id (sub a))⟩
 have up:∀ {a},H a≠none->(upd H l o) a≠none:=λ{a} h e=>by
  by_cases al:a=l
  ·subst al;rw[c0v]at e;cases e
  ·rw[b0l al]at e;exact h e
 refine⟨⟨by rw[k0y,r.len],λa u e n=>?_,λa z=>l1d (λq=>r.zo l hso (q▸z)) (r.zl a z),λa h=>r.zo a (sub a h),λj a hj e=>r.ow j a (own' j hj) e,r.mi,r.ml,λa z=>up (r.ma a z),λj k a hj hk ej ek=>r.nd j k a (own' j hj) (own' k hk) ej ek,λj=>?_⟩,⟨λa u e n=>?_,own'⟩⟩
 ·have al:a≠l:=λz=>by
   subst z
   rcases r.ow i _ hi el with⟨_,q⟩ | q
   ·exact n q
   ·rw[e]at q;cases q
  rw[b0l al];exact r.fr a u e n
 ·by_cases ij:i=j
  ·subst ij
   rw[t0l ρ i s lt,el]
   exact new.keep vis λ_ _ _ _ e=>e
  ·rw[d0u ρ i j _ ij]
   refine(r.sl j).keep vis λa u ho e h=>?_
   have al:a≠l:=λz=>ij (r.nd i j l hi ho el (z▸e))
   rw[b0l al];exact h
 ·have al:a≠l:=λz=>n (z▸hso)
  rw[b0l al];exact e
theorem Rel.frz (r:Rel K F σ ρ H){i:Nat}{ds:List D}(hi:gt ρ i = .ow ds):∃l,σ[i]? = some (some (.ref l))/\Rel K F σ (pt ρ i (.vl (.lst ds))) H/\Kp σ ρ (pt ρ i (.vl (.lst ds))) H H/\RepD K (hid H (hs F σ (pt ρ i (.vl (.lst ds))))) (.ref l) (.lst ds):=by
 have ho:(gt ρ i).own=true:=by rw[hi];rfl
 have lt:=p0r ho
 have q:=r.sl i
 rw[hi]at q
 obtain⟨l,vs,el,hl,hd⟩:=q
 have own':∀j,(gt (pt ρ i (.vl (.lst ds))) j).own=true->i≠j/\(gt ρ j).own=true:=λj h=>k0m rfl h
 have sub:∀a,c0s σ (pt ρ i (.vl (.lst ds))) a->c0s σ ρ a/\a≠l:=λa ⟨j,hj,e⟩=>by
  obtain⟨ij,hj⟩:=own' j hj
  exact⟨⟨j,hj,e⟩,λz=>ij (r.nd i j l ho hj el (z▸e))⟩
 have vis:Same (hid H (hs F σ ρ)) (hid H (hs F σ (pt ρ i (.vl (.lst ds))))):=c0a λa u e n=>⟨e,λz=>n (z.imp id λz=>(sub a z).1)⟩
 have vl:¬hs F σ (pt ρ i (.vl (.lst ds))) l:=λz=>by
  rcases z with z | z
  ·exact r.zo l ⟨i,ho,el⟩ z
  ·exact(sub l z).2 rfl
 have rd:RepD K (hid H (hs F σ (pt ρ i (.vl (.lst ds))))) (.ref l) (.lst ds):=by
  unfold RepD
  exact⟨l,vs,rfl,m0s vl hl,hd.same vis⟩
 refine⟨l,el,⟨by rw[k0y,r.len],r.fr,r.zl,λa h=>r.zo a (sub a h).1,λj a hj e=>r.ow j a (own' j hj).2 e,r.mi,r.ml,r.ma,λj k a hj hk ej ek=>r.nd j k a (own' j hj).2 (own' k hk).2 ej ek,λj=>?_⟩,⟨λ_ _ e _=>e,λj h=>(own' j h).2⟩,rd⟩
 by_cases ij:i=j
 ·subst ij
  rw[t0l ρ i _ lt,el]
  exact⟨_,rfl,rd⟩
 ·rw[d0u ρ i j _ ij]
  exact(r.sl j).keep vis λa u _ _ h=>h
end
def RelR (K:PySem.W.Frag)(F:Fr)(σ:St)(ρ:En)(v:V)(H:Hp):R->Prop
 | .d d=>Rel K F σ ρ H/\RepD K (hid H (hs F σ ρ)) v d
 | .o i=>Rel K F σ ρ H/\σ[i]? = some (some v)
 | .n s=>∃Hb l o,Rel K F σ ρ Hb/\s.own=true/\SvOk K (hid Hb (hs F σ ρ)) (upd Hb l o) (some (some (.ref l))) s/\Hb l=none/\H=upd Hb l o/\v = .ref l
 | .t n=>Rel K F σ ρ H/\v = .ty n
 | .x s=>Rel K F σ ρ H/\s.own=false/\SvOk K (hid H (hs F σ ρ)) H (some (some v)) s
def Out (K:PySem.W.Frag)(F:Fr)(σ:St)(ρ:En)(H:Hp)(ρ':En)(v:V)(H':Hp):R->Prop
 | .d d=>Rel K F σ ρ' H'/\Kp σ ρ ρ' H H'/\RepD K (hid H' (hs F σ ρ')) v d
 | .o i=>Rel K F σ ρ' H'/\Kp σ ρ ρ' H H'/\σ[i]? = some (some v)
 | .n s=>∃Hb l o,Rel K F σ ρ' Hb/\Kp σ ρ ρ' H Hb/\s.own=true/\SvOk K (hid Hb (hs F σ ρ')) (upd Hb l o) (some (some (.ref l))) s/\Hb l=none/\H'=upd Hb l o/\v = .ref l
 | .t n=>Rel K F σ ρ' H'/\Kp σ ρ ρ' H H'/\v = .ty n
 | .x s=>Rel K F σ ρ' H'/\Kp σ ρ ρ' H H'/\s.own=false/\SvOk K (hid H' (hs F σ ρ')) H' (some (some v)) s
def InF (K:PySem.W.Frag)(F:Fr)(σ:St)(ρ:En)(H:Hp)(v:V):R->Prop
 | .d d=>RepD K (hid H (hs F σ ρ)) v d
 | .o i=>σ[i]? = some (some v)
 | .n _=>True
 | .t n=>v = .ty n
 | .x s=>s.own=false/\SvOk K (hid H (hs F σ ρ)) H (some (some v)) s
def R.frz:R->R
 | .n (.ow ds)=>.d (.lst ds)
 | r=>r
inductive InFs (K:PySem.W.Frag) (F:Fr) (σ:St) (ρ:En) (H:Hp):List V->List R->Prop
 | nil:InFs K F σ ρ H [] []
 | cons {v:V} {r:R} {vs:List V} {rs:List R}:InF K F σ ρ H v r->InFs K F σ ρ H vs rs->InFs K F σ ρ H (v::vs) (r::rs)
def view (ρ:En):R->Option D
 | .d d=>some d
 | .o i=>(match gt ρ i with | .ow ds=>some (.lst ds) | .vl d=>some d | _=>none)
 | _=>none
section
variable {K:PySem.W.Frag}{F:Fr}{σ:St}{ρ ρ':En}{H H':Hp}{v:V}{r:R}
theorem InF.keep (h:InF K F σ ρ H v r)(k:Kp σ ρ ρ' H H'):InF K F σ ρ' H' v r:=by
 cases r with
 | d d=>exact RepD.same h k.vis
 | o i=>exact h
 | n s=>exact h
 | t n=>exact h
 | x s=>exact⟨h.1,h.2.keep k.vis λl o ho=>by rw[h.1]at ho;cases ho⟩
theorem InFs.keep {vs:List V}{rs:List R}(h:InFs K F σ ρ H vs rs)(k:Kp σ ρ ρ' H H'):InFs K F σ ρ' H' vs rs:=by
 induction h with
 | nil=>exact .nil
 | cons a _ ih=>exact .cons (a.keep k) ih
theorem Out.inF (h:Out K F σ ρ H ρ' v H' r):Rel K F σ ρ' H'/\Kp σ ρ ρ' H H'/\InF K F σ ρ' H' v r.frz:=by
 cases r with
 | d d=>exact⟨h.1,h.2.1,h.2.2⟩
 | o i=>exact⟨h.1,h.2.1,h.2.2⟩
 | t n=>exact⟨h.1,h.2.1,h.2.2⟩
 | x s=>exact⟨h.1,h.2.1,h.2.2⟩
 | n s =>
  obtain⟨Hb,l,o,a,k0,hs',b,c,rfl,rfl⟩:=h
  have k:Kp σ ρ' ρ' Hb (upd Hb l o):=Kp.fresh c
  refine⟨a.fresh c,k0.trans k,?_⟩
  cases s with
  | un=>trivial
  | vl d=>trivial
  | tp n=>trivial
  | dk n=>trivial
  | dt n=>trivial
  | ex n m=>trivial
  | sc n=>trivial
  | px n m k=>trivial
  | xl es=>trivial
  | ob _ _=>trivial
  | ll _=>trivial
  | ds _ _ _=>trivial
  | ow ds =>
   obtain⟨l',vs,e,h1,h2⟩:=b
   injection e with e;injection e with e;injection e with e;subst e
   show RepD K _ (.ref l) (.lst ds)
   unfold RepD
   exact⟨l,vs,rfl,m0s (o0h a c) h1,h2.same k.vis⟩
theorem Out.rel (h:Out K F σ ρ H ρ' v H' r):RelR K F σ ρ' v H' r:=by
 cases r with
 | d d=>exact⟨h.1,h.2.2⟩
 | o i=>exact⟨h.1,h.2.2⟩
 | t n=>exact⟨h.1,h.2.2⟩
 | x s=>exact⟨h.1,h.2.2⟩
 | n s =>
  obtain⟨Hb,l,o,a,k0,hs',b,c,e1,e2⟩:=h
  exact⟨Hb,l,o,a,hs',b,c,e1,e2⟩
theorem Out.after {ρ1:En}{H1:Hp}(k:Kp σ ρ ρ1 H H1)(h:Out K F σ ρ1 H1 ρ' v H' r):Out K F σ ρ H ρ' v H' r:=by
 cases r with
 | d d=>exact⟨h.1,k.trans h.2.1,h.2.2⟩
 | o i=>exact⟨h.1,k.trans h.2.1,h.2.2⟩
 | t n=>exact⟨h.1,k.trans h.2.1,h.2.2⟩
 | x s=>exact⟨h.1,k.trans h.2.1,h.2.2⟩
 | n s =>
  obtain⟨Hb,l,o,a,k0,hs',b,c,e1,e2⟩:=h
  exact⟨Hb,l,o,a,k.trans k0,hs',b,c,e1,e2⟩
theorem f0f {d:D}(a:Rel K F σ ρ H)(h:InF K F σ ρ H v r)(e:view ρ r=some d):RepD K H v d:=by
 cases r with
 | d d'=>injection e with e;subst e;exact RepD.same h d0c
 | t n=>cases e
 | x s=>cases e
 | n s=>cases e
 | o i =>
  have q:=a.sl i
  unfold view at e
  cases hg:gt ρ i with
  | un=>simp[hg]at e
  | tp n=>simp[hg]at e
  | dk n=>simp[hg]at e
  | dt n=>simp[hg]at e
  | ex n m=>simp[hg]at e
  | sc n=>simp[hg]at e
  | px n m k=>simp[hg]at e
  | xl es=>simp[hg]at e
  | ob _ _=>simp[hg]at e
  | ll _=>simp[hg]at e
  | ds _ _ _=>simp[hg]at e
  | vl d' =>
   simp[hg]at e
   subst e
   rw[hg]at q
   obtain⟨x,e1,r1⟩:=q
   rw[show σ[i]? = _ from h]at e1
   injection e1 with e1;injection e1 with e1;subst e1
   exact r1.same d0c
  | ow ds =>
   simp[hg]at e
   subst e
   rw[hg]at q
   obtain⟨l,vs,e1,r1,r2⟩:=q
   rw[show σ[i]? = _ from h]at e1
   injection e1 with e1;injection e1 with e1;subst e1
   unfold RepD
   exact⟨l,vs,rfl,r1,r2.same d0c⟩
theorem c0u {ds:List D}(a:Rel K F σ ρ H)(h:InF K F σ ρ H v r)(e:view ρ r=some (.lst ds)):∃l vs,v = .ref l/\SqL K H l vs/\RepDs K (hid H (hs F σ ρ)) vs ds:=by
 cases r with
 | d d' =>
  injection e with e;subst e
  have h':RepD K _ v (.lst ds):=h
  unfold RepD at h'
  obtain⟨l,vs,e,q,r⟩:=h'
  exact⟨l,vs,e,d0c.seq (StL.sq q),r⟩
 | t n=>cases e
 | x s=>cases e
 | n s=>cases e
 | o i =>
  have q:=a.sl i
  unfold view at e
  cases hg:gt ρ i with
  | un=>simp[hg]at e
  | tp n=>simp[hg]at e
  | dk n=>simp[hg]at e
  | dt n=>simp[hg]at e
  | ex n m=>simp[hg]at e
  | sc n=>simp[hg]at e
  | px n m k=>simp[hg]at e
  | xl es=>simp[hg]at e
  | ob _ _=>simp[hg]at e
  | ll _=>simp[hg]at e
  | ds _ _ _=>simp[hg]at e
  | vl d' =>
   simp[hg]at e
   subst e
   rw[hg]at q
   obtain⟨x,e1,r1⟩:=q
   rw[show σ[i]? = _ from h]at e1
   injection e1 with e1;injection e1 with e1;subst e1
   unfold RepD at r1
   obtain⟨l,vs,e,q,r⟩:=r1
   exact⟨l,vs,e,d0c.seq (StL.sq q),r⟩
  | ow ds =>
   simp[hg]at e
   subst e
   rw[hg]at q
   obtain⟨l,vs,e1,r1,r2⟩:=q
   rw[show σ[i]? = _ from h]at e1
   injection e1 with e1;injection e1 with e1;subst e1
   exact⟨l,vs,rfl,SqL.of r1,r2⟩
theorem j0k {ds:List D}(a:Rel K F σ ρ H)(h:InF K F σ ρ H v r)(e:view ρ r=some (.tup ds)):∃l vs,v = .ref l/\SqT K H l vs/\RepDs K (hid H (hs F σ ρ)) vs ds/\StT (hid H (hs F σ ρ)) l vs:=by
 have go:∀ {x:V},RepD K (hid H (hs F σ ρ)) x (.tup ds)->∃l vs,x = .ref l/\SqT K H l vs/\RepDs K (hid H (hs F σ ρ)) vs ds/\StT (hid H (hs F σ ρ)) l vs:=λh'=>by
  unfold RepD at h'
  obtain⟨l,vs,e,q,r⟩:=h'
  exact⟨l,vs,e,d0c.seqT q.sq,r,q⟩
 cases r with
 | d d'=>injection e with e;subst e;exact go h
 | t n=>cases e
 | x s=>cases e
 | n s=>cases e
 | o i =>
  have q:=a.sl i
  unfold view at e
  cases hg:gt ρ i with
  | un=>simp[hg]at e
  | tp n=>simp[hg]at e
  | dk n=>simp[hg]at e
  | dt n=>simp[hg]at e
  | ex n m=>simp[hg]at e
  | sc n=>simp[hg]at e
  | px n m k=>simp[hg]at e
  | xl es=>simp[hg]at e
  | ob _ _=>simp[hg]at e
  | ll _=>simp[hg]at e
  | ds _ _ _=>simp[hg]at e
  | ow ds'=>simp[hg]at e
  | vl d' =>
   simp[hg]at e
   subst e
   rw[hg]at q
   obtain⟨x,e1,r1⟩:=q
   rw[show σ[i]? = _ from h]at e1
   injection e1 with e1;injection e1 with e1;subst e1
   exact go r1
end
abbrev Ko:=R->En->Prop
abbrev AE:=En->Ko->Prop
abbrev AT:=En->(Bool->En->Prop)->Prop
abbrev AA:=En->(List R->En->Prop)->Prop
structure u0n where
 nx:En->Prop
 rt:R->En->Prop
 bk:En->Prop
 ct:En->Prop
abbrev AS:=u0n->En->Prop
def Beh (K:PySem.W.Frag)(F:Fr)(σ:St)(ρ:En)(H:Hp)(q:Ko)(Q:VK):Prop:=∀r ρ' v H',q r ρ'->Out K F σ ρ H ρ' v H' r->Q v H'
def TEok (K:PySem.W.Frag)(t:TE)(a:AE):Prop:=∀F σ ρ H q Q,Rel K F σ ρ H->a ρ q->Beh K F σ ρ H q Q->t σ H Q
def TTok (K:PySem.W.Frag)(t:TT)(a:AT):Prop:=∀F σ ρ H q Q,Rel K F σ ρ H->a ρ q->(∀b ρ' H',q b ρ'->Rel K F σ ρ' H'->Kp σ ρ ρ' H H'->Q b H')->t σ H Q
def TAok (K:PySem.W.Frag)(t:TA)(a:AA):Prop:=∀F σ ρ H q Q,Rel K F σ ρ H->a ρ q->(∀rs ρ' vs H',q rs ρ'->Rel K F σ ρ' H'->InFs K F σ ρ' H' vs rs->Kp σ ρ ρ' H H'->Q vs H')->t σ H Q
def OpOk (K:PySem.W.Frag)(r:R2)(g:R->R->AE):Prop:=∀F σ ρ H x y r1 r2 q Q,Rel K F σ ρ H->InF K F σ ρ H x r1->InF K F σ ρ H y r2->g r1 r2 ρ q->Beh K F σ ρ H q Q->r x y H Q
def CbOk (K:PySem.W.Frag)(r:List V->Hp->VK->Prop)(g:List R->AE):Prop:=∀F σ ρ H vs rs q Q,Rel K F σ ρ H->InFs K F σ ρ H vs rs->g rs ρ q->Beh K F σ ρ H q Q->r vs H Q
section
variable {K:PySem.W.Frag}{F:Fr}{σ:St}{ρ ρ':En}{H H':Hp}{v:V}{r:R}{q:Ko}{Q:VK}
theorem Beh.dat (b:Beh K F σ ρ H q Q)(a:Rel K F σ ρ H){d:D}(hq:q (.d d) ρ)(h:RepD K (hid H (hs F σ ρ)) v d):Q v H:=b (.d d) ρ v H hq ⟨a,.refl,h⟩
theorem Beh.int (b:Beh K F σ ρ H q Q)(a:Rel K F σ ρ H){i:Int}(hq:q (.d (.int i)) ρ):Q (.int i) H:=b.dat a hq (by unfold RepD;rfl)
theorem Beh.bl (b:Beh K F σ ρ H q Q)(a:Rel K F σ ρ H){i:Bool}(hq:q (.d (.bl i)) ρ):Q (.bl i) H:=b.dat a hq (by unfold RepD;rfl)
theorem Beh.non (b:Beh K F σ ρ H q Q)(a:Rel K F σ ρ H)(hq:q (.d .non) ρ):Q .non H:=b.dat a hq (by unfold RepD;rfl)
theorem Beh.str (b:Beh K F σ ρ H q Q)(a:Rel K F σ ρ H){x:Str}(hq:q (.d (.str x)) ρ):Q (.str x) H:=b.dat a hq (by unfold RepD;rfl)
theorem Beh.new (b:Beh K F σ ρ H q Q)(a:Rel K F σ ρ H){ds:List D}{vs:List V}{l:Addr}(hq:q (.f ds) ρ)(hd:RepDs K (hid H (hs F σ ρ)) vs ds)(hl:H l=none):Q (.ref l) (upd H l (.lst vs)) :=
 b (.f ds) ρ _ _ hq ⟨H,l,_,a,.refl,rfl,⟨l,vs,rfl,c0v,hd⟩,hl,rfl,rfl⟩
theorem Beh.newT (b:Beh K F σ ρ H q Q)(a:Rel K F σ ρ H){ds:List D}{vs:List V}{l:Addr}(hq:q (.d (.tup ds)) ρ)(hd:RepDs K (hid H (hs F σ ρ)) vs ds)(hl:H l=none):Q (.ref l) (upd H l (.tup vs)):=by
 have k:Kp σ ρ ρ H (upd H l (.tup vs)):=Kp.fresh hl
 refine b (.d (.tup ds)) ρ _ _ hq ⟨a.fresh hl,k,?_⟩
 unfold RepD
 exact⟨l,vs,rfl,(m0s (o0h a hl) c0v),hd.same k.vis⟩
theorem Beh.after {ρ1:En}{H1:Hp}(b:Beh K F σ ρ H q Q)(k:Kp σ ρ ρ1 H H1):Beh K F σ ρ1 H1 q Q:=λr ρ' v H' hq h=>b r ρ' v H' hq (.after k h)
def aVar (i:Nat):AE:=λρ q=>match gt ρ i with
 | .un=>False
 | .vl d=>q (.d d) ρ
 | .ow _=>q (.o i) ρ
 | .tp _=>q (.o i) ρ
 | .dk _=>q (.o i) ρ
 | .dt _=>q (.o i) ρ
 | .ex _ _=>q (.o i) ρ
 | .sc _=>q (.o i) ρ
 | .px _ _ _=>q (.o i) ρ
 | .xl _=>q (.o i) ρ
 | .ob _ _=>q (.o i) ρ
 | .ll _=>q (.o i) ρ
 | .ds _ _ _=>q (.o i) ρ
theorem a0b {i:Nat}:TEok K (tVar i) (aVar i):=by
 intro F σ ρ H q Q a h b
 have s:=a.sl i
 unfold aVar at h
 cases hg:gt ρ i with
 | un=>rw[hg]at h;exact h.elim
 | vl d =>
  rw[hg]at h s
  obtain⟨x,e,r⟩:=s
  exact⟨x,e,b _ _ _ _ h ⟨a,.refl,r⟩⟩
 | ow ds =>
  rw[hg]at h s
  obtain⟨l,vs,e,_⟩:=s
  exact⟨_,e,b _ _ _ _ h ⟨a,.refl,e⟩⟩
 | tp n =>
  rw[hg]at h s
  obtain⟨l,c,ns,sp,lf,e,_⟩:=s
  exact⟨_,e,b _ _ _ _ h ⟨a,.refl,e⟩⟩
 | dk kvs =>
  rw[hg]at h s
  obtain⟨l,ks,e,_⟩:=s
  exact⟨_,e,b _ _ _ _ h ⟨a,.refl,e⟩⟩
 | dt kvs =>
  rw[hg]at h s
  obtain⟨l,ks,e,_⟩:=s
  exact⟨_,e,b _ _ _ _ h ⟨a,.refl,e⟩⟩
 | ex C fs =>
  rw[hg]at h s
  obtain⟨l,ks,e,_⟩:=s
  exact⟨_,e,b _ _ _ _ h ⟨a,.refl,e⟩⟩
 | sc ns =>
  rw[hg]at h s
  obtain⟨l,e,_⟩:=s
  exact⟨_,e,b _ _ _ _ h ⟨a,.refl,e⟩⟩
 | xl es =>
  rw[hg]at h s
  obtain⟨l,ks,e,_⟩:=s
  exact⟨_,e,b _ _ _ _ h ⟨a,.refl,e⟩⟩
 | ob C fs =>
  rw[hg]at h s
  obtain⟨l,_,_,e,_⟩:=s
  exact⟨_,e,b _ _ _ _ h ⟨a,.refl,e⟩⟩
 | ll xss =>
  rw[hg]at h s
  obtain⟨l,_,_,e,_⟩:=s
  exact⟨_,e,b _ _ _ _ h ⟨a,.refl,e⟩⟩
 | ds C n w =>
  rw[hg]at h s
  obtain⟨l,_,_,_,_,_,e,_⟩:=s
  exact⟨_,e,b _ _ _ _ h ⟨a,.refl,e⟩⟩
 | px d C fs =>
  rw[hg]at h s
  obtain⟨l,x,e',od,e,_⟩:=s
  exact⟨_,e,b _ _ _ _ h ⟨a,.refl,e⟩⟩
def aC (r:R):AE:=λρ q=>q r ρ
theorem a0g {i:Int}:TEok K (tC (.int i)) (aC (.d (.int i))):=λ_ _ _ _ _ _ a h b=>b.int a h
theorem g0c {i:Bool}:TEok K (tC (.bl i)) (aC (.d (.bl i))):=λ_ _ _ _ _ _ a h b=>b.bl a h
theorem d0o {i:Str}:TEok K (tC (.str i)) (aC (.d (.str i))):=λ_ _ _ _ _ _ a h b=>b.str a h
theorem g0q:TEok K (tC .non) (aC (.d .non)):=λ_ _ _ _ _ _ a h b=>b.non a h
theorem i0p {n:String}:TEok K (tC (.ty n)) (aC (.t n)):=λ_ _ _ _ _ _ a h b=>b _ _ _ _ h ⟨a,.refl,rfl⟩
def aOp (g:R->R->AE)(a b:AE):AE:=λρ q=>a ρ λr1 ρ1=>b ρ1 λr2 ρ2=>g r1.frz r2.frz ρ2 q
variable {t t' ta tb tc:TE}{a b c:AE}{rr:R2}{g:R->R->AE}
theorem a0h (ho:OpOk K rr g)(ha:TEok K ta a)(hb:TEok K tb b):TEok K (tOp rr ta tb) (aOp g a b):=by
 intro F σ ρ H q Q r h k
 refine ha F σ ρ H _ _ r h λr1 ρ1 x H1 h1 rel1=>?_
 obtain⟨r',k1,i1⟩:=rel1.inF
 refine hb F σ ρ1 H1 _ _ r' h1 λr2 ρ2 y H2 h2 rel2=>?_
 obtain⟨r'',k2,i2⟩:=rel2.inF
 exact ho F σ ρ2 H2 x y _ _ q Q r'' (i1.keep k2) i2 h2 (k.after (k1.trans k2))
def aUn (g:R->AE)(a:AE):AE:=λρ q=>a ρ λr1 ρ1=>g r1.frz ρ1 q
def gI (C:Int->Int->Prop)(f:Int->Int->D):R->R->AE:=λr1 r2 ρ q=>match r1,r2 with
 | .d (.int i),.d (.int j)=>C i j/\q (.d (f i j)) ρ
 | _,_=>False
theorem l1x {C:Int->Int->Prop}{f:Int->Int->D}{r1 r2:R}(h:gI C f r1 r2 ρ q):∃i j,r1 = .d (.int i)/\r2 = .d (.int j)/\C i j/\q (.d (f i j)) ρ:=by
 unfold gI at h
 split at h
 ·exact⟨_,_,rfl,rfl,h⟩
 ·exact h.elim
theorem InF.int {i:Int}(h:InF K F σ ρ H v (.d (.int i))):v = .int i:=by
 unfold InF RepD at h;exact h
theorem InF.blv {i:Bool}(h:InF K F σ ρ H v (.d (.bl i))):v = .bl i:=by
 unfold InF RepD at h;exact h
theorem e0y {C:Int->Int->Prop}{f:Int->Int->Int}:OpOk K (rI C λi j=>.int (f i j)) (gI C λi j=>.int (f i j)):=by
 intro F σ ρ H x y r1 r2 q Q a h1 h2 h b
 obtain⟨i,j,rfl,rfl,c,h⟩:=l1x h
 exact⟨i,j,h1.int,h2.int,c,b.int a h⟩
def gI0 (f:Int->Int->D):R->R->AE:=λr1 r2 ρ q=>match r1,r2 with
 | .d (.int i),.d (.int j)=>q (.d (f i j)) ρ
 | _,_=>False
theorem c1a {f:Int->Int->D}{r1 r2:R}(h:gI0 f r1 r2 ρ q):∃i j,r1 = .d (.int i)/\r2 = .d (.int j)/\q (.d (f i j)) ρ:=by
 unfold gI0 at h
 split at h
 ·exact⟨_,_,rfl,rfl,h⟩
 ·exact h.elim
theorem a0w {f:Int->Int->Int}:OpOk K (rI0 λi j=>.int (f i j)) (gI0 λi j=>.int (f i j)):=by
 intro F σ ρ H x y r1 r2 q Q a h1 h2 h b
 obtain⟨i,j,rfl,rfl,h⟩:=c1a h
 exact⟨i,j,h1.int,h2.int,b.int a h⟩
theorem c0i {f:Int->Int->Bool}:OpOk K (rI0 λi j=>.bl (f i j)) (gI0 λi j=>.bl (f i j)):=by
 intro F σ ρ H x y r1 r2 q Q a h1 h2 h b
 obtain⟨i,j,rfl,rfl,h⟩:=c1a h
 exact⟨i,j,h1.int,h2.int,b.bl a h⟩
@[irreducible] def gEq (neg:Bool):R->R->AE:=λr1 r2 ρ q=>match view ρ r1,view ρ r2 with
 | some d,some e=>d.depth<=60/\q (.d (.bl (if neg then !eqD d e else eqD d e))) ρ
 | _,_=>False
theorem c1b {neg:Bool}{r1 r2:R}(h:gEq neg r1 r2 ρ q):∃d e,view ρ r1=some d/\view ρ r2=some e/\d.depth<=60/\q (.d (.bl (if neg then !eqD d e else eqD d e))) ρ:=by
 unfold gEq at h
 split at h
 ·rename_i d e h1 h2;exact⟨d,e,h1,h2,h⟩
 ·exact h.elim
theorem c0f:OpOk K (rEqD K) (gEq false):=by
 intro F σ ρ H x y r1 r2 q Q a h1 h2 h b
 obtain⟨d,e,e1,e2,c,h⟩:=c1b h
 exact⟨d,e,f0f a h1 e1,f0f a h2 e2,c,b.bl a h⟩
theorem k0d:OpOk K (rNeD K) (gEq true):=by
 intro F σ ρ H x y r1 r2 q Q a h1 h2 h b
 obtain⟨d,e,e1,e2,c,h⟩:=c1b h
 exact⟨d,e,f0f a h1 e1,f0f a h2 e2,c,b.bl a h⟩
@[irreducible] def gIx:R->R->AE:=λr1 r2 ρ q=>match view ρ r1,r2 with
 | some (.lst ds),.d (.int i)=>(match atI ds i with | some d=>q (.d d) ρ | none=>False)
 | some (.tup ds),.d (.int i)=>(match atI ds i with | some d=>q (.d d) ρ | none=>False)
 | _,_=>False
theorem d1a {Hh:Hp}{vs:List V}{ds:List D}{i:Int}{d:D}(h:RepDs K Hh vs ds)(e:atI ds i=some d):∃v,atI vs i=some v/\RepD K Hh v d:=by
 unfold atI at e ⊢
 rw[h.length]
 cases hx:ixN ds.length i with
 | none=>rw[hx]at e;cases e
 | some j =>
  rw[hx]at e
  exact h.get e
theorem b0p:OpOk K (rIx K) gIx:=by
 intro F σ ρ H x y r1 r2 q Q a h1 h2 h b
 unfold gIx at h
 split at h
 ·rename_i ds i e1
  split at h
  ·rename_i d e
   obtain⟨l,vs,rfl,sq,rd⟩:=c0u a h1 e1
   obtain⟨v,e2,rv⟩:=d1a rd e
   exact .inl ⟨l,vs,i,v,rfl,h2.int,sq,e2,b.dat a h rv⟩
  ·exact h.elim
 ·rename_i ds i e1
  split at h
  ·rename_i d e
   obtain⟨l,vs,rfl,sq,rd,_⟩:=j0k a h1 e1
   obtain⟨v,e2,rv⟩:=d1a rd e
   exact .inr (.inl ⟨l,vs,i,v,rfl,h2.int,sq,e2,b.dat a h rv⟩)
  ·exact h.elim
 ·exact h.elim
def n1w (a b:AE):AE:=λρ q=>a ρ λr ρ1=>match r with
 | .d (.bl c)=>if c=true then b ρ1 q else q (.d (.bl false)) ρ1
 | _=>False
def n1r (a:AE):AE:=λρ q=>a ρ λr ρ1=>match r with
 | .d (.bl c)=>q (.d (.bl (!c))) ρ1
 | _=>False
theorem f0q (ha:TEok K ta a)(hb:TEok K tb b):TEok K (k1g ta tb) (n1w a b):=by
 intro F σ ρ H q Q r h k
 refine ha F σ ρ H _ _ r h λr1 ρ1 x H1 h1 rel1=>?_
 split at h1
 ·rename_i c
  obtain⟨r',k1,i1⟩:=rel1.inF
  refine⟨c,i1.blv,?_⟩
  cases c with
  | true=>exact hb F σ ρ1 H1 q Q r' h1 (k.after k1)
  | false=>exact(k.after k1).bl r' h1
 ·exact h1.elim
theorem w0q (ha:TEok K ta a):TEok K (k1e ta) (n1r a):=by
 intro F σ ρ H q Q r h k
 refine ha F σ ρ H _ _ r h λr1 ρ1 x H1 h1 rel1=>?_
 split at h1
 ·rename_i c
  obtain⟨r',k1,i1⟩:=rel1.inF
  exact⟨c,i1.blv,(k.after k1).bl r' h1⟩
 ·exact h1.elim
variable {tt tu:TT}{at' au:AT}
def aB (a:AE):AT:=λρ q=>a ρ λr ρ1=>match r with
 | .d (.bl c)=>q c ρ1
 | _=>False
theorem f0s (ha:TEok K ta a):TTok K (tB ta) (aB a):=by
 intro F σ ρ H q Q r h k
 refine ha F σ ρ H _ _ r h λr1 ρ1 x H1 h1 rel1=>?_
 split at h1
 ·rename_i c
  obtain⟨r',k1,i1⟩:=rel1.inF
  exact⟨c,i1.blv,k _ _ _ h1 r' k1⟩
 ·exact h1.elim
theorem a0o (ha:TEok K ta a):TTok K (k1c ta) (aB a):=f0s ha
def aAnd (a b:AT):AT:=λρ q=>a ρ λc ρ1=>if c=true then b ρ1 q else q false ρ1
def aOr (a b:AT):AT:=λρ q=>a ρ λc ρ1=>if c=true then q true ρ1 else b ρ1 q
def aNot (a:AT):AT:=λρ q=>a ρ λc ρ1=>q (!c) ρ1
theorem g0z (ha:TTok K tt at')(hb:TTok K tu au):TTok K (tAnd tt tu) (aAnd at' au):=by
 intro F σ ρ H q Q r h k
 refine ha F σ ρ H _ _ r h λc ρ1 H1 h1 r1 k1=>?_
 cases c with
 | true=>exact hb F σ ρ1 H1 q Q r1 h1 λb ρ2 H2 h2 r2 k2=>k _ _ _ h2 r2 (k1.trans k2)
 | false=>exact k _ _ _ h1 r1 k1
theorem d0x (ha:TTok K tt at')(hb:TTok K tu au):TTok K (tOr tt tu) (aOr at' au):=by
 intro F σ ρ H q Q r h k
 refine ha F σ ρ H _ _ r h λc ρ1 H1 h1 r1 k1=>?_
 cases c with
 | true=>exact k _ _ _ h1 r1 k1
 | false=>exact hb F σ ρ1 H1 q Q r1 h1 λb ρ2 H2 h2 r2 k2=>k _ _ _ h2 r2 (k1.trans k2)
theorem c0r (ha:TTok K tt at'):TTok K (tNot tt) (aNot at'):=λF σ ρ H q Q r h k=>ha F σ ρ H _ _ r h λc ρ1 H1 h1 r1 k1=>k _ _ _ h1 r1 k1
def truD:D->Bool
 | .non=>false
 | .bl b=>b
 | .int i=>i != 0
 | .str _=>true
 | .tup ds=>!ds.isEmpty
 | .lst ds=>!ds.isEmpty
def aTru (a:AE):AT:=λρ q=>a ρ λr ρ1=>match view ρ1 r.frz with
 | some (.str _)=>False
 | some d=>q (truD d) ρ1
 | none=>False
theorem o0c {Hh:Hp}{vs:List V}{ds:List D}(h:RepDs K Hh vs ds):vs.isEmpty=ds.isEmpty:=by
 have:=h.length
 cases vs <;> cases ds <;> simp_all
theorem j0l (ha:TEok K ta a):TTok K (λσ H Q=>ta σ H λx H'=>∃k,TruV K x H' k/\Q k H') (aTru a):=by
 intro F σ ρ H q Q r h k
 refine ha F σ ρ H _ _ r h λr1 ρ1 x H1 h1 rel1=>?_
 obtain⟨r',k1,i1⟩:=rel1.inF
 cases e:view ρ1 r1.frz with
 | none=>rw[e]at h1;exact h1.elim
 | some d =>
  rw[e]at h1
  have rd:=f0f r' i1 e
  cases d with
  | str x=>exact h1.elim
  | non=>unfold RepD at rd;subst rd;exact⟨_,rfl,k _ _ _ h1 r' k1⟩
  | bl b=>unfold RepD at rd;subst rd;exact⟨_,rfl,k _ _ _ h1 r' k1⟩
  | int b=>unfold RepD at rd;subst rd;exact⟨_,rfl,k _ _ _ h1 r' k1⟩
  | tup ds =>
   unfold RepD at rd
   obtain⟨p,vs,rfl,sq,rr⟩:=rd
   exact⟨_,.inr (.inl ⟨vs,sq,by rw[o0c rr];rfl⟩),k _ _ _ h1 r' k1⟩
  | lst ds =>
   unfold RepD at rd
   obtain⟨p,vs,rfl,sq,rr⟩:=rd
   exact⟨_,.inl ⟨vs,sq,by rw[o0c rr];rfl⟩,k _ _ _ h1 r' k1⟩
def aIf (c:AT)(a b:AE):AE:=λρ q=>c ρ λk ρ1=>if k=true then a ρ1 q else b ρ1 q
theorem k1a (hc:TTok K tt at')(ha:TEok K ta a)(hb:TEok K tb b):TEok K (tIf tt ta tb) (aIf at' a b):=by
 intro F σ ρ H q Q r h k
 refine hc F σ ρ H _ _ r h λc ρ1 H1 h1 r1 k1=>?_
 cases c with
 | true=>exact ha F σ ρ1 H1 q Q r1 h1 (k.after k1)
 | false=>exact hb F σ ρ1 H1 q Q r1 h1 (k.after k1)
variable {ts:TA}{as:AA}
def aNil:AA:=λρ q=>q [] ρ
def j1l (a:AE)(as:AA):AA:=λρ q=>a ρ λr ρ1=>as ρ1 λrs ρ2=>q (r.frz::rs) ρ2
theorem a0d:TAok K tNil aNil:=λF σ ρ H q Q r h k=>k _ _ _ _ h r .nil .refl
theorem a0a (ha:TEok K ta a)(hs:TAok K ts as):TAok K (h1h ta ts) (j1l a as):=by
 intro F σ ρ H q Q r h k
 refine ha F σ ρ H _ _ r h λr1 ρ1 x H1 h1 rel1=>?_
 obtain⟨r',k1,i1⟩:=rel1.inF
 refine hs F σ ρ1 H1 _ _ r' h1 λrs ρ2 vs H2 h2 r2 i2 k2=>?_
 exact k _ _ _ _ h2 r2 (.cons (i1.keep k2) i2) (k1.trans k2)
def sto:List R->En->(List D->En->Prop)->Prop
 | [],ρ,q=>q [] ρ
 | .d d::rs,ρ,q=>sto rs ρ λds ρ'=>q (d::ds) ρ'
 | .o i::rs,ρ,q=>(match gt ρ i with
  | .ow ds=>sto rs (pt ρ i (.vl (.lst ds))) λes ρ'=>q (.lst ds::es) ρ'
  | .vl d=>sto rs ρ λes ρ'=>q (d::es) ρ'
  | _=>False)
 | _::_,_,_=>False
theorem m0g:∀ {vs:List V} {rs:List R} {ρ:En} {q:List D->En->Prop},Rel K F σ ρ H->InFs K F σ ρ H vs rs->sto rs ρ q->∃ds ρ',q ds ρ'/\Rel K F σ ρ' H/\Kp σ ρ ρ' H H/\RepDs K (hid H (hs F σ ρ')) vs ds
 | _,_,ρ,q,r,.nil,h=>⟨[],ρ,h,r,.refl,.nil⟩
 | _,_,ρ,q,r,.cons (v:=v) (r:=rr) (vs:=vs) (rs:=rs) a t,h=>by
  cases rr with
  | n s=>exact h.elim
  | t n=>exact h.elim
  | x s=>exact h.elim
  | d d =>
   obtain⟨ds,ρ',hq,r',k,rd⟩:=m0g r t (show sto rs ρ _ from h)
   exact⟨d::ds,ρ',hq,r',k,.cons (RepD.same a k.vis) rd⟩
  | o i =>
   have s:=r.sl i
   unfold sto at h
   cases hg:gt ρ i with
   | un=>rw[hg]at h;exact h.elim
   | tp n=>rw[hg]at h;exact h.elim
   | dk n=>rw[hg]at h;exact h.elim
   | dt n=>rw[hg]at h;exact h.elim
   | ex n m=>rw[hg]at h;exact h.elim
   | sc n=>rw[hg]at h;exact h.elim
   | px n m k=>rw[hg]at h;exact h.elim
   | xl es=>rw[hg]at h;exact h.elim
   | ob _ _=>rw[hg]at h;exact h.elim
   | ll _=>rw[hg]at h;exact h.elim
   | ds _ _ _=>rw[hg]at h;exact h.elim
   | vl d =>
    rw[hg]at h s
    obtain⟨x,e,rd1⟩:=s
    rw[show σ[i]? = _ from a]at e
    injection e with e;injection e with e;subst e
    obtain⟨ds,ρ',hq,r',k,rd⟩:=m0g r t h
    exact⟨d::ds,ρ',hq,r',k,.cons (rd1.same k.vis) rd⟩
   | ow ds =>
    rw[hg]at h
    obtain⟨l,e,r1,k1,rd1⟩:=r.frz hg
    rw[show σ[i]? = _ from a]at e
    injection e with e;injection e with e;subst e
    obtain⟨es,ρ',hq,r',k,rd⟩:=m0g r1 (t.keep k1) h
    exact⟨_,ρ',hq,r',k1.trans k,.cons (rd1.same k.vis) rd⟩
theorem small {n:Nat}(h:n<=1000000):n<=sizeLine:=by unfold sizeLine;omega
theorem a1e {n:Nat}(h:n<=1000000):n<sizeLine:=by unfold sizeLine;omega
def aTup (as:AA):AE:=λρ q=>as ρ λrs ρ1=>sto rs ρ1 λds ρ2=>ds.length<=1000000/\q (.d (.tup ds)) ρ2
def aLst (as:AA):AE:=λρ q=>as ρ λrs ρ1=>sto rs ρ1 λds ρ2=>ds.length<=1000000/\q (.f ds) ρ2
theorem c0l (hs:TAok K ts as):TEok K (tTup ts) (aTup as):=by
 intro F σ ρ H q Q r h k
 refine hs F σ ρ H _ _ r h λrs ρ1 vs H1 h1 r1 i1 k1=>?_
 obtain⟨ds,ρ2,⟨hz,hq⟩,r2,k2,rd⟩:=m0g r1 i1 h1
 exact⟨small (by rw[rd.length];exact hz),λp hp=>((k.after k1).after k2).newT r2 hq rd hp⟩
theorem b0i (hs:TAok K ts as):TEok K (tLst ts) (aLst as):=by
 intro F σ ρ H q Q r h k
 refine hs F σ ρ H _ _ r h λrs ρ1 vs H1 h1 r1 i1 k1=>?_
 obtain⟨ds,ρ2,⟨hz,hq⟩,r2,k2,rd⟩:=m0g r1 i1 h1
 exact⟨small (by rw[rd.length];exact hz),λp hp=>((k.after k1).after k2).new r2 hq rd hp⟩
def aCB (g:List R->AE)(as:AA):AE:=λρ q=>as ρ λrs ρ1=>g rs ρ1 q
theorem b0f {rb:List V->Hp->VK->Prop}{g:List R->AE}(hb:CbOk K rb g)(hs:TAok K ts as):TEok K (tCB rb ts) (aCB g as):=by
 intro F σ ρ H q Q r h k
 exact hs F σ ρ H _ _ r h λrs ρ1 vs H1 h1 r1 i1 k1=>hb F σ ρ1 H1 vs rs q Q r1 i1 h1 (k.after k1)
theorem InFs.one {vs:List V}{r1:R}(h:InFs K F σ ρ H vs [r1]):∃x,vs=[x]/\InF K F σ ρ H x r1:=by
 cases h with | cons a t=>cases t;exact⟨_,rfl,a⟩
theorem InFs.two {vs:List V}{r1 r2:R}(h:InFs K F σ ρ H vs [r1,r2]):∃x y,vs=[x,y]/\InF K F σ ρ H x r1/\InF K F σ ρ H y r2:=by
 cases h with | cons a t=>obtain⟨y,rfl,b⟩:=t.one;exact⟨_,_,rfl,a,b⟩
def gLen:List R->AE:=λrs ρ q=>match rs with
 | [r]=>(match view ρ r with
  | some (.lst ds)=>q (.d (.int ds.length)) ρ
  | some (.tup ds)=>q (.d (.int ds.length)) ρ
  | _=>False)
 | _=>False
theorem b0q:CbOk K (λxs H Q=>∃p ys,xs=[.ref p]/\(SqL K H p ys∨SqT K H p ys)/\Q (.int ys.length) H) gLen:=by
 intro F σ ρ H vs rs q Q a i h b
 unfold gLen at h
 split at h
 ·obtain⟨x,rfl,i1⟩:=i.one
  split at h
  ·rename_i ds e
   obtain⟨l,vs,rfl,sq,rd⟩:=c0u a i1 e
   exact⟨l,vs,rfl,.inl sq,by rw[rd.length];exact b.int a h⟩
  ·rename_i ds e
   obtain⟨l,vs,rfl,sq,rd,_⟩:=j0k a i1 e
   exact⟨l,vs,rfl,.inr sq,by rw[rd.length];exact b.int a h⟩
  ·exact h.elim
 ·exact h.elim
@[irreducible] def gIsa:List R->AE:=λrs ρ q=>match rs with
 | [r,.t n]=>(match view ρ r with
  | some d=>(match isaT (tyD d) n with | some b=>q (.d (.bl b)) ρ | none=>False)
  | none=>False)
 | _=>False
theorem e0u:CbOk K (λxs H Q=>∃x d T b,xs=[x,.ty T]/\RepD K H x d/\isaT (tyD d) T=some b/\Q (.bl b) H) gIsa:=by
 intro F σ ρ H vs rs q Q a i h b
 unfold gIsa at h
 split at h
 ·obtain⟨x,y,rfl,i1,j1⟩:=i.two
  split at h
  ·rename_i d e
   split at h
   ·rename_i b' e'
    exact⟨x,d,_,b',by rw[show y=_ from j1],f0f a i1 e,e',b.bl a h⟩
   ·exact h.elim
  ·exact h.elim
 ·exact h.elim
def gList:List R->AE:=λrs ρ q=>match rs with
 | [r]=>(match view ρ r with
  | some (.lst ds)=>q (.f ds) ρ
  | some (.tup ds)=>q (.f ds) ρ
  | _=>False)
 | _=>False
theorem c1s:CbOk K (λxs H Q=>∃p ys,xs=[.ref p]/\(SqL K H p ys∨SqT K H p ys)/\∀l,H l=none->Q (.ref l) (upd H l (.lst ys))) gList:=by
 intro F σ ρ H vs rs q Q a i h b
 unfold gList at h
 split at h
 ·obtain⟨x,rfl,i1⟩:=i.one
  split at h
  ·rename_i ds e
   obtain⟨l,vs,rfl,sq,rd⟩:=c0u a i1 e
   exact⟨l,vs,rfl,.inl sq,λp hp=>b.new a h rd hp⟩
  ·rename_i ds e
   obtain⟨l,vs,rfl,sq,rd,_⟩:=j0k a i1 e
   exact⟨l,vs,rfl,.inr sq,λp hp=>b.new a h rd hp⟩
  ·exact h.elim
 ·exact h.elim
def gTuple:List R->AE:=λrs ρ q=>match rs with
 | [r]=>(match view ρ r with
  | some (.lst ds)=>q (.d (.tup ds)) ρ
  | some (.tup ds)=>q (.d (.tup ds)) ρ
  | _=>False)
 | _=>False
theorem j0w:CbOk K (λxs H Q=>∃p ys,xs=[.ref p]/\((SqL K H p ys/\∀l,H l=none->Q (.ref l) (upd H l (.tup ys)))∨(SqT K H p ys/\Q (.ref p) H))) gTuple:=by
 intro F σ ρ H vs rs q Q a i h b
 unfold gTuple at h
 split at h
 ·obtain⟨x,rfl,i1⟩:=i.one
  split at h
  ·rename_i ds e
   obtain⟨l,vs,rfl,sq,rd⟩:=c0u a i1 e
   exact⟨l,vs,rfl,.inl ⟨sq,λp hp=>b.newT a h rd hp⟩⟩
  ·rename_i ds e
   obtain⟨l,vs,rfl,sq,rd,sq'⟩:=j0k a i1 e
   refine⟨l,vs,rfl,.inr ⟨sq,b.dat a h ?_⟩⟩
   unfold RepD
   exact⟨l,vs,rfl,sq',rd⟩
  ·exact h.elim
 ·exact h.elim
def g0f:List D->Option (List Int)
 | []=>some []
 | .int i::ds=>(g0f ds).map (i :: ·)
 | _=>none
theorem h0t:∀ {ds:List D} {ns:List Int},g0f ds=some ns->ds=ns.map D.int
 | [],ns,h=>by simp[g0f]at h;subst h;rfl
 | .int i::ds,ns,h=>by
  simp only[g0f,Option.map_eq_some_iff]at h
  obtain⟨ms,e,rfl⟩:=h
  rw[h0t e];rfl
 | .non::ds,ns,h=>by simp[g0f]at h
 | .bl _::ds,ns,h=>by simp[g0f]at h
 | .str _::ds,ns,h=>by simp[g0f]at h
 | .tup _::ds,ns,h=>by simp[g0f]at h
 | .lst _::ds,ns,h=>by simp[g0f]at h
theorem h0s (ns:List Int):g0f (ns.map D.int)=some ns:=by
 induction ns with
 | nil=>rfl
 | cons n ns ih=>simp[g0f,ih]
def n0a:List D->Option (List Bool)
 | []=>some []
 | .bl i::ds=>(n0a ds).map (i :: ·)
 | _=>none
theorem x0w:∀ {ds:List D} {ns:List Bool},n0a ds=some ns->ds=ns.map D.bl
 | [],ns,h=>by simp[n0a]at h;subst h;rfl
 | .bl i::ds,ns,h=>by
  simp only[n0a,Option.map_eq_some_iff]at h
  obtain⟨ms,e,rfl⟩:=h
  rw[x0w e];rfl
 | .non::ds,ns,h=>by simp[n0a]at h
 | .int _::ds,ns,h=>by simp[n0a]at h
 | .str _::ds,ns,h=>by simp[n0a]at h
 | .tup _::ds,ns,h=>by simp[n0a]at h
 | .lst _::ds,ns,h=>by simp[n0a]at h
theorem c1w (ns:List Bool):n0a (ns.map D.bl)=some ns:=by
 induction ns with
 | nil=>rfl
 | cons n ns ih=>simp[n0a,ih]
theorem f1z:∀ {vs:List V} {ns:List Bool},RepDs K H vs (ns.map D.bl)->vs=ns.map V.bl
 | [],[],_=>rfl
 | v::vs,n::ns,h=>by
  rw[List.map_cons]at h
  unfold RepDs at h
  obtain⟨h1,h2⟩:=h
  unfold RepD at h1
  rw[List.map_cons,h1,f1z h2]
 | [],n::ns,h=>by rw[List.map_cons]at h;unfold RepDs at h;exact h.elim
 | v::vs,[],h=>by rw[List.map_nil]at h;unfold RepDs at h;exact h.elim
@[irreducible] def gAll:List R->AE:=λrs ρ q=>match rs with
 | [r]=>(match view ρ r with
  | some (.lst ds)=>(match n0a ds with | some bs=>q (.d (.bl (bs.all id))) ρ | none=>False)
  | _=>False)
 | _=>False
theorem r0y:CbOk K (λxs H Q=>∃(p:Addr) (bs:List Bool),xs=[.ref p]/\SqL K H p (bs.map V.bl)/\Q (.bl (bs.all id)) H) gAll:=by
 intro F σ ρ H vs rs q Q a i h b
 unfold gAll at h
 split at h
 ·obtain⟨x,rfl,i1⟩:=i.one
  split at h
  ·rename_i ds e
   split at h
   ·rename_i bs e'
    obtain⟨l,vs,rfl,sq,rd⟩:=c0u a i1 e
    rw[x0w e']at rd
    rw[f1z rd]at sq
    exact⟨l,bs,rfl,sq,b.bl a h⟩
   ·exact h.elim
  ·exact h.elim
 ·exact h.elim
@[irreducible] def gSum:List R->AE:=λrs ρ q=>match rs with
 | [r]=>(match view ρ r with
  | some (.lst ds)=>(match g0f ds with | some ns=>(∀n∈ns,0<=n)/\ns.sum<2^62/\q (.d (.int ns.sum)) ρ | none=>False)
  | _=>False)
 | _=>False
theorem x0v:CbOk K (λxs H Q=>∃(p:Addr) (ns:List Int),xs=[.ref p]/\SqL K H p (ns.map V.int)/\(∀n∈ns,0<=n)/\ns.sum<2^62/\Q (.int ns.sum) H) gSum:=by
 intro F σ ρ H vs rs q Q a i h b
 unfold gSum at h
 split at h
 ·obtain⟨x,rfl,i1⟩:=i.one
  split at h
  ·rename_i ds e
   split at h
   ·rename_i bs e'
    obtain⟨l,vs,rfl,sq,rd⟩:=c0u a i1 e
    rw[h0t e',i0c]at rd
    rw[rd]at sq
    exact⟨l,bs,rfl,sq,h.1,h.2.1,b.int a h.2.2⟩
   ·exact h.elim
  ·exact h.elim
 ·exact h.elim
def aApp (a:AE)(as:AA):AE:=λρ q=>a ρ λr ρ1=>match r with
 | .o i=>(match gt ρ1 i with
  | .ow _=>as ρ1 λrs ρ2=>(match rs with
   | [y]=>sto [y] ρ2 λes ρ3=>(match gt ρ3 i with
    | .ow ds=>ds.length<=1000000/\q (.d .non) (pt ρ3 i (.ow (ds++es)))
    | _=>False)
   | _=>False)
  | _=>False)
 | _=>False
theorem l0v (ha:TEok K ta a)(hs:TAok K ts as):TEok K (tBM K "list" rAppend ta ts) (aApp a as):=by
 intro F σ ρ H q Q r h k
 refine ha F σ ρ H _ _ r h λr1 ρ1 x H1 h1 rel1=>?_
 split at h1
 ·rename_i i
  obtain⟨r',k1,i1⟩:=rel1.inF
  have ex:σ[i]? = some (some x):=i1
  split at h1
  ·rename_i ds0 hg0
   have s:=r'.sl i
   rw[hg0,ex]at s
   obtain⟨l,vs0,e,hl,_⟩:=s
   injection e with e;injection e with e;subst e
   refine⟨.inl ⟨rfl,_,SqL.of hl⟩,hs F σ ρ1 H1 _ _ r' h1 λrs ρ2 vs H2 h2 r2 i2 k2=>?_⟩
   split at h2
   ·obtain⟨es,ρ3,h3,r3,k3,rd⟩:=m0g r2 i2 h2
    split at h3
    ·rename_i ds hg
     have s:=r3.sl i
     rw[hg,ex]at s
     obtain⟨l',us,e,hl',rd'⟩:=s
     injection e with e;injection e with e;injection e with e;subst e
     obtain⟨y,rfl,_⟩:=i2.one
     have hw:=r3.write (i:=i) (l:=l) (o:=.lst (us++[y])) (s:=.ow (ds++es)) (by rw[hg];rfl) ex rfl ⟨l,_,rfl,c0v,rd'.append rd⟩
     refine⟨l,us,y,rfl,rfl,hl',a1e (by rw[rd'.length];exact h3.1),?_⟩
     exact(((k.after k1).after k2).after (k3.trans hw.2)).non hw.1 h3.2
    ·exact h3.elim
   ·exact h2.elim
  ·exact h1.elim
 ·exact h1.elim
abbrev AO:=En->(Option Int->En->Prop)->Prop
def TOok (K:PySem.W.Frag)(t:TO)(a:AO):Prop:=∀F σ ρ H q Q,Rel K F σ ρ H->a ρ q->(∀b ρ' H',q b ρ'->Rel K F σ ρ' H'->Kp σ ρ ρ' H H'->Q b H')->t σ H Q
def oNo:AO:=λρ q=>q none ρ
def n1d (a:AE):AO:=λρ q=>a ρ λr ρ1=>match r with
 | .d (.int i)=>q (some i) ρ1
 | _=>False
theorem d0n:TOok K tNoPart oNo:=λF σ ρ H q Q r h k=>k _ _ _ h r .refl
theorem b0r (ha:TEok K ta a):TOok K (k1d ta) (n1d a):=by
 intro F σ ρ H q Q r h k
 refine ha F σ ρ H _ _ r h λr1 ρ1 x H1 h1 rel1=>?_
 split at h1
 ·obtain⟨r',k1,i1⟩:=rel1.inF
  exact⟨_,i1.int,k _ _ _ h1 r' k1⟩
 ·exact h1.elim
def cutD (xs:List D)(lo hi:Option Int):List D:=(xs.drop (HT.sIx xs.length 0 lo)).take (HT.sIx xs.length xs.length hi - HT.sIx xs.length 0 lo)
theorem RepDs.drop:∀ {vs:List V} {ds:List D} (n:Nat),RepDs K H vs ds->RepDs K H (vs.drop n) (ds.drop n)
 | [],[],n,h=>by simp[RepDs.nil]
 | v::vs,d::ds,0,h=>h
 | v::vs,d::ds,n+1,h=>by unfold RepDs at h;exact RepDs.drop n h.2
 | [],d::ds,_,h=>by unfold RepDs at h;exact h.elim
 | v::vs,[],_,h=>by unfold RepDs at h;exact h.elim
theorem RepDs.take:∀ {vs:List V} {ds:List D} (n:Nat),RepDs K H vs ds->RepDs K H (vs.take n) (ds.take n)
 | [],[],n,h=>by simp[RepDs.nil]
 | v::vs,d::ds,0,h=>.nil
 | v::vs,d::ds,n+1,h=>by unfold RepDs at h;exact .cons h.1 (RepDs.take n h.2)
 | [],d::ds,_,h=>by unfold RepDs at h;exact h.elim
 | v::vs,[],_,h=>by unfold RepDs at h;exact h.elim
theorem c1k {vs:List V}{ds:List D}{lo hi:Option Int}(h:RepDs K H vs ds):RepDs K H (cutV vs lo hi) (cutD ds lo hi):=by
 unfold cutV cutD
 rw[h.length]
 exact(h.drop _).take _
def aSlL (a:AE)(l u:AO):AE:=λρ q=>a ρ λr ρ1=>l ρ1 λlo ρ2=>u ρ2 λhi ρ3=>match view ρ3 r.frz with
 | some (.lst ds)=>q (.f (cutD ds lo hi)) ρ3
 | _=>False
theorem d0p {tl th:TO}{al au:AO}(ha:TEok K ta a)(hl:TOok K tl al)(hh:TOok K th au):TEok K (tSl (rSlL K) ta tl th) (aSlL a al au):=by
 intro F σ ρ H q Q r h k
 refine ha F σ ρ H _ _ r h λr1 ρ1 x H1 h1 rel1=>?_
 obtain⟨r',k1,i1⟩:=rel1.inF
 refine hl F σ ρ1 H1 _ _ r' h1 λlo ρ2 H2 h2 r2 k2=>?_
 refine hh F σ ρ2 H2 _ _ r2 h2 λhi ρ3 H3 h3 r3 k3=>?_
 split at h3
 ·rename_i ds e
  obtain⟨p,vs,rfl,sq,rd⟩:=c0u r3 ((i1.keep k2).keep k3) e
  exact⟨p,vs,rfl,sq,λp' hp=>(((k.after k1).after k2).after k3).new r3 h3 (c1k rd) hp⟩
 ·exact h3.elim
end
def g0g (ρ:En):R->Sv
 | .d d=>.vl d
 | .o j=>gt ρ j
 | .x s=>s
 | _=>.un
def Src (K:PySem.W.Frag)(F:Fr)(σ:St)(ρ:En)(H:Hp)(ov:Option V):R->Prop
 | .d d=>∃v,ov=some v/\RepD K (hid H (hs F σ ρ)) v d
 | .o j=>(σ[j]?).getD none=ov
 | .x s=>∃v,ov=some v/\s.own=false/\SvOk K (hid H (hs F σ ρ)) H (some (some v)) s
 | _=>True
inductive Srcs (K:PySem.W.Frag) (F:Fr) (σ:St) (ρ:En) (H:Hp):St->List R->Prop
 | nil:Srcs K F σ ρ H [] []
 | cons {v:Option V} {r:R} {vs:St} {rs:List R}:Src K F σ ρ H v r->Srcs K F σ ρ H vs rs->Srcs K F σ ρ H (v::vs) (r::rs)
def isO (j:Nat):R->Bool
 | .o i=>i==j
 | _=>false
def dis:List R->Bool
 | []=>true
 | .o j::rs=>rs.all (λr=>!isO j r)&&dis rs
 | _::rs=>dis rs
theorem e1z:∀ {rs:List R} {k k' j:Nat},dis rs=true->rs[k]? = some (.o j)->rs[k']? = some (.o j)->k=k':=by
 intro rs
 induction rs with
 | nil=>intro k k' j _ h;simp at h
 | cons r rs ih =>
  intro k k' j hd h h'
  have hd':dis rs=true:=by
   cases r <;> simp[dis]at hd <;> first | exact hd.2 | exact hd
  have no:∀(m:Nat),r = .o j->rs[m]? = some (.o j)->False:=λm e hm=>by
   subst e
   simp[dis]at hd
   have:=hd.1 _ (List.mem_of_getElem? hm)
   simp[isO]at this
  cases k with
  | zero =>
   cases k' with
   | zero=>rfl
   | succ k'=>simp at h h';exact(no k' h h').elim
  | succ k =>
   cases k' with
   | zero=>simp at h h';exact(no k h' h).elim
   | succ k'=>simp at h h';rw[ih hd' h h']
def back:En->List R->En->En
 | ρ,.o j::rs,s::ss=>back (pt ρ j s) rs ss
 | ρ,_::rs,_::ss=>back ρ rs ss
 | ρ,_,_=>ρ
theorem i0o:∀(rs:List R) (ρ ss:En),(back ρ rs ss).length=ρ.length
 | [],ρ,ss=>by cases ss <;> rfl
 | r::rs,ρ,[]=>by cases r <;> rfl
 | .o j::rs,ρ,s::ss=>by show(back (pt ρ j s) rs ss).length=_;rw[i0o,k0y]
 | .d d::rs,ρ,s::ss=>i0o rs ρ ss
 | .n d::rs,ρ,s::ss=>i0o rs ρ ss
 | .t d::rs,ρ,s::ss=>i0o rs ρ ss
 | .x d::rs,ρ,s::ss=>i0o rs ρ ss
theorem k0r:∀(rs:List R) (ρ ss:En) (i:Nat),(∀k:Nat,rs[k]? ≠ some (R.o i))->gt (back ρ rs ss) i=gt ρ i
 | [],ρ,ss,i,_=>by cases ss <;> rfl
 | r::rs,ρ,[],i,_=>by cases r <;> rfl
 | .o j::rs,ρ,s::ss,i,h=>by
  have ne:j≠i:=λe=>h 0 (by simp[e])
  show gt (back (pt ρ j s) rs ss) i=_
  rw[k0r rs _ ss i (λk z=>h (k+1) (by simpa using z)),d0u ρ j i s ne]
 | .d d::rs,ρ,s::ss,i,h=>k0r rs ρ ss i (λk z=>h (k+1) (by simpa using z))
 | .n d::rs,ρ,s::ss,i,h=>k0r rs ρ ss i (λk z=>h (k+1) (by simpa using z))
 | .t d::rs,ρ,s::ss,i,h=>k0r rs ρ ss i (λk z=>h (k+1) (by simpa using z))
 | .x d::rs,ρ,s::ss,i,h=>k0r rs ρ ss i (λk z=>h (k+1) (by simpa using z))
theorem m0d:∀(rs:List R) (ρ ss:En) (i k:Nat),dis rs=true->rs[k]? = some (.o i)->ss.length=rs.length->i<ρ.length->gt (back ρ rs ss) i=gt ss k
 | [],ρ,ss,i,k,_,h,_,_=>by simp at h
 | r::rs,ρ,[],i,k,_,_,e,_=>by simp at e
 | .o j::rs,ρ,s::ss,i,0,hd,h,e,l=>by
  simp at h;subst h
  simp[dis]at hd
  show gt (back (pt ρ j s) rs ss) j=s
  rw[k0r rs _ ss j (λk z=>by have:=hd.1 _ (List.mem_of_getElem? z);simp[isO]at this),t0l ρ j s l]
 | .o j::rs,ρ,s::ss,i,k+1,hd,h,e,l=>by
  simp[dis]at hd
  exact m0d rs (pt ρ j s) ss i k hd.2 (by simpa using h) (by simpa using e) (by rw[k0y];exact l)
 | .d d::rs,ρ,s::ss,i,0,hd,h,e,l=>by simp at h
 | .n d::rs,ρ,s::ss,i,0,hd,h,e,l=>by simp at h
 | .t d::rs,ρ,s::ss,i,0,hd,h,e,l=>by simp at h
 | .x d::rs,ρ,s::ss,i,0,hd,h,e,l=>by simp at h
 | .d d::rs,ρ,s::ss,i,k+1,hd,h,e,l=>m0d rs ρ ss i k hd (by simpa using h) (by simpa using e) l
 | .n d::rs,ρ,s::ss,i,k+1,hd,h,e,l=>m0d rs ρ ss i k hd (by simpa using h) (by simpa using e) l
 | .t d::rs,ρ,s::ss,i,k+1,hd,h,e,l=>m0d rs ρ ss i k hd (by simpa using h) (by simpa using e) l
 | .x d::rs,ρ,s::ss,i,k+1,hd,h,e,l=>m0d rs ρ ss i k hd (by simpa using h) (by simpa using e) l
theorem t0n (ρ:En):∀(rs:List R) (k:Nat),gt (rs.map (g0g ρ)) k=(match rs[k]? with | some r=>g0g ρ r | none=>.un)
 | [],k=>by simp[gt]
 | r::rs,0=>by simp[gt]
 | r::rs,k+1=>by simp[gt,t0n ρ rs k]
section
variable {K:PySem.W.Frag}{F:Fr}{σ:St}{ρ ρ':En}{H H':Hp}{ovs:St}{rs:List R}
theorem Srcs.length (s:Srcs K F σ ρ H ovs rs):ovs.length=rs.length:=by
 induction s with
 | nil=>rfl
 | cons _ _ ih=>simp[ih]
theorem Srcs.get {k:Nat}{r:R}(s:Srcs K F σ ρ H ovs rs)(h:rs[k]? = some r):∃ov,ovs[k]? = some ov/\Src K F σ ρ H ov r:=by
 induction s generalizing k with
 | nil=>simp at h
 | cons a _ ih =>
  cases k with
  | zero=>simp at h;subst h;exact⟨_,rfl,a⟩
  | succ k=>obtain⟨ov,e,q⟩:=ih (by simpa using h);exact⟨ov,by simpa using e,q⟩
def j0y (F:Fr)(σ:St)(ρ:En)(H:Hp)(ovs:St)(ss:En):Fr :=
 ⟨H,λa=>F.Z a∨(c0s σ ρ a/\¬c0s ovs ss a),λa=>c0s ovs ss a,λi a=>(gt ss i).own=true/\ovs[i]? = some (some (.ref a)),λ_ _=>False⟩
theorem u0q (s:Srcs K F σ ρ H ovs rs){k:Nat}(h:(gt (rs.map (g0g ρ)) k).own=true):∃j:Nat,rs[k]? = some (R.o j)/\(gt ρ j).own=true/\gt (rs.map (g0g ρ)) k=gt ρ j/\ovs[k]? = some ((σ[j]?).getD none):=by
 rw[t0n]at h
 cases e:rs[k]? with
 | none=>simp[e]at h;cases h
 | some r =>
  rw[e]at h
  cases r with
  | d d=>cases h
  | n d=>cases h
  | t d=>cases h
  | x d =>
   obtain⟨ov,_,_,_,hx,_⟩:=s.get e
   have h:d.own=true:=h
   rw[hx]at h;cases h
  | o j =>
   obtain⟨ov,e1,e2⟩:=s.get e
   exact⟨j,rfl,h,by rw[t0n,e];rfl,by rw[e1,show _=ov from e2]⟩
theorem r0j {x:Option (Option V)}{a:Addr}(h:some (x.getD none)=some (some (V.ref a))):x=some (some (.ref a)):=by
 cases x with
 | none=>simp at h
 | some y=>simpa using h
theorem f0t (s:Srcs K F σ ρ H ovs rs){a:Addr}(h:c0s ovs (rs.map (g0g ρ)) a):∃k j:Nat,rs[k]? = some (R.o j)/\(gt ρ j).own=true/\σ[j]? = some (some (V.ref a))/\ovs[k]? = some (some (V.ref a)):=by
 obtain⟨k,hk,e⟩:=h
 obtain⟨j,e1,e2,e3,e4⟩:=u0q s hk
 rw[e]at e4
 exact⟨k,j,e1,e2,r0j e4.symm,e⟩
theorem z0y (r:Rel K F σ ρ H)(s:Srcs K F σ ρ H ovs rs):hs (j0y F σ ρ H ovs (rs.map (g0g ρ))) ovs (rs.map (g0g ρ))=hs F σ ρ:=by
 funext a
 apply propext
 constructor
 ·rintro((h | h) | h)
  ·exact .inl h
  ·exact .inr h.1
  ·obtain⟨k,j,e1,e2,e3,_⟩:=f0t s h
   exact .inr ⟨j,e2,e3⟩
 ·rintro(h | h)
  ·exact .inl (.inl h)
  ·by_cases q:c0s ovs (rs.map (g0g ρ)) a
   ·exact .inr q
   ·exact .inl (.inr ⟨h,q⟩)
theorem Rel.sub (r:Rel K F σ ρ H)(s:Srcs K F σ ρ H ovs rs)(hd:dis rs=true):Rel K (j0y F σ ρ H ovs (rs.map (g0g ρ))) ovs (rs.map (g0g ρ)) H:=by
 refine⟨by rw[s.length,List.length_map],λa o e _=>e,λa z=>?_,λa h z=>?_,λi a hi e=>.inl ⟨⟨hi,e⟩,i,hi,e⟩,λi a h=>?_,λa h=>?_,λa h=>?_,λi j a hi hj ei ej=>?_,λk=>?_⟩
 ·rcases z with z | z
  ·exact r.zl a z
  ·exact x0d r z.1
 ·obtain⟨k,j,e1,e2,e3,_⟩:=f0t s h
  rcases z with z | z
  ·exact r.zo a ⟨j,e2,e3⟩ z
  ·exact z.2 h
 ·rcases h with h | h
  ·exact h.2
  ·exact h.elim
 ·obtain⟨k,j,e1,e2,e3,_⟩:=f0t s h
  exact i0e r ⟨j,e2,e3⟩
 ·obtain⟨k,j,e1,e2,e3,_⟩:=f0t s h
  exact i0e r ⟨j,e2,e3⟩
 ·obtain⟨p,a1,a2,a3,a4⟩:=u0q s hi
  obtain⟨p',b1,b2,b3,b4⟩:=u0q s hj
  rw[ei]at a4
  rw[ej]at b4
  have:p=p':=r.nd p p' a a2 b2 (r0j a4.symm) (r0j b4.symm)
  subst this
  exact e1z hd a1 b1
 ·rw[z0y r s,t0n]
  cases e:rs[k]? with
  | none=>trivial
  | some x =>
   obtain⟨ov,e1,e2⟩:=s.get e
   cases x with
   | n d=>trivial
   | t d=>trivial
   | x d=>obtain⟨v,e3,_,e4⟩:=e2;rw[e1,e3];exact e4
   | d d=>obtain⟨v,e3,e4⟩:=e2;rw[e1,e3];exact⟨v,rfl,e4⟩
   | o j =>
    rw[e1]
    have q:=r.sl j
    show SvOk K _ H (some ov) (gt ρ j)
    rw[<- show(σ[j]?).getD none=ov from e2]
    cases e5:σ[j]? with
    | none =>
     rw[e5]at q
     cases hg:gt ρ j with
     | un=>trivial
     | vl d=>rw[hg]at q;obtain⟨x,z,_⟩:=q;cases z
     | ow d=>rw[hg]at q;obtain⟨x,_,z,_⟩:=q;cases z
     | tp d=>rw[hg]at q;obtain⟨x,_,_,_,_,z,_⟩:=q;cases z
     | dk d=>rw[hg]at q;obtain⟨x,_,z,_⟩:=q;cases z
     | dt d=>rw[hg]at q;obtain⟨x,_,z,_⟩:=q;cases z
     | ex d m=>rw[hg]at q;obtain⟨x,_,z,_⟩:=q;cases z
     | sc d=>rw[hg]at q;obtain⟨x,z,_⟩:=q;cases z
     | px d m k=>rw[hg]at q;obtain⟨x,_,_,_,z,_⟩:=q;cases z
     | xl es=>rw[hg]at q;obtain⟨x,_,z,_⟩:=q;cases z
     | ob _ _=>rw[hg]at q;obtain⟨x,_,_,z,_⟩:=q;cases z
     | ll _=>rw[hg]at q;obtain⟨x,_,_,z,_⟩:=q;cases z
     | ds _ _ _=>rw[hg]at q;obtain⟨x,_,_,_,_,_,z,_⟩:=q;cases z
    | some y=>rw[e5]at q;exact q
theorem Rel.back (r:Rel K F σ ρ H)(s:Srcs K F σ ρ H ovs rs)(hd:dis rs=true){ss':En}(r':Rel K (j0y F σ ρ H ovs (rs.map (g0g ρ))) ovs ss' H')(sb:∀i,(gt ss' i).own=true->(gt (rs.map (g0g ρ)) i).own=true) :
  Rel K F σ (L2.back ρ rs ss') H'/\Kp σ ρ (L2.back ρ rs ss') H H'/\Same (hid H' (hs (j0y F σ ρ H ovs (rs.map (g0g ρ))) ovs ss')) (hid H' (hs F σ (L2.back ρ rs ss'))):=by
 have ln:ss'.length=rs.length:=by rw[<- r'.len,s.length]
 have cs:∀i:Nat,(∃k:Nat,rs[k]? = some (R.o i)/\i<ρ.length/\gt (L2.back ρ rs ss') i=gt ss' k)∨((∀k:Nat,i<ρ.length->rs[k]? ≠ some (R.o i))/\gt (L2.back ρ rs ss') i=gt ρ i):=λi=>by
  by_cases hi:i<ρ.length
  ·by_cases q:∃k:Nat,rs[k]? = some (R.o i)
   ·obtain⟨k,e⟩:=q
    exact .inl ⟨k,e,hi,m0d rs ρ ss' i k hd e ln hi⟩
   ·exact .inr ⟨λk _ z=>q ⟨k,z⟩,k0r rs ρ ss' i λk z=>q ⟨k,z⟩⟩
  ·refine .inr ⟨λk z=>absurd z hi,?_⟩
   rw[p0x _ i (by rw[i0o];omega),p0x _ i (by omega)]
 have own':∀i,(gt (L2.back ρ rs ss') i).own=true->(gt ρ i).own=true:=λi h=>by
  rcases cs i with⟨k,e,hi,g⟩ | ⟨_,g⟩
  ·rw[g]at h
   have:=sb k h
   rw[t0n,e]at this
   exact this
  ·rw[g]at h;exact h
 have subo:∀ {a},c0s σ (L2.back ρ rs ss') a->c0s σ ρ a:=λ⟨i,hi,e⟩=>⟨i,own' i hi,e⟩
 have no:∀a,¬c0s σ ρ a->¬c0s ovs (rs.map (g0g ρ)) a:=λa h z=>by
  obtain⟨k,j,e1,e2,e3,_⟩:=f0t s z
  exact h ⟨j,e2,e3⟩
 have st:∀a o,H a=some o->¬c0s ovs (rs.map (g0g ρ)) a->H' a=some o:=λa o e n=>r'.fr a o e n
 have hsub:∀a,hs F σ (L2.back ρ rs ss') a->hs (j0y F σ ρ H ovs (rs.map (g0g ρ))) ovs ss' a:=λa h=>by
  rcases h with h | ⟨i,hi,e⟩
  ·exact .inl (.inl h)
  ·rcases cs i with⟨k,e1,hl,g⟩ | ⟨n,g⟩
   ·right
    rw[g]at hi
    obtain⟨ov,q1,q2⟩:=s.get e1
    refine⟨k,hi,?_⟩
    rw[q1,<- show(σ[i]?).getD none=ov from q2,e]
    rfl
   ·left;right
    rw[g]at hi
    refine⟨⟨i,hi,e⟩,λz=>?_⟩
    obtain⟨k,j,e1,e2,e3,_⟩:=f0t s z
    have:i=j:=r.nd i j a hi e2 e e3
    subst this
    exact n k (p0r hi) e1
 have v1:Same (hid H' (hs (j0y F σ ρ H ovs (rs.map (g0g ρ))) ovs ss')) (hid H' (hs F σ (L2.back ρ rs ss'))):=c0a λa o e n=>⟨e,λz=>n (hsub a z)⟩
 have v2:Same (hid H (hs F σ ρ)) (hid H' (hs F σ (L2.back ρ rs ss'))):=c0a λa o e n=>⟨st a o e (no a λz=>n (.inr z)),λz=>n (z.imp id subo)⟩
 refine⟨⟨by rw[i0o,r.len],λa o e n=>?_,λa z=>r'.zl a (.inl z),λa h=>r.zo a (subo h),λi a hi e=>r.ow i a (own' i hi) e,r.mi,r.ml,λa z=>?_,λi j a hi hj ei ej=>r.nd i j a (own' i hi) (own' j hj) ei ej,λi=>?_⟩,⟨λa o e n=>st a o e (no a n),own'⟩,v1⟩
 ·have e1:=r.fr a o e n
  refine st a o e1 λz=>?_
  obtain⟨k,j,h1,h2,h3,_⟩:=f0t s z
  rcases r.ow j a h2 h3 with q | q
  ·exact n q.2
  ·rw[e]at q;cases q
 ·by_cases q:c0s ovs (rs.map (g0g ρ)) a
  ·exact r'.ma a q
  ·cases h:H a with
   | none=>exact absurd h (r.ma a z)
   | some o=>rw[st a o h q];exact λz=>nomatch z
 ·rcases cs i with⟨k,e1,hl,g⟩ | ⟨n,g⟩
  ·rw[g]
   have q:=(r'.sl k).keep v1 λ_ _ _ _ e=>e
   obtain⟨ov,q1,q2⟩:=s.get e1
   rw[q1,<- show(σ[i]?).getD none=ov from q2]at q
   cases e5:σ[i]? with
   | none =>
    rw[e5]at q
    cases hg:gt ss' k with
    | un=>trivial
    | vl d=>rw[hg]at q;obtain⟨x,z,_⟩:=q;cases z
    | ow d=>rw[hg]at q;obtain⟨x,_,z,_⟩:=q;cases z
    | tp d=>rw[hg]at q;obtain⟨x,_,_,_,_,z,_⟩:=q;cases z
    | dk d=>rw[hg]at q;obtain⟨x,_,z,_⟩:=q;cases z
    | dt d=>rw[hg]at q;obtain⟨x,_,z,_⟩:=q;cases z
    | ex d m=>rw[hg]at q;obtain⟨x,_,z,_⟩:=q;cases z
    | sc d=>rw[hg]at q;obtain⟨x,z,_⟩:=q;cases z
    | px d m k=>rw[hg]at q;obtain⟨x,_,_,_,z,_⟩:=q;cases z
    | xl es=>rw[hg]at q;obtain⟨x,_,z,_⟩:=q;cases z
    | ob _ _=>rw[hg]at q;obtain⟨x,_,_,z,_⟩:=q;cases z
    | ll _=>rw[hg]at q;obtain⟨x,_,_,z,_⟩:=q;cases z
    | ds _ _ _=>rw[hg]at q;obtain⟨x,_,_,_,_,_,z,_⟩:=q;cases z
   | some y=>rw[e5]at q;exact q
  ·rw[g]
   refine(r.sl i).keep v2 λl o ho e h=>st l o h λz=>?_
   obtain⟨k,j,e1,e2,e3,_⟩:=f0t s z
   have:i=j:=r.nd i j l ho e2 e e3
   subst this
   exact n k (p0r ho) e1
end
abbrev ASp:=En->Ko->Prop
def F0 (vs:List V)(ss:En)(H:Hp)(Z:Addr->Prop):Fr:=⟨H,Z,λa=>c0s (vs.map some) ss a,λi a=>(gt ss i).own=true/\(vs.map some)[i]? = some (some (.ref a)),λ_ _=>False⟩
def spA (K:PySem.W.Frag)(S:ASp):Sp:=λvs H Q _=>∃ss Z q,Rel K (F0 vs ss H Z) (vs.map some) ss H/\S ss q /\
 ∀r ss' v H',q r ss'->(∀i,(gt ss' i).own=true->(gt ss i).own=true)->(∀i,r ≠ .o i)->RelR K (F0 vs ss H Z) (vs.map some) ss' v H' r->Q v H'
def m1p (S:ASp)(as:AA):AE:=λρ q=>as ρ λrs ρ1=>dis rs=true/\S (rs.map (g0g ρ1)) λr ss'=>q r (back ρ1 rs ss')
section
variable {K:PySem.W.Frag}{F:Fr}{σ:St}{ρ ρ':En}{H H':Hp}{ovs:St}{rs:List R}
theorem InFs.srcs {vs:List V}(h:InFs K F σ ρ H vs rs):Srcs K F σ ρ H (vs.map some) rs:=by
 induction h with
 | nil=>exact .nil
 | cons a t ih =>
  rename_i v r vs rs
  refine .cons ?_ ih
  cases r with
  | d d=>exact⟨v,rfl,a⟩
  | o j=>show(σ[j]?).getD none=some v;rw[show σ[j]? = _ from a];rfl
  | n s=>trivial
  | t n=>trivial
  | x n=>exact⟨v,rfl,a⟩
theorem a0n {S:ASp}{E:XK}{ts:TA}{as:AA}(hs':TAok K ts as):TEok K (h1i (spA K S) [] E ts) (m1p S as):=by
 intro F σ ρ H q Q r h k
 refine hs' F σ ρ H _ _ r h λrs ρ1 vs H1 h1 r1 i1 k1=>?_
 obtain⟨hd,hS⟩:=h1
 have s:=i1.srcs
 rw[List.append_nil]
 refine⟨rs.map (g0g ρ1),(j0y F σ ρ1 H1 (vs.map some) (rs.map (g0g ρ1))).Z,_,r1.sub s hd,hS,λrr ss' v H' hq sb no out=>?_⟩
 refine(k.after k1) rr (back ρ1 rs ss') v H' hq ?_
 cases rr with
 | o i=>exact absurd rfl (no i)
 | d d =>
  obtain⟨a,b⟩:=out
  obtain⟨x,y,z⟩:=r1.back s hd a sb
  exact⟨x,y,RepD.same b z⟩
 | x sv =>
  obtain⟨a,b,c⟩:=out
  obtain⟨x,y,z⟩:=r1.back s hd a sb
  exact⟨x,y,b,c.keep z λl o ho=>by rw[b]at ho;cases ho⟩
 | t n =>
  obtain⟨a,b⟩:=out
  obtain⟨x,y,z⟩:=r1.back s hd a sb
  exact⟨x,y,b⟩
 | n sv =>
  obtain⟨Hb,l,o,a,b,c,e1,e2,e3⟩:=out
  obtain⟨x,y,z⟩:=r1.back s hd a sb
  exact⟨Hb,l,o,x,y,b,c.keep z λ_ _ _ _ e=>e,e1,e2,e3⟩
end
section
variable {K:PySem.W.Frag}{F:Fr}{σ σ':St}{ρ ρ':En}{H H':Hp}
open Classical in
noncomputable def rebase (F:Fr)(σ:St)(ρ:En)(H:Hp)(pin:Nat->Bool):Fr :=
 ⟨λa=>if c0s σ ρ a/\F.H0 a=none then none else H a,F.Z,λa=>F.M a/\c0s σ ρ a,F.I,λi a=>F.P i a∨(pin i=true/\σ[i]? = some (some (.ref a)))⟩
open Classical in
theorem n0s {pin:Nat->Bool}{a:Addr}{o:HO}(h:¬(c0s σ ρ a/\F.H0 a=none))(e:H a=some o):(rebase F σ ρ H pin).H0 a=some o:=by
 show(if c0s σ ρ a/\F.H0 a=none then none else H a)=some o
 rw[if_neg h];exact e
open Classical in
theorem k1q {pin:Nat->Bool}{a:Addr}{o:HO}(e:(rebase F σ ρ H pin).H0 a=some o):H a=some o:=by
 have e':(if c0s σ ρ a/\F.H0 a=none then none else H a)=some o:=e
 split at e'
 ·cases e'
 ·exact e'
open Classical in
theorem Rel.rebase (r:Rel K F σ ρ H)(pin:Nat->Bool):Rel K (L2.rebase F σ ρ H pin) σ ρ H where
 len:=r.len
 fr:=λa o e _=>k1q e
 zl:=r.zl
 zo:=r.zo
 ow:=λi a hi e=>by
  rcases r.ow i a hi e with⟨h1,h2⟩ | h
  ·exact .inl ⟨h1,h2,i,hi,e⟩
  ·refine .inr ?_
   show(if c0s σ ρ a/\F.H0 a=none then none else H a)=none
   rw[if_pos ⟨⟨i,hi,e⟩,h⟩]
 mi:=λi a h=>by
  rcases h with h | h | h
  ·exact r.mi i a (.inl h)
  ·exact r.mi i a (.inr h)
  ·exact h.2
 ml:=λa h=>by
  cases e:H a with
  | none=>exact absurd e (r.ma a h.1)
  | some o=>rw[n0s (λz=>r.ml a h.1 z.2) e];exact λz=>nomatch z
 ma:=λa h=>r.ma a h.1
 nd:=r.nd
 sl:=r.sl
theorem Rel.unbase {pin:Nat->Bool}(r:Rel K F σ ρ H)(r':Rel K (L2.rebase F σ ρ H pin) σ' ρ' H'):Rel K F σ' ρ' H'/\Same (hid H (hs F σ ρ)) (hid H' (hs F σ' ρ')):=by
 refine⟨⟨r'.len,λa o e n=>?_,r'.zl,r'.zo,λi a hi e=>?_,λi a h=>r'.mi i a (h.imp id .inl),r.ml,λa h=>?_,r'.nd,r'.sl⟩,c0a λa o e n=>?_⟩
 ·exact r'.fr a o (n0s (λz=>by rw[e]at z;cases z.2) (r.fr a o e n)) λz=>n z.1
 ·rcases r'.ow i a hi e with⟨h1,h2⟩ | h
  ·exact .inl ⟨h1,h2.1⟩
  ·right
   cases h0:F.H0 a with
   | none=>rfl
   | some o =>
    exfalso
    have nn:H a≠none:=by
     by_cases q:F.M a
     ·exact r.ma a q
     ·rw[r.fr a o h0 q];exact λz=>nomatch z
    cases e2:H a with
    | none=>exact nn e2
    | some u =>
     rw[n0s (λz=>by rw[h0]at z;cases z.2) e2]at h
     cases h
 ·by_cases q:c0s σ ρ a
  ·exact r'.ma a ⟨h,q⟩
  ·cases e:H a with
   | none=>exact absurd e (r.ma a h)
   | some o=>rw[r'.fr a o (n0s (λz=>q z.1) e) λz=>q z.2];exact λz=>nomatch z
 ·have n':¬c0s σ ρ a:=λz=>n (.inr z)
  have e0:=n0s (F:=F) (pin:=pin) (λz=>n' z.1) e
  refine⟨r'.fr a o e0 λz=>n' z.2,λz=>?_⟩
  rcases z with z | ⟨i,hi,ei⟩
  ·exact n (.inl z)
  ·rcases r'.ow i a hi ei with⟨_,h2⟩ | h
   ·exact n' h2.2
   ·rw[e0]at h;cases h
theorem RelR.unbase {pin:Nat->Bool}{v:V}{rr:R}(r:Rel K F σ ρ H)(r':RelR K (L2.rebase F σ ρ H pin) σ' ρ' v H' rr):RelR K F σ' ρ' v H' rr:=by
 cases rr with
 | d d=>exact⟨(r.unbase r'.1).1,r'.2⟩
 | o d=>exact⟨(r.unbase r'.1).1,r'.2⟩
 | t d=>exact⟨(r.unbase r'.1).1,r'.2⟩
 | x d=>exact⟨(r.unbase r'.1).1,r'.2⟩
 | n s =>
  obtain⟨Hb,l,o,a,b,c,e⟩:=r'
  exact⟨Hb,l,o,(r.unbase a).1,b,c,e⟩
end
structure m1q (K:PySem.W.Frag)(F:Fr)(D:Ends)(e:u0n):Prop where
 nx:∀ σ' ρ' H',e.nx ρ'->Rel K F σ' ρ' H'->D.nx σ' H'
 bk:∀ σ' ρ' H',e.bk ρ'->Rel K F σ' ρ' H'->D.bk σ' H'
 ct:∀ σ' ρ' H',e.ct ρ'->Rel K F σ' ρ' H'->D.ct σ' H'
 rt:∀ σ' ρ' r v H',e.rt r ρ'->RelR K F σ' ρ' v H' r->D.rt v H'
def TSok (K:PySem.W.Frag)(pr:Nat->Bool)(t:TS)(a:AS):Prop:=∀F σ ρ H D e,(∀i a,F.pin i a->pr i=true)->Rel K F σ ρ H->a e ρ->m1q K F D e->t D σ H
abbrev AG:=D->En->(En->Prop)->Prop
abbrev AGs:=List D->En->(En->Prop)->Prop
def TGok (K:PySem.W.Frag)(pr:Nat->Bool)(g:TG)(ag:AG):Prop:=∀F σ ρ H v d k Q,(∀i a,F.pin i a->pr i=true)->Rel K F σ ρ H->RepD K (hid H (hs F σ ρ)) v d->ag d ρ k ->
 (∀ σ' ρ',k ρ'->Rel K F σ' ρ' H->σ'.length=σ.length->(∀i,pr i=true->σ'[i]? = σ[i]?)->(∀i,(gt ρ' i).own=true->(gt ρ i).own=true/\σ'[i]? = σ[i]?)->Q σ' H)->g v σ H Q
def f1l (K:PySem.W.Frag)(pr:Nat->Bool)(n:Nat)(g:TGs)(ag:AGs):Prop:=(∀ds ρ k,ag ds ρ k->ds.length=n)/\∀F σ ρ H vs ds k Q,(∀i a,F.pin i a->pr i=true)->Rel K F σ ρ H->RepDs K (hid H (hs F σ ρ)) vs ds->ag ds ρ k ->
 (∀ σ' ρ',k ρ'->Rel K F σ' ρ' H->σ'.length=σ.length->(∀i,pr i=true->σ'[i]? = σ[i]?)->(∀i,(gt ρ' i).own=true->(gt ρ i).own=true/\σ'[i]? = σ[i]?)->Q σ' H)->g vs σ H Q
section
variable {K:PySem.W.Frag}{pr:Nat->Bool}{t u:TS}{a b:AS}{te:TE}{ae:AE}{tt:TT}{at':AT}
theorem i1f {F:Fr}{i:Nat}(hp:∀i a,F.pin i a->pr i=true)(h:pr i=false):∀a,¬F.pin i a:=λa z=>by rw[hp i a z]at h;cases h
def x0p (i:Nat):AG:=λd ρ k=>k (pt ρ i (.vl d))
theorem a0q {i:Nat}(h:pr i=false):TGok K pr (b1z i) (x0p i):=by
 intro F σ ρ H v d k Q hp r hd ha kk
 refine kk _ _ ha (r.set hd (i1f hp h)) (by rw[List.length_set]) (λj hj=>?_) λj hj=>?_
 ·rw[List.getElem?_set_ne];rintro rfl;rw[h]at hj;cases hj
 ·obtain⟨ne,q⟩:=k0m rfl hj
  exact⟨q,by rw[List.getElem?_set_ne ne]⟩
def gaNil:AGs:=λds ρ k=>match ds with
 | []=>k ρ
 | _=>False
def b1y (g:AG)(gs:AGs):AGs:=λds ρ k=>match ds with
 | d::r=>g d ρ λρ1=>gs r ρ1 k
 | []=>False
theorem h0j:f1l K pr 0 gNil gaNil:=by
 refine⟨λds ρ k h=>?_,?_⟩
 ·cases ds with
  | nil=>rfl
  | cons _ _=>exact h.elim
 intro F σ ρ H vs ds k Q hp r hd ha kk
 cases ds with
 | cons _ _=>exact ha.elim
 | nil =>
  cases vs with
  | nil=>exact⟨rfl,kk _ _ ha r rfl (λ_ _=>rfl) λ_ h=>⟨h,rfl⟩⟩
  | cons v vs=>unfold RepDs at hd;exact hd.elim
theorem i1a {F:Fr}{σ σ':St}{ρ ρ':En}{H:Hp}(h:∀i,(gt ρ' i).own=true->(gt ρ i).own=true/\σ'[i]? = σ[i]?):Same (hid H (hs F σ ρ)) (hid H (hs F σ' ρ')):=c0a λa o e n=>⟨e,λz=>by
 rcases z with z | ⟨i,hi,ei⟩
 ·exact n (.inl z)
 ·obtain⟨q1,q2⟩:=h i hi
  exact n (.inr ⟨i,q1,q2▸ei⟩)⟩
theorem c0t {g:TG}{gs:TGs}{ag:AG}{ags:AGs}{n:Nat}(h:TGok K pr g ag)(hs':f1l K pr n gs ags)(gl:∀d ρ k,ag d ρ k->∃ ρ',k ρ'):f1l K pr (n+1) (l1y g gs) (b1y ag ags):=by
 refine⟨λds ρ k ha=>?_,?_⟩
 ·cases ds with
  | nil=>exact ha.elim
  | cons d ds=>obtain⟨ρ',q⟩:=gl _ _ _ ha;rw[List.length_cons,hs'.1 _ _ _ q]
 intro F σ ρ H vs ds k Q hp r hd ha kk
 cases ds with
 | nil=>exact ha.elim
 | cons d ds =>
  cases vs with
  | nil=>unfold RepDs at hd;exact hd.elim
  | cons v vs =>
   unfold RepDs at hd
   refine⟨v,vs,rfl,h F σ ρ H v d _ _ hp r hd.1 ha λσ1 ρ1 h1 r1 l1 p1 o1=>?_⟩
   refine hs'.2 F σ1 ρ1 H vs ds _ _ hp r1 (hd.2.same (i1a o1)) h1 λσ2 ρ2 h2 r2 l2 p2 o2=>?_
   refine kk _ _ h2 r2 (l2.trans l1) (λi hi=>(p2 i hi).trans (p1 i hi)) λi hi=>?_
   obtain⟨a1,a2⟩:=o2 i hi
   obtain⟨b1,b2⟩:=o1 i a1
   exact⟨b1,a2.trans b2⟩
def i1z (n:Nat)(gs:AGs):AG:=λd ρ k=>match d with
 | .tup ds=>gs ds ρ k
 | _=>False
theorem g0a {i:Nat}{d:D}{ρ:En}{k:En->Prop}(h:x0p i d ρ k):∃ ρ',k ρ':=⟨_,h⟩
theorem j0m {gs:TGs}{ags:AGs}{n:Nat}(hs':f1l K pr n gs ags):TGok K pr (gTup K n gs) (i1z n ags):=by
 intro F σ ρ H v d k Q hp r hd ha kk
 unfold i1z at ha
 split at ha
 ·rename_i ds
  unfold RepD at hd
  obtain⟨p,vs,rfl,sq,rd⟩:=hd
  exact⟨p,vs,rfl,d0c.seqT sq.sq,by rw[rd.length];exact hs'.1 _ _ _ ha,hs'.2 F σ ρ H vs ds k Q hp r rd ha kk⟩
 ·exact ha.elim
def aNext:AS:=λe ρ=>e.nx ρ
def aSeq (a b:AS):AS:=λe ρ=>a {e with nx:=b e} ρ
theorem b0a:TSok K pr tNext aNext:=λF σ ρ H D e hp r h k=>k.nx _ _ _ h r
theorem a0l (ha:TSok K pr t a)(hb:TSok K pr u b):TSok K pr (tSeq t u) (aSeq a b):=λF σ ρ H D e hp r h k =>
 ha F σ ρ H _ _ hp r h ⟨λσ' ρ' H' h' r'=>hb F σ' ρ' H' D e hp r' h' k,k.bk,k.ct,k.rt⟩
def n1t (x:AE):AS:=λe ρ=>x ρ λ_ ρ1=>e.nx ρ1
theorem j0n (h:TEok K te ae):TSok K pr (k1f te) (n1t ae):=λF σ ρ H D e hp r ha k =>
 h F σ ρ H _ _ r ha λr1 ρ1 v H1 h1 o=>k.nx _ _ _ h1 o.inF.1
def aRet (x:AE):AS:=λe ρ=>x ρ e.rt
theorem a0v (h:TEok K te ae):TSok K pr (tRet te) (aRet ae):=λF σ ρ H D e hp r ha k =>
 h F σ ρ H _ _ r ha λr1 ρ1 v H1 h1 o=>k.rt _ _ _ _ _ h1 o.rel
def aIfS (c:AT)(a b:AS):AS:=λe ρ=>c ρ λk ρ1=>if k=true then a e ρ1 else b e ρ1
theorem b0v (hc:TTok K tt at')(ha:TSok K pr t a)(hb:TSok K pr u b):TSok K pr (tIfS tt t u) (aIfS at' a b):=by
 intro F σ ρ H D e hp r h k
 refine hc F σ ρ H _ _ r h λc ρ1 H1 h1 r1 k1=>?_
 cases c with
 | true=>exact ha F σ ρ1 H1 D e hp r1 h1 k
 | false=>exact hb F σ ρ1 H1 D e hp r1 h1 k
def stS (i:Nat):R->En->(En->Prop)->Prop
 | .d d,ρ,k=>k (pt ρ i (.vl d))
 | .n s,ρ,k=>k (pt ρ i s)
 | .o j,ρ,k=>(match gt ρ j with
  | .ow ds=>k (pt (pt ρ j (.vl (.lst ds))) i (.vl (.lst ds)))
  | .vl d=>k (pt ρ i (.vl d))
  | .ex C fs=>k (pt ρ i (.ex C fs))
  | .ob C fs=>k (pt ρ i (.ob C fs))
  | _=>False)
 | .t _,_,_=>False
 | .x s,ρ,k=>k (pt ρ i s)
def aSet (i:Nat)(x:AE):AS:=λe ρ=>x ρ λr ρ1=>stS i r ρ1 e.nx
theorem f1y {i:Nat}(hi:pr i=false)(h:TEok K te ae):TSok K pr (λD σ H=>te σ H λv H'=>D.nx (σ.set i (some v)) H') (aSet i ae):=by
 intro F σ ρ H D e hp r ha k
 refine h F σ ρ H _ _ r ha λr1 ρ1 v H1 h1 o=>?_
 have np:=i1f hp hi
 cases r1 with
 | d d=>exact k.nx _ _ _ h1 (o.1.set o.2.2 np)
 | t n=>exact h1.elim
 | x s=>exact k.nx _ _ _ h1 (o.1.setS o.2.2.1 o.2.2.2 np)
 | n s =>
  obtain⟨Hb,l,u,a1,a2,a3,a4,a5,rfl,rfl⟩:=o
  exact k.nx _ _ _ h1 (a1.setF a3 a4 a5 np)
 | o j =>
  obtain⟨r1,k1,ej⟩:=o
  have h2:(match gt ρ1 j with
   | .ow ds=>e.nx (pt (pt ρ1 j (.vl (.lst ds))) i (.vl (.lst ds)))
   | .vl d=>e.nx (pt ρ1 i (.vl d))
   | .ex C fs=>e.nx (pt ρ1 i (.ex C fs))
   | .ob C fs=>e.nx (pt ρ1 i (.ob C fs))
   | _=>False):=h1
  clear h1
  split at h2
  ·rename_i ds hg
   obtain⟨l,el,r2,k2,rd⟩:=r1.frz hg
   rw[ej]at el
   injection el with el;injection el with el;subst el
   exact k.nx _ _ _ h2 (r2.set rd np)
  ·rename_i d hg
   have q:=r1.sl j
   rw[hg]at q
   obtain⟨x,e1,e2⟩:=q
   rw[ej]at e1
   injection e1 with e1;injection e1 with e1;subst e1
   exact k.nx _ _ _ h2 (r1.set e2 np)
  ·rename_i C fs hg
   have q:=r1.sl j
   rw[hg,ej]at q
   exact k.nx _ _ _ h2 (r1.setS rfl q np)
  ·rename_i C fs hg
   have q:=r1.sl j
   rw[hg,ej]at q
   exact k.nx _ _ _ h2 (r1.setS rfl q np)
  ·exact h2.elim
theorem a0u {i:Nat}(h:TEok K te ae)(hi:pr i=false):TSok K pr (tAsg te (b1z i)) (aSet i ae):=f1y hi h
theorem h0a {i n:Nat}{js:List Nat}{wi:TI}{g:TG}{tc:TT}(h:TEok K (y0i n js wi g tc te) ae)(hi:pr i=false):TSok K pr (λD σ H=>y0i n js wi g tc te σ H λv H'=>D.nx (σ.set i (some v)) H') (aSet i ae):=f1y hi h
def aAsg (x:AE)(g:AG):AS:=λe ρ=>x ρ λr ρ1=>sto [r.frz] ρ1 λds ρ2=>match ds with
 | [d]=>g d ρ2 e.nx
 | _=>False
theorem q0o {g:TG}{ag:AG}(h:TEok K te ae)(hg:TGok K pr g ag):TSok K pr (tAsg te g) (aAsg ae ag):=by
 intro F σ ρ H D e hp r ha k
 refine h F σ ρ H _ _ r ha λr1 ρ1 v H1 h1 o=>?_
 obtain⟨r',k1,i1⟩:=o.inF
 obtain⟨ds,ρ2,h2,r2,k2,rd⟩:=m0g r' (.cons i1 .nil) h1
 split at h2
 ·rename_i d
  unfold RepDs at rd
  exact hg F σ ρ2 H1 v d _ _ hp r2 rd.1 h2 λσ3 ρ3 h3 r3 _ _ _=>k.nx _ _ _ h3 r3
 ·exact h2.elim
def aAug (i:Nat)(x:AE)(f:Int->Int->Int):AS:=λe ρ=>match gt ρ i with
 | .vl (.int p)=>x ρ λr ρ1=>(match r with
  | .d (.int y)=>e.nx (pt ρ1 i (.vl (.int (f p y))))
  | _=>False)
 | _=>False
theorem a1d {i:Nat}{f:Int->Int->Int}(h:TEok K te ae)(hi:pr i=false):TSok K pr (tAug i te (ipI f)) (aAug i ae f):=by
 intro F σ ρ H D e hp r ha k
 unfold aAug at ha
 split at ha
 ·rename_i p hg
  have q:=r.sl i
  rw[hg]at q
  obtain⟨x,e1,e2⟩:=q
  unfold RepD at e2;subst e2
  refine⟨_,e1,h F σ ρ H _ _ r ha λr1 ρ1 v H1 h1 o=>?_⟩
  obtain⟨r',k1,i1⟩:=o.inF
  split at h1
  ·exact⟨_,_,rfl,i1.int,k.nx _ _ _ h1 (r'.set (by unfold RepD;rfl) (i1f hp hi))⟩
  ·exact h1.elim
 ·exact ha.elim
def whA (c:AT)(b:AS)(e:u0n):Nat->En->Prop
 | 0,_=>False
 | n+1,ρ=>c ρ λk ρ1=>if k=true then b {nx:=whA c b e n,ct:=whA c b e n,bk:=e.nx,rt:=e.rt} ρ1 else e.nx ρ1
def g1u (c:AT)(b:AS):AS:=λe ρ=>∃n,whA c b e n ρ
theorem a1c (hc:TTok K tt at')(hb:TSok K pr t a):TSok K pr (f1u tt t) (g1u at' a):=by
 intro F σ ρ H D e hp r ha k
 obtain⟨n,ha⟩:=ha
 refine⟨λm σ H=>∃ ρ,Rel K F σ ρ H/\whA at' a e m ρ,⟨n,ρ,r,ha⟩,λm σ H ⟨ρ,r,h⟩=>?_⟩
 cases m with
 | zero=>exact h.elim
 | succ m =>
  refine hc F σ ρ H _ _ r h λc ρ1 H1 h1 r1 k1=>?_
  cases c with
  | false=>exact k.nx _ _ _ h1 r1
  | true =>
   refine⟨λσ' H'=>∃ ρ',Rel K F σ' ρ' H'/\whA at' a e m ρ',λσ' H' h'=>⟨m,Nat.lt_succ_self m,h'⟩,?_⟩
   exact hb F σ ρ1 H1 _ _ hp r1 h1 ⟨λσ' ρ' H' h' r'=>⟨ρ',r',h'⟩,k.nx,λσ' ρ' H' h' r'=>⟨ρ',r',h'⟩,k.rt⟩
abbrev AI:=En->(List D->(En->Prop)->En->Prop)->Prop
def WkAt (K:PySem.W.Frag)(S:Addr->Prop)(H:Hp)(J:It)(ds:List D):Prop:=∀k:Nat,(∀d,ds[k]? = some d->J.go k H/\∀x H',J.yld k H x H'->Same H H'/\RepD K (hid H' S) x d)/\(ds.length<=k->J.stop k H)
def TIok (K:PySem.W.Frag)(pin:Nat->Bool)(wi:TI)(ai:AI):Prop:=∀F σ ρ H q Rk,Rel K F σ ρ H->ai ρ q->(∀ds c ρ' J H',q ds c ρ'->Rel K F σ ρ' H'->Kp σ ρ ρ' H H' ->
 (∀ σ2 ρ2 H2,Same (hid H' (hs F σ ρ')) (hid H2 (hs F σ2 ρ2))->(∀i,SvOk K (hid H2 (hs F σ2 ρ2)) H2 σ2[i]? (gt ρ2 i))->(∀j a,pin j=true->σ[j]? = some (some (.ref a))->σ2[j]? = some (some (.ref a)))->(∀a,hs F σ2 ρ2 a->Nt H2 a)->c ρ2->WkAt K (hs F σ2 ρ2) H2 J ds)->Rk J H')->wi σ H Rk
def rngD (lo:Int)(n:Nat):List D:=(List.range n).map λ(i:Nat)=>D.int (lo+(i:Nat))
theorem d0s (lo:Int)(n:Nat):(rngD lo n).length=n:=by simp[rngD]
theorem f1r {S:Addr->Prop}{H:Hp}{lo:Int}{n:Nat}:WkAt K S H (Itr lo n) (rngD lo n):=by
 intro k
 constructor
 ·intro d h
  unfold rngD at h
  rw[List.getElem?_map]at h
  obtain⟨j,e1,e2⟩:=Option.map_eq_some_iff.mp h
  have lt:k<n:=by
   rcases Nat.lt_or_ge k n with q | q
   ·exact q
   ·rw[List.getElem?_eq_none (by simpa using q)]at e1;cases e1
  rw[List.getElem?_range lt]at e1
  cases e1
  refine⟨lt,λx H' z=>⟨z.1▸Same.refl H,?_⟩⟩
  rw[z.2,<- e2]
  unfold RepD;rfl
 ·intro h;rw[d0s]at h;exact h
def n1q (as:AA):AI:=λρ q=>as ρ λrs ρ1=>match rs with
 | [.d (.int j)]=>(-(2^62)<=j/\j<2^62)/\q (rngD 0 j.toNat) (λ_=>True) ρ1
 | _=>False
def n1p (as:AA):AI:=λρ q=>as ρ λrs ρ1=>match rs with
 | [.d (.int i),.d (.int j)]=>(-(2^62)<=i/\i<2^62/\-(2^62)<=j/\j<2^62)/\q (rngD i (j - i).toNat) (λ_=>True) ρ1
 | _=>False
theorem e0l {pin:Nat->Bool}{ta:TA}{as:AA}(h:TAok K ta as):TIok K pin (l1s ta) (n1q as):=by
 intro F σ ρ H q Rk r ha k
 refine h F σ ρ H _ _ r ha λrs ρ1 vs H1 h1 r1 i1 k1=>?_
 split at h1
 ·obtain⟨x,rfl,i⟩:=i1.one
  exact⟨_,by rw[i.int],h1.1.1,h1.1.2,k _ _ _ _ _ h1.2 r1 k1 λ_ _ _ _ _ _ _ _=>f1r⟩
 ·exact h1.elim
theorem z0r {pin:Nat->Bool}{ta:TA}{as:AA}(h:TAok K ta as):TIok K pin (l1r ta) (n1p as):=by
 intro F σ ρ H q Rk r ha k
 refine h F σ ρ H _ _ r ha λrs ρ1 vs H1 h1 r1 i1 k1=>?_
 split at h1
 ·obtain⟨x,y,rfl,i,j⟩:=i1.two
  exact⟨_,_,by rw[i.int,j.int],h1.1,k _ _ _ _ _ h1.2 r1 k1 λ_ _ _ _ _ _ _ _=>f1r⟩
 ·exact h1.elim
def iSeq (K:PySem.W.Frag)(tl:TE):TI:=λσ H R=>tl σ H λx H1=>∃a,x = .ref a/\(((∃xs,SqL K H1 a xs)/\R (Itl K a) H1)∨((∃xs,SqT K H1 a xs)/\R (Itt K a) H1))
theorem k1v {X:Cx}{tg l:Expr}{tl:TE}(hl:PE X l tl):PI X tg l (iSeq X.K tl):=by
 intro pins s σ H R I h
 refine thn (hl pins s σ H _ I h) λv s1 ⟨x,H1,I1,r1,q1⟩=>?_
 obtain⟨a,e,⟨⟨xs,hq⟩,q⟩ | ⟨⟨xs,hq⟩,q⟩⟩:=q1
 ·subst e
  cases r1
  obtain⟨its,rv,p,hz⟩:=I1.list hq
  refine wpAny_pyIter_list p.isList ?_
  refine⟨s1.heap.objs.size,[s1.heap.objs.size],_,_,H1,rfl,I1.kept (t':=s1.toks) λb o e=>Heap.get?_push_of_some _ e,z0m a _,⟨_,Heap.get?_push_size _ rfl,rfl,rfl⟩,λb hb=>?_,q⟩
  have e:b=s1.heap.objs.size:=by simpa using hb
  subst e
  exact I1.fpOk (Nat.le_refl _) (I1.hok.fresh (Nat.le_refl _))
 ·subst e
  cases r1
  obtain⟨its,rv,p,hz⟩:=I1.tuple hq
  refine wpAny_pyIter_tuple (show s1.heap.IsTuple a its.toArray from p) ?_
  refine⟨s1.heap.objs.size,[s1.heap.objs.size],_,_,H1,rfl,I1.kept (t':=s1.toks) λb o e=>Heap.get?_push_of_some _ e,y0f a _,⟨_,Heap.get?_push_size _ rfl,rfl,rfl⟩,λb hb=>?_,q⟩
  have e:b=s1.heap.objs.size:=by simpa using hb
  subst e
  exact I1.fpOk (Nat.le_refl _) (I1.hok.fresh (Nat.le_refl _))
theorem b0z (K:PySem.W.Frag){X:Cx}{tg l:Expr}{tl:TE}(hl:PE X l tl)(hK:X.K=K:=by rfl):PI X tg l (iSeq K tl):=by subst hK;exact k1v hl
theorem f1s {S:Addr->Prop}{H:Hp}{a:Addr}{vs:List V}{ds:List D}(h:SqL K H a vs)(rd:RepDs K (hid H S) vs ds):WkAt K S H (Itl K a) ds:=by
 intro k
 constructor
 ·intro d e
  obtain⟨v,e1,rv⟩:=rd.get e
  refine⟨⟨vs,v,h,e1⟩,λx H' z=>⟨z.1▸Same.refl H,?_⟩⟩
  have:=z.2 vs h
  rw[e1]at this;cases this;rw[z.1];exact rv
 ·intro z;exact⟨vs,h,by rw[rd.length];exact z⟩
theorem j1x {S:Addr->Prop}{H:Hp}{a:Addr}{vs:List V}{ds:List D}(h:SqT K H a vs)(rd:RepDs K (hid H S) vs ds):WkAt K S H (Itt K a) ds:=by
 intro k
 constructor
 ·intro d e
  obtain⟨v,e1,rv⟩:=rd.get e
  refine⟨⟨vs,v,h,e1⟩,λx H' z=>⟨z.1▸Same.refl H,?_⟩⟩
  have:=z.2 vs h
  rw[e1]at this;cases this;rw[z.1];exact rv
 ·intro z;exact⟨vs,h,by rw[rd.length];exact z⟩
def n1o (pin:Nat->Bool)(x:AE):AI:=λρ q=>x ρ λr ρ1=>match r.frz with
 | .d (.lst ds)=>q ds (λ_=>True) ρ1
 | .d (.tup ds)=>q ds (λ_=>True) ρ1
 | .o i=>(match gt ρ1 i with
  | .ow ds=>pin i=true/\q ds (λρ2=>gt ρ2 i = .ow ds) ρ1
  | _=>False)
 | _=>False
theorem b0n {pin:Nat->Bool}(h:TEok K te ae):TIok K pin (iSeq K te) (n1o pin ae):=by
 intro F σ ρ H q Rk r ha k
 refine h F σ ρ H _ _ r ha λr1 ρ1 x H1 h1 o1=>?_
 obtain⟨r',k1,i1⟩:=o1.inF
 split at h1
 ·rename_i ds e
  rw[e]at i1
  have rd:RepD K _ x (.lst ds):=i1
  unfold RepD at rd
  obtain⟨a,vs,rfl,sq,rd⟩:=rd
  refine⟨a,rfl,.inl ⟨⟨vs,d0c.seq (StL.sq sq)⟩,k _ _ _ _ _ h1 r' k1 λσ2 ρ2 H2 sm _ _ _ _=>?_⟩⟩
  exact f1s (d0c.seq (sm.seq (StL.sq sq))) (rd.same sm)
 ·rename_i ds e
  rw[e]at i1
  have rd:RepD K _ x (.tup ds):=i1
  unfold RepD at rd
  obtain⟨a,vs,rfl,sq,rd⟩:=rd
  refine⟨a,rfl,.inr ⟨⟨vs,d0c.seqT sq.sq⟩,k _ _ _ _ _ h1 r' k1 λσ2 ρ2 H2 sm _ _ _ _=>?_⟩⟩
  exact j1x (d0c.seqT (sm.seqT sq.sq)) (rd.same sm)
 ·rename_i i e
  rw[e]at i1
  have ei:σ[i]? = some (some x):=i1
  split at h1
  ·rename_i ds hg
   have s:=r'.sl i
   rw[hg,ei]at s
   obtain⟨a,vs,e1,hl,rd⟩:=s
   injection e1 with e1;injection e1 with e1;subst e1
   refine⟨a,rfl,.inl ⟨⟨vs,SqL.of hl⟩,k _ _ _ _ _ h1.2 r' k1 λσ2 ρ2 H2 sm sv pn _ hc=>?_⟩⟩
   have s2:=sv i
   rw[hc,pn i a h1.1 ei]at s2
   obtain⟨a',vs',e2,hl',rd'⟩:=s2
   injection e2 with e2;injection e2 with e2;injection e2 with e2;subst e2
   exact f1s (SqL.of hl') rd'
  ·exact h1.elim
 ·exact h1.elim
def forA (c:En->Prop)(g:AG)(b:AS)(e:u0n):List D->En->Prop
 | [],ρ=>c ρ/\e.nx ρ
 | d::ds,ρ=>c ρ/\g d ρ λρ1=>b {nx:=forA c g b e ds,ct:=forA c g b e ds,bk:=e.nx,rt:=e.rt} ρ1
def aFor (i:AI)(g:AG)(b:AS):AS:=λe ρ=>i ρ λds c ρ1=>forA c g b e ds ρ1
theorem f0m {pin:Nat->Bool}{wi:TI}{ai:AI}{g:TG}{ag:AG}(hi:TIok K pin wi ai)(hg:TGok K (λj=>pr j||pin j) g ag)(hb:TSok K (λj=>pr j||pin j) t a):TSok K pr (tFor wi g t) (aFor ai ag a):=by
 intro F σ ρ H D e hp r ha k
 refine hi F σ ρ H _ _ r ha λds c ρ1 J H1 h1 r1 k1 wk=>?_
 have hp':∀i a,(rebase F σ ρ1 H1 pin).pin i a->(pr i||pin i)=true:=λi a h=>by
  rcases h with h | h | h
  ·rw[hp i a (.inl h)];rfl
  ·rw[hp i a (.inr h)];rfl
  ·rw[h.1];cases pr i <;> rfl
 have ek:m1q K (rebase F σ ρ1 H1 pin) D e:=⟨λ_ _ _ h' r'=>k.nx _ _ _ h' (r1.unbase r').1,λ_ _ _ h' r'=>k.bk _ _ _ h' (r1.unbase r').1,λ_ _ _ h' r'=>k.ct _ _ _ h' (r1.unbase r').1,λ_ _ _ _ _ h' r'=>k.rt _ _ _ _ _ h' (RelR.unbase r1 r')⟩
 refine⟨λi m σ' H'=>∃ ρ',m=ds.length - i/\i<=ds.length/\Rel K (rebase F σ ρ1 H1 pin) σ' ρ' H'/\forA c ag a e (ds.drop i) ρ',⟨ds.length,ρ1,rfl,Nat.zero_le _,r1.rebase pin,h1⟩,?_⟩
 rintro i m σ' H' ⟨ρ',rfl,hl,r',h'⟩
 have w:c ρ'->WkAt K (hs F σ' ρ') H' J ds:=λhc=>wk σ' ρ' H' (r1.unbase r').2 r'.sl (λj x hj ej=>r'.mi j x (.inr (.inr ⟨hj,ej⟩))) (λa z=>e1s r' z) hc
 rcases Nat.lt_or_ge i ds.length with q | q
 ·right
  rw[List.drop_eq_getElem_cons q]at h'
  unfold forA at h'
  obtain⟨hc,h'⟩:=h'
  obtain⟨go,yld⟩:=(w hc i).1 ds[i] (List.getElem?_eq_getElem q)
  refine⟨go,λσ2 H2=>∃ ρ2,Rel K (rebase F σ ρ1 H1 pin) σ2 ρ2 H2/\forA c ag a e (ds.drop (i+1)) ρ2,λσ2 H2 ⟨ρ2,r2,h2⟩=>⟨ds.length - (i+1),by omega,ρ2,rfl,q,r2,h2⟩,λx H2 hy=>?_⟩
  obtain⟨sm,rd⟩:=yld x H2 hy
  refine hg _ σ' ρ' _ x _ _ _ hp' (r'.grow sm) rd h' λσ3 ρ3 h3 r3 _ _ _=>?_
  exact hb _ σ3 ρ3 _ _ _ hp' r3 h3 ⟨λσ' ρ' H' h' r'=>⟨ρ',r',h'⟩,ek.nx,λσ' ρ' H' h' r'=>⟨ρ',r',h'⟩,ek.rt⟩
 ·left
  rw[List.drop_eq_nil_of_le q]at h'
  unfold forA at h'
  obtain⟨hc,h'⟩:=h'
  exact⟨(w hc i).2 q,ek.nx _ _ _ h' r'⟩
end
def blkE (n:Nat)(js:List Nat)(ρ:En):En:=List.replicate n .un++js.map (gt ρ)
def blkR (n:Nat)(js:List Nat):List R:=List.replicate n (R.t "")++js.map R.o
theorem f0e (n:Nat)(js:List Nat)(ρ:En):(blkR n js).map (g0g ρ)=blkE n js ρ:=by
 unfold blkR blkE
 rw[List.map_append,List.map_replicate,List.map_map]
 rfl
theorem s0a (js:List Nat):∀n,dis (blkR n js)=dis (js.map R.o)
 | 0=>rfl
 | n+1=>by
  show dis (R.t "" :: blkR n js)=_
  exact s0a js n
theorem u0f (js:List Nat)(ρ:En)(n:Nat):∀ss:En,ss.length=n+js.length->back ρ (blkR n js) ss=back ρ (js.map R.o) (ss.drop n):=by
 induction n with
 | zero=>intro ss _;rfl
 | succ n ih =>
  intro ss h
  cases ss with
  | nil=>simp at h;omega
  | cons s ss=>exact ih ss (by simp at h;omega)
theorem x0y {n:Nat}{js:List Nat}{ρ:En}{i:Nat}(h:(gt (blkE n js ρ) i).own=true):n<=i:=by
 rcases Nat.lt_or_ge i n with q | q
 ·exfalso
  have:∀(n i:Nat) (x:En),i<n->gt (List.replicate n Sv.un++x) i = .un:=by
   intro n
   induction n with
   | zero=>intro i x h;omega
   | succ n ih =>
    intro i x h
    cases i with
    | zero=>rfl
    | succ i=>exact ih i x (by omega)
  unfold blkE at h
  rw[this n i _ q]at h
  cases h
 ·exact q
section
variable {K:PySem.W.Frag}{F:Fr}{σ σ':St}{ρ ρ':En}{H H':Hp}
theorem x0x (n:Nat)(js:List Nat):Srcs K F σ ρ H (bst n σ js) (blkR n js):=by
 unfold bst blkR
 induction n with
 | zero =>
  induction js with
  | nil=>exact .nil
  | cons j js ih=>exact .cons rfl ih
 | succ n ih=>exact .cons trivial ih
theorem o0g:∀(n i:Nat) (ρ:En),gt (ρ.drop n) i=gt ρ (n+i)
 | 0,i,ρ=>by simp
 | n+1,i,[]=>by simp[gt]
 | n+1,i,s::ρ=>by rw[List.drop_succ_cons,o0g n i ρ,Nat.add_right_comm];rfl
theorem t0m:∀(n i:Nat) (x:En),gt (List.replicate n Sv.un++x) i=if i<n then .un else gt x (i - n)
 | 0,i,x=>by simp
 | n+1,0,x=>by simp[List.replicate_succ,gt]
 | n+1,i+1,x=>by
  show gt (List.replicate n Sv.un++x) i=_
  rw[t0m n i x]
  by_cases h:i<n
  ·rw[if_pos h,if_pos (by omega)]
  ·rw[if_neg h,if_neg (by omega)];congr 1;omega
theorem Rel.forget {n:Nat}(r:Rel K F σ ρ H)(hn:n<=σ.length)(hp:∀i a,F.pin i a->n<=i):Rel K F (List.replicate n none++σ.drop n) (List.replicate n .un++ρ.drop n) H/\Same (hid H (hs F σ ρ)) (hid H (hs F (List.replicate n none++σ.drop n) (List.replicate n .un++ρ.drop n))):=by
 have g:∀i,gt (List.replicate n .un++ρ.drop n) i=if i<n then .un else gt ρ i:=λi=>by
  rw[t0m]
  split
  ·rfl
  ·rw[o0g];congr 1;omega
 have s:∀i,n<=i->(List.replicate n none++σ.drop n)[i]? = σ[i]?:=λi h=>by
  rw[List.getElem?_append_right (by simpa using h),List.length_replicate,List.getElem?_drop]
  congr 1;omega
 have own':∀i,(gt (List.replicate n .un++ρ.drop n) i).own=true->n<=i/\(gt ρ i).own=true:=λi h=>by
  rw[g]at h
  split at h
  ·cases h
  ·exact⟨by omega,h⟩
 have sub:∀a,c0s (List.replicate n none++σ.drop n) (List.replicate n .un++ρ.drop n) a->c0s σ ρ a:=λa ⟨i,hi,e⟩=>by
  obtain⟨h1,h2⟩:=own' i hi
  rw[s i h1]at e
  exact⟨i,h2,e⟩
 have vis:Same (hid H (hs F σ ρ)) (hid H (hs F (List.replicate n none++σ.drop n) (List.replicate n .un++ρ.drop n))):=c0a λa o e n=>⟨e,λz=>n (z.imp id (sub a))⟩
 refine⟨⟨by have:=r.len;simp;omega,r.fr,r.zl,λa h=>r.zo a (sub a h),λi a hi e=>?_,λi a h=>?_,r.ml,r.ma,λi j a hi hj ei ej=>?_,λi=>?_⟩,vis⟩
 ·obtain⟨h1,h2⟩:=own' i hi
  rw[s i h1]at e
  exact r.ow i a h2 e
 ·rw[s i (hp i a h)];exact r.mi i a h
 ·obtain⟨h1,h2⟩:=own' i hi
  obtain⟨h3,h4⟩:=own' j hj
  rw[s i h1]at ei
  rw[s j h3]at ej
  exact r.nd i j a h2 h4 ei ej
 ·rw[g]
  split
  ·trivial
  ·rw[s i (by omega)]
   exact(r.sl i).keep vis λ_ _ _ _ e=>e
end
def l0s (n:Nat)(js:List Nat)(c:En->Prop)(g:AG)(tc:AT)(te:AE)(q:List D->En->Prop):List D->List D->En->Prop
 | [],acc,ρ=>c ρ/\q acc ρ
 | d::ds,acc,ρ=>c ρ/\g d (blkE n js ρ) λρ1=>tc ρ1 λb ρ2=>if b=true then te ρ2 λr ρ3=>sto [r.frz] ρ3 λes ρ4=>l0s n js c g tc te q ds (acc++es) (back ρ (js.map R.o) (ρ4.drop n))else l0s n js c g tc te q ds acc (back ρ (js.map R.o) (ρ2.drop n))
def n1u (n:Nat)(js:List Nat)(i:AI)(g:AG)(tc:AT)(te:AE):AE:=λρ q=>i ρ λds c ρ1=>ds.length<=1000000/\l0s n js c g tc te (λacc ρ2=>q (.f acc) ρ2) ds [] ρ1
def aAll:AT:=λρ q=>q true ρ
section
variable {K:PySem.W.Frag}
theorem d0r:TTok K tAll aAll:=λF σ ρ H q Q r h k=>k _ _ _ h r .refl
theorem z0z {F:Fr}{σ:St}{ρ:En}{H:Hp}{v:V}{r:R}{q:List D->En->Prop}(a:Rel K F σ ρ H)(i:InF K F σ ρ H v r)(h:sto [r] ρ q):∃d ρ',q [d] ρ'/\Rel K F σ ρ' H/\Kp σ ρ ρ' H H/\RepD K (hid H (hs F σ ρ')) v d:=by
 obtain⟨ds,ρ',h1,h2,h3,h4⟩:=m0g a (.cons i .nil) h
 cases ds with
 | nil=>unfold RepDs at h4;exact h4.elim
 | cons d ds =>
  unfold RepDs at h4
  cases ds with
  | nil=>exact⟨d,ρ',h1,h2,h3,h4.1⟩
  | cons _ _=>obtain⟨_,z⟩:=h4;unfold RepDs at z;exact z.elim
theorem b0t {n:Nat}{js:List Nat}{wi:TI}{g:TG}{tc:TT}{te:TE}{ai:AI}{ag:AG}{atc:AT}{ate:AE}(hi:TIok K (λ_=>true) wi ai)(hg:TGok K (λj=>decide (n<=j)) g ag)(hc:TTok K tc atc)(he:TEok K te ate)
  (hd:dis (js.map R.o)=true:=by rfl):TEok K (y0i n js wi g tc te) (n1u n js ai ag atc ate):=by
 intro F σ ρ H q Q r h k
 refine hi F σ ρ H _ _ r h λds c ρ1 J H1 h1 r1 k1 wk=>?_
 obtain⟨hz,h1⟩:=h1
 have hd':dis (blkR n js)=true:=by rw[s0a];exact hd
 refine⟨λi m ys H'=>∃ ρ' acc,m=ds.length - i/\i<=ds.length/\Rel K F σ ρ' H'/\Kp σ ρ1 ρ' H1 H'/\RepDs K (hid H' (hs F σ ρ')) ys acc/\acc.length<=i/\l0s n js c ag atc ate (λacc ρ2=>q (.f acc) ρ2) (ds.drop i) acc ρ',⟨ds.length,ρ1,[],rfl,Nat.zero_le _,r1,.refl,.nil,Nat.zero_le _,h1⟩,?_⟩
 rintro i m ys H' ⟨ρ',acc,rfl,hl,r',k',rd,al,h'⟩
 have w:c ρ'->WkAt K (hs F σ ρ') H' J ds:=λhc=>wk σ ρ' H' k'.vis r'.sl (λ_ _ _ e=>e) (λa z=>e1s r' z) hc
 have yl:ys.length=acc.length:=rd.length
 rcases Nat.lt_or_ge i ds.length with lt | ge
 ·right
  rw[List.drop_eq_getElem_cons lt]at h'
  unfold l0s at h'
  obtain⟨hcc,h'⟩:=h'
  obtain⟨go,yld⟩:=(w hcc i).1 ds[i] (List.getElem?_eq_getElem lt)
  refine⟨go,a1e (by omega),λzs H2=>∃ ρ2 acc2,Rel K F σ ρ2 H2/\Kp σ ρ1 ρ2 H1 H2/\RepDs K (hid H2 (hs F σ ρ2)) zs acc2/\acc2.length<=i+1/\l0s n js c ag atc ate (λacc ρ2=>q (.f acc) ρ2) (ds.drop (i+1)) acc2 ρ2,
   λzs H2 ⟨ρ2,acc2,a1,a2,a3,a4,a5⟩=>⟨ds.length - (i+1),by omega,ρ2,acc2,rfl,lt,a1,a2,a3,a4,a5⟩,λx H2 hy=>?_⟩
  obtain⟨sm,rx⟩:=yld x H2 hy
  have r0':=r'
  have k':Kp σ ρ1 ρ' H1 H2:=k'.trans ⟨λa o e _=>sm a o e,λ_ h=>h⟩
  have rd:RepDs K (hid H2 (hs F σ ρ')) ys acc:=rd.same (c0a λa o e n=>⟨sm a o e,n⟩)
  have r':=r0'.grow sm
  have src:=x0x (K:=K) (F:=F) (σ:=σ) (ρ:=ρ') (H:=H2) n js
  have rb:=r'.sub src hd'
  have hs2:=z0y r' src
  rw[f0e]at rb hs2
  have pin:∀i a,(j0y F σ ρ' H2 (bst n σ js) (blkE n js ρ')).pin i a->decide (n<=i)=true:=λi a h=>by
   rcases h with h | h
   ·exact decide_eq_true (x0y h.1)
   ·exact h.elim
  have hlen:(bst n σ js).length=n+js.length:=k0q
  have ret:∀ σ2 ρ2 H3,Rel K (j0y F σ ρ' H2 (bst n σ js) (blkE n js ρ')) σ2 ρ2 H3->σ2.length=(bst n σ js).length->σ2.drop n=capt σ js->(∀i,(gt ρ2 i).own=true->(gt (blkE n js ρ') i).own=true) ->
    Rel K F σ (back ρ' (js.map R.o) (ρ2.drop n)) H3/\Kp σ ρ' (back ρ' (js.map R.o) (ρ2.drop n)) H2 H3/\Same (hid H3 (hs (j0y F σ ρ' H2 (bst n σ js) (blkE n js ρ')) σ2 ρ2)) (hid H3 (hs F σ (back ρ' (js.map R.o) (ρ2.drop n)))):=λσ2 ρ2 H3 rr hlen2 hdrop hown=>by
   obtain⟨f1,f2⟩:=rr.forget (n:=n) (by omega) λi a h=>of_decide_eq_true (pin i a h)
   rw[hdrop]at f1 f2
   have f1':Rel K (j0y F σ ρ' H2 (bst n σ js) ((blkR n js).map (g0g ρ'))) (bst n σ js) (List.replicate n .un++ρ2.drop n) H3:=by rw[f0e];exact f1
   have bk:=r'.back src hd' f1' λi hi=>by
    rw[f0e]
    rw[t0m]at hi
    split at hi
    ·cases hi
    ·rename_i hni
     rw[o0g,show n+(i - n)=i by omega]at hi
     exact hown i hi
   have ln:(List.replicate n Sv.un++ρ2.drop n).length=n+js.length:=by
    have:=rr.len
    simp;omega
   rw[u0f js ρ' n _ ln,List.drop_left' (by simp),f0e]at bk
   exact⟨bk.1,bk.2.1,f2.trans bk.2.2⟩
  refine hg _ (bst n σ js) (blkE n js ρ') H2 x _ _ _ pin rb (by rw[hs2];exact rx) h' λσ2 ρ2 h2 r2 l2 p2 o2=>?_
  have hdrop:σ2.drop n=capt σ js:=by
   have:σ2.drop n=(bst n σ js).drop n:=by
    apply List.ext_getElem?
    intro i
    rw[List.getElem?_drop,List.getElem?_drop]
    exact p2 (n+i) (decide_eq_true (by omega))
   rw[this]
   unfold bst
   rw[List.drop_left' (by simp)]
  refine⟨hdrop,hc _ σ2 ρ2 H2 _ _ r2 h2 λb ρ3 H3 h3 r3 k3=>?_⟩
  cases b with
  | false =>
   obtain⟨b1,b2,_⟩:=ret σ2 ρ3 H3 r3 l2 hdrop λi hi=>(o2 i (k3.sb i hi)).1
   exact⟨_,acc,b1,k'.trans b2,rd.same b2.vis,by omega,h3⟩
  | true =>
   refine he _ σ2 ρ3 H3 _ _ r3 h3 λr4 ρ4 v H4 h4 o4=>?_
   obtain⟨r4',k4,i4⟩:=o4.inF
   obtain⟨d,ρ5,h5,r5,k5,rv⟩:=z0z r4' i4 h4
   obtain⟨b1,b2,b3⟩:=ret σ2 ρ5 H4 r5 l2 hdrop λi hi=>(o2 i (k3.sb i (k4.sb i (k5.sb i hi)))).1
   exact⟨_,acc++[d],b1,k'.trans b2,(rd.same b2.vis).append (.one (rv.same b3)),by simp;omega,h5⟩
 ·left
  rw[List.drop_eq_nil_of_le ge]at h'
  unfold l0s at h'
  obtain⟨hcc,h'⟩:=h'
  refine⟨(w hcc i).2 ge,small (by omega),λl hl'=>?_⟩
  exact((k.after k1).after k').new r' h' rd hl'
end
def outS:En->En->En
 | [],_=>[]
 | s::ss,ρ=>(if s.own=true then gt ρ 0 else s)::outS ss ρ.tail
theorem i1v (ρ:En)(i:Nat):gt ρ.tail i=gt ρ (i+1):=by cases ρ <;> rfl
theorem x0e:∀(ss ρ:En),(outS ss ρ).length=ss.length
 | [],_=>rfl
 | s::ss,ρ=>by simp[outS,x0e ss]
theorem v0q:∀(ss ρ:En) (i:Nat),gt (outS ss ρ) i=if(gt ss i).own=true then gt ρ i else gt ss i
 | [],ρ,i=>by simp[outS,gt,Sv.own]
 | s::ss,ρ,0=>rfl
 | s::ss,ρ,i+1=>by
  show gt (outS ss ρ.tail) i=_
  rw[v0q ss ρ.tail i,i1v]
  rfl
def fin (pr:Nat->Bool):R->En->Ko->Prop
 | .d d,ρ,k=>k (.d d) ρ
 | .n s,ρ,k=>k (.n s) ρ
 | .o i,ρ,k=>(match gt ρ i with
  | .ow ds=>if pr i=true then k (.d (.lst ds)) (pt ρ i (.vl (.lst ds)))else k (.n (.ow ds)) (pt ρ i .un)
  | .vl d=>k (.d d) ρ
  | .dk kvs=>if pr i=true then False else k (.n (.dk kvs)) (pt ρ i .un)
  | .dt kvs=>if pr i=true then False else k (.n (.dt kvs)) (pt ρ i .un)
  | _=>False)
 | .t _,_,_=>False
 | .x s,ρ,k=>k (.x s) ρ
def l1b (pr:Nat->Bool)(ss:En):Prop:=∀i,(gt ss i).own=true->pr i=true
section
variable {K:PySem.W.Frag}{F:Fr}{σ σ':St}{ρ ρ':En}{H H':Hp}
open Classical in
noncomputable def del (H:Hp)(l:Addr):Hp:=λa=>if a=l then none else H a
open Classical in
theorem r0t {l:Addr}:del H l l=none:=by unfold del;rw[if_pos rfl]
open Classical in
theorem q0c {a l:Addr}(h:a≠l):del H l a=H a:=by unfold del;rw[if_neg h]
theorem m0b {l:Addr}{o:HO}(h:H l=some o):upd (del H l) l o=H:=by
 funext a
 by_cases e:a=l
 ·subst e;rw[c0v,h]
 ·rw[b0l e,q0c e]
theorem Rel.take (r:Rel K F σ ρ H){i:Nat}(hi:(gt ρ i).own=true)(hm:∀a,¬F.pin i a):∃l o,H l=some o/\σ[i]? = some (some (.ref l))/\Rel K F σ (pt ρ i .un) (del H l)/\SvOk K (hid (del H l) (hs F σ (pt ρ i .un))) H (some (some (.ref l))) (gt ρ i):=by
 have s:=r.sl i
 obtain⟨l,o,el,hl⟩:=s.alive hi
 have own':∀j,(gt (pt ρ i .un) j).own=true->i≠j/\(gt ρ j).own=true:=λj h=>k0m rfl h
 have sub:∀a,c0s σ (pt ρ i .un) a->c0s σ ρ a/\a≠l:=λa ⟨j,hj,e⟩=>by
  obtain⟨ij,hj⟩:=own' j hj
  exact⟨⟨j,hj,e⟩,λz=>ij (r.nd i j l hi hj el (z▸e))⟩
 have ol:c0s σ ρ l:=⟨i,hi,el⟩
 have vis:Same (hid H (hs F σ ρ)) (hid (del H l) (hs F σ (pt ρ i .un))):=c0a λa u e n=>by
  have al:a≠l:=λz=>n (.inr (z▸ol))
  exact⟨by rw[q0c al];exact e,λz=>n (z.imp id λz=>(sub a z).1)⟩
 have h0:F.H0 l=none:=by
  rcases r.ow i l hi el with h | h
  ·exact absurd (Or.inl h.1) (hm l)
  ·exact h
 refine⟨l,o,hl,el,⟨by rw[k0y,r.len],λa u e n=>?_,λa z=>?_,λa h=>r.zo a (sub a h).1,λj a hj e=>r.ow j a (own' j hj).2 e,r.mi,r.ml,λa z=>?_,λj k a hj hk ej ek=>r.nd j k a (own' j hj).2 (own' k hk).2 ej ek,λj=>?_⟩,?_⟩
 ·have al:a≠l:=λz=>by rw[z,h0]at e;cases e
  rw[q0c al];exact r.fr a u e n
 ·have al:a≠l:=λq=>r.zo l ol (q▸z)
  unfold Nt;rw[q0c al];exact r.zl a z
 ·have al:a≠l:=λq=>r.ml a z (q▸h0)
  rw[q0c al];exact r.ma a z
 ·by_cases ij:i=j
  ·subst ij
   rw[t0l ρ i _ (p0r hi)];trivial
  ·rw[d0u ρ i j _ ij]
   refine(r.sl j).keep vis λa u ho e h=>?_
   have al:a≠l:=λz=>ij (r.nd i j l hi ho el (z▸e))
   rw[q0c al];exact h
 ·rw[el]at s
  exact s.keep vis λ_ _ _ _ e=>e
theorem Rel.out {vs:List V}{ss:En}{Z:Addr->Prop}(r0:Rel K (F0 vs ss H Z) (vs.map some) ss H)(r:Rel K (F0 vs ss H Z) σ' ρ' H') :
  Rel K (F0 vs ss H Z) (vs.map some) (outS ss ρ') H'/\Same (hid H' (hs (F0 vs ss H Z) σ' ρ')) (hid H' (hs (F0 vs ss H Z) (vs.map some) (outS ss ρ')))/\∀i,(gt (outS ss ρ') i).own=true->(gt ss i).own=true:=by
 have own':∀i,(gt (outS ss ρ') i).own=true->(gt ss i).own=true/\(gt ρ' i).own=true:=λi h=>by
  rw[v0q]at h
  split at h
  ·rename_i q;exact⟨q,h⟩
  ·rename_i q;exact absurd h q
 have same:∀i a,(gt ss i).own=true->(vs.map some)[i]? = some (some (.ref a))->σ'[i]? = some (some (.ref a)):=λi a h e=>r.mi i a (.inl ⟨h,e⟩)
 have sub:∀a,c0s (vs.map some) (outS ss ρ') a->c0s σ' ρ' a/\c0s (vs.map some) ss a:=λa ⟨i,hi,e⟩=>by
  obtain⟨h1,h2⟩:=own' i hi
  exact⟨⟨i,h2,same i a h1 e⟩,⟨i,h1,e⟩⟩
 have v1:Same (hid H' (hs (F0 vs ss H Z) σ' ρ')) (hid H' (hs (F0 vs ss H Z) (vs.map some) (outS ss ρ'))):=c0a λa o e n=>⟨e,λz=>n (z.imp id λz=>(sub a z).1)⟩
 have v2:Same (hid H (hs (F0 vs ss H Z) (vs.map some) ss)) (hid H' (hs (F0 vs ss H Z) (vs.map some) (outS ss ρ'))):=c0a λa o e n=>⟨r.fr a o e λz=>n (.inr z),λz=>n (z.imp id λz=>(sub a z).2)⟩
 refine⟨⟨by rw[x0e,r0.len],r.fr,r.zl,λa h=>r.zo a (sub a h).1,λi a hi e=>.inl ⟨⟨(own' i hi).1,e⟩,i,(own' i hi).1,e⟩,r0.mi,r.ml,r.ma,λi j a hi hj ei ej=>r0.nd i j a (own' i hi).1 (own' j hj).1 ei ej,λi=>?_⟩,v1,λi h=>(own' i h).1⟩
 rw[v0q]
 split
 ·rename_i q
  obtain⟨l,o,e1,e2⟩:=(r0.sl i).alive q
  have:=same i l q e1
  rw[e1,<- this]
  exact(r.sl i).keep v1 λ_ _ _ _ e=>e
 ·rename_i q
  exact(r0.sl i).keep v2 λl o ho=>absurd ho q
theorem t0o:∀(ρ:En) (n i:Nat),gt (ρ++List.replicate n .un) i=gt ρ i
 | [],n,i=>by
  show gt (List.replicate n .un) i = .un
  induction n generalizing i with
  | zero=>rfl
  | succ n ih=>cases i with
   | zero=>rfl
   | succ i=>exact ih i
 | s::ρ,n,0=>rfl
 | s::ρ,n,i+1=>t0o ρ n i
theorem Rel.ext (r:Rel K F σ ρ H)(n:Nat):Rel K F (σ++List.replicate n none) (ρ++List.replicate n .un) H:=by
 have s:∀ {i a},(gt ρ i).own=true->(σ++List.replicate n none)[i]? = some (some (V.ref a))->σ[i]? = some (some (.ref a)):=λ{i a} h e=>by
  rwa [List.getElem?_append_left (by rw[r.len];exact p0r h)]at e
 have sub:∀a,c0s (σ++List.replicate n none) (ρ++List.replicate n .un) a->c0s σ ρ a:=λa ⟨i,hi,e⟩=>by
  rw[t0o]at hi
  exact⟨i,hi,s hi e⟩
 have vis:Same (hid H (hs F σ ρ)) (hid H (hs F (σ++List.replicate n none) (ρ++List.replicate n .un))):=c0a λa o e n=>⟨e,λz=>n (z.imp id (sub a))⟩
 refine⟨by simp[r.len],r.fr,r.zl,λa h=>r.zo a (sub a h),λi a hi e=>?_,λi a h=>?_,r.ml,r.ma,λi j a hi hj ei ej=>?_,λi=>?_⟩
 ·rw[t0o]at hi
  exact r.ow i a hi (s hi e)
 ·have:=r.mi i a h
  rw[List.getElem?_append_left (List.getElem?_eq_some_iff.mp this).1];exact this
 ·rw[t0o]at hi hj
  exact r.nd i j a hi hj (s hi ei) (s hj ej)
 ·rw[t0o]
  have q:=r.sl i
  rcases Nat.lt_or_ge i σ.length with lt | ge
  ·rw[List.getElem?_append_left lt]
   exact q.keep vis λ_ _ _ _ e=>e
  ·rw[p0x ρ i (by rw[<- r.len];exact ge)];trivial
end
theorem d1b {K:PySem.W.Frag}{ps:List Str}{S:ASp}(hS:∀ss q,S ss q->ss.length=ps.length):∀vs H Q E,spA K S vs H Q E->vs.length=ps.length:=λvs H Q E h=>by
 obtain⟨ss,Z,q,r,hs',_⟩:=h
 have:=r.len
 rw[List.length_map]at this
 rw[this];exact hS ss q hs'
theorem f1i {P:Program}{w:World}{K:PySem.W.Frag}{mg:Str->Option Value}{base:Heap}{x:Str}{st:Stmt}{N ps:List Str}{a:AS}(pr:Nat->Bool)(S:ASp){f:Addr}{cdv:Value}{A:Around}{outer:List Env}{s:Shared}{H:Hp}{vs:List V}{Q:VK}{E:XK}
  (hbody:∃t,PSs (cxOf CX0 P w K mg base N x (a0m st) f cdv A outer s H E).nox (g0b st) t/\TSok K pr t a)
  (hS:∀ss q,S ss q->ss.length=ps.length/\l1b pr ss/\a ⟨λρ=>q (.d .non) (outS ss ρ),λr ρ=>fin pr r ρ λr' ρ'=>q r' (outS ss ρ'),λ_=>False,λ_=>False⟩ (ss++List.replicate (N.length - ps.length) .un))
  (h:spA K S vs H Q E):∃t,PSs (cxOf CX0 P w K mg base N x (a0m st) f cdv A outer s H E).nox (g0b st) t/\t {nx:=λ_ H'=>Q .non H',rt:=Q} (start N vs) H:=by
 have hl:=d1b (λss q h=>(hS ss q h).1) _ _ _ _ h
 obtain⟨ss,Z,q,r0,hs',post⟩:=h
 obtain⟨h1,h2,h3⟩:=hS ss q hs'
 obtain⟨t,ht,tok⟩:=hbody
 refine⟨t,ht,?_⟩
 have hp:∀i a,(F0 vs ss H Z).pin i a->pr i=true:=λi a h=>by
  rcases h with h | h
  ·exact h2 i h.1
  ·exact h.elim
 unfold start
 rw[hl]
 have fin_d:∀ σ' ρ' v H' d,q (.d d) (outS ss ρ')->Rel K (F0 vs ss H Z) σ' ρ' H'->RepD K (hid H' (hs (F0 vs ss H Z) σ' ρ')) v d->Q v H':=λσ' ρ' v H' d hq r rd=>by
  obtain⟨o1,o2,o3⟩:=r0.out r
  exact post (.d d) _ v H' hq o3 (λi z=>nomatch z) ⟨o1,rd.same o2⟩
 refine tok (F0 vs ss H Z) _ _ H _ _ hp (r0.ext _) h3 ⟨λσ' ρ' H' hq r=>?_,λ_ _ _ z=>z.elim,λ_ _ _ z=>z.elim,λσ' ρ' rr v H' hq r=>?_⟩
 ·exact fin_d σ' ρ' _ H' .non hq r (by unfold RepD;rfl)
 ·cases rr with
  | d d=>exact fin_d σ' ρ' v H' d hq r.1 r.2
  | t n=>exact hq.elim
  | x s =>
   obtain⟨ra,rb,rc⟩:=r
   obtain⟨o1,o2,o3⟩:=r0.out ra
   exact post (.x s) _ v H' hq o3 (λi z=>nomatch z) ⟨o1,rb,rc.keep o2 λl o ho=>by rw[rb]at ho;cases ho⟩
  | n sv =>
   obtain⟨Hb,l,o,a1,a2,a3,a4,a5,a6⟩:=r
   obtain⟨o1,o2,o3⟩:=r0.out a1
   exact post (.n sv) _ v H' hq o3 (λi z=>nomatch z) ⟨Hb,l,o,o1,a2,a3.keep o2 λ_ _ _ _ e=>e,a4,a5,a6⟩
  | o i =>
   obtain⟨r,ei⟩:=r
   have hq':(match gt ρ' i with
    | .ow ds=>if pr i=true then q (.d (.lst ds)) (outS ss (pt ρ' i (.vl (.lst ds))))else q (.n (.ow ds)) (outS ss (pt ρ' i .un))
    | .vl d=>q (.d d) (outS ss ρ')
    | .dk kvs=>if pr i=true then False else q (.n (.dk kvs)) (outS ss (pt ρ' i .un))
    | .dt kvs=>if pr i=true then False else q (.n (.dt kvs)) (outS ss (pt ρ' i .un))
    | _=>False):=hq
   clear hq
   split at hq'
   ·rename_i ds hg
    split at hq'
    ·obtain⟨l,el,r2,k2,rd⟩:=r.frz hg
     rw[ei]at el
     injection el with el;injection el with el;subst el
     exact fin_d σ' _ _ H' _ hq' r2 rd
    ·rename_i hpr
     have ho:(gt ρ' i).own=true:=by rw[hg];rfl
     obtain⟨l,o,hl',el,r2,sv⟩:=r.take ho λa z=>hpr (hp i a z)
     rw[ei]at el
     injection el with el;injection el with el;subst el
     obtain⟨o1,o2,o3⟩:=r0.out r2
     rw[hg]at sv
     refine post (.n (.ow ds)) _ _ H' hq' o3 (λi z=>nomatch z) ⟨del H' l,l,o,o1,rfl,?_,r0t,(m0b hl').symm,rfl⟩
     rw[m0b hl']
     exact sv.keep o2 λ_ _ _ _ e=>e
   ·rename_i d hg
    have s:=r.sl i
    rw[hg,ei]at s
    obtain⟨x,e1,rd⟩:=s
    injection e1 with e1;injection e1 with e1;subst e1
    exact fin_d σ' ρ' _ H' d hq' r rd
   ·rename_i kvs hg
    split at hq'
    ·exact hq'.elim
    ·rename_i hpr
     have ho:(gt ρ' i).own=true:=by rw[hg];rfl
     obtain⟨l,o,hl',el,r2,sv⟩:=r.take ho λa z=>hpr (hp i a z)
     rw[ei]at el
     injection el with el;injection el with el;subst el
     obtain⟨o1,o2,o3⟩:=r0.out r2
     rw[hg]at sv
     refine post (.n (.dk kvs)) _ _ H' hq' o3 (λi z=>nomatch z) ⟨del H' l,l,o,o1,rfl,?_,r0t,(m0b hl').symm,rfl⟩
     rw[m0b hl']
     exact sv.keep o2 λ_ _ _ _ e=>e
   ·rename_i kvs hg
    split at hq'
    ·exact hq'.elim
    ·rename_i hpr
     have ho:(gt ρ' i).own=true:=by rw[hg];rfl
     obtain⟨l,o,hl',el,r2,sv⟩:=r.take ho λa z=>hpr (hp i a z)
     rw[ei]at el
     injection el with el;injection el with el;subst el
     obtain⟨o1,o2,o3⟩:=r0.out r2
     rw[hg]at sv
     refine post (.n (.dt kvs)) _ _ H' hq' o3 (λi z=>nomatch z) ⟨del H' l,l,o,o1,rfl,?_,r0t,(m0b hl').symm,rfl⟩
     rw[m0b hl']
     exact sv.keep o2 λ_ _ _ _ e=>e
   ·exact hq'.elim
theorem DefN.aok {P:Program}{w:World}{K:PySem.W.Frag}{mg:Str->Option Value}{base:Heap}{x:Str}{st:Stmt}{N ps:List Str}{k:Nat}{a:AS}(D:DefN K mg x st ps)(Sc:b0j N ps (a0m st))(pr:Nat->Bool)(S:ASp)
  (hbody:∀(f:Addr) (cdv:Value) (A:Around) (outer:List Env) (s:Shared) (H:Hp) (E:XK),Room k (A.deeper (envOfC x (a0m st) s.heap.objs.size f cdv)) ->
   ∃t,PSs (cxOf CX0 P w K mg base N x (a0m st) f cdv A outer s H E).nox (g0b st) t/\TSok K pr t a)
  (hS:∀ss q,S ss q->ss.length=ps.length/\l1b pr ss/\a ⟨λρ=>q (.d .non) (outS ss ρ),λr ρ=>fin pr r ρ λr' ρ'=>q r' (outS ss ρ'),λ_=>False,λ_=>False⟩ (ss++List.replicate (N.length - ps.length) .un)):OkN P w K mg base (k+1) x ps (spA K S) :=
 D.ok Sc (d1b λss q h=>(hS ss q h).1) λf cdv A outer s H vs Q E hr h=>f1i pr S (hbody f cdv A outer s H E hr) hS h
def SLaw:ASp:=λss q=>∃ns:List Int,ns.length<=63/\ss=[.sc ns]/\∀ss',q (.d (.bl true)) ss'
theorem l1h {P:Program}{w:World}{K:PySem.W.Frag}{mg:Str->Option Value}{base:Heap}{k:Nat}{x:Str}{ps:List Str}(h:OkN P w K mg base k x ps (spA K SLaw)):OkN P w K mg base k x ps (h1n K):=by
 obtain⟨f,fd,a1,a2,a3,a4,g⟩:=h.ex
 refine⟨f,fd,a1,a2,a3,a4,g.imp λvs H Q E hq=>?_⟩
 obtain⟨a,ns,rfl,sq,hl,k⟩:=hq
 refine⟨[.sc ns],λ_=>False,λr _=>r = .d (.bl true),⟨rfl,λa o e _=>e,λa z=>z.elim,λa _ z=>z,λi a hi _=>?_,λi a h=>?_,λa h=>?_,λa h=>?_,λi j a hi=>?_,λi=>?_⟩,⟨ns,hl,rfl,λ_=>rfl⟩,λr ss' v H' e1 _ _ rr=>?_⟩
 ·exfalso;cases i with
  | zero=>cases hi
  | succ i=>cases hi
 ·rcases h with h | h
  ·cases i with
   | zero=>cases h.1
   | succ i=>cases h.1
  ·exact h.elim
 ·obtain⟨i,hi,_⟩:=h
  cases i with
  | zero=>cases hi
  | succ i=>cases hi
 ·obtain⟨i,hi,_⟩:=h
  cases i with
  | zero=>cases hi
  | succ i=>cases hi
 ·exfalso;cases i with
  | zero=>cases hi
  | succ i=>cases hi
 ·cases i with
  | succ i=>trivial
  | zero =>
   refine⟨a,rfl,?_⟩
   refine(show Same H (hid H _)from λb o e=>m0s (λz=>?_) e).seq sq
   rcases z with z | ⟨i,hi,_⟩
   ·exact z
   ·cases i with
    | zero=>cases hi
    | succ i=>cases hi
 ·subst e1
  obtain⟨_,rd⟩:=rr
  unfold RepD at rd
  subst rd
  exact k H'
def a1b (K:PySem.W.Frag):Sp:=λvs H Q _=>∃(t c:Addr) (m sp lf:Int) (ns:List Int) (n:Nat),vs=[.ref t,.int m]/\H t=some (.dK (e0m c sp lf))/\SqL K H c (ns.map V.int)/\0<=sp/\sp<=n/\0<=lf/\n<1000000000000/\Dv m /\
 ∀(r:Nat) (sp' lf':Int),(r:Int)<m->0<=sp'->sp'<=(n+1:Nat)->0<=lf'->Q (.int (r:Nat)) (upd H t (.dK (e0m c sp' lf')))
def a1a (K:PySem.W.Frag):Sp:=λvs H Q _=>∃(a:Addr) (ns:List Int),vs=[.ref a]/\SqL K H a (ns.map V.int) /\
 ∀t c,H t=none->H c=none->t≠c->Q (.ref t) (upd (upd H c (.lst ((ns.take 63).map V.int))) t (.dK (e0m c 0 0)))
def j1n:ASp:=λss q=>∃ns:List Int,ss=[.sc ns]/\q (.n (.tp 0)) [.sc ns]
def o0x:ASp:=λss q=>∃(n:Nat) (m:Int),ss=[.tp n,.vl (.int m)]/\n<1000000000000/\Dv m/\∀r:Nat,(r:Int)<m->q (.d (.int r)) [.tp (n+1),.vl (.int m)]
theorem OkN.imp {P:Program}{w:World}{K:PySem.W.Frag}{mg:Str->Option Value}{base:Heap}{k:Nat}{x:Str}{ps:List Str}{sp sp':Sp}(h:OkN P w K mg base k x ps sp)(i:∀vs H Q E,sp' vs H Q E->sp vs H Q E):OkN P w K mg base k x ps sp':=by
 obtain⟨f,fd,a1,a2,a3,a4,g⟩:=h.ex
 exact⟨f,fd,a1,a2,a3,a4,g.imp i⟩
theorem m1j {vs:List V}{s:Sv}{F:Fr}{K:PySem.W.Frag}{H:Hp}(r:Rel K F (vs.map some) [s] H):∃x,vs=[x]:=by
 have:=r.len
 match vs,this with
 | [x],_=>exact⟨x,rfl⟩
theorem m1i {vs:List V}{s s':Sv}{F:Fr}{K:PySem.W.Frag}{H:Hp}(r:Rel K F (vs.map some) [s,s'] H):∃x y,vs=[x,y]:=by
 have:=r.len
 match vs,this with
 | [x,y],_=>exact⟨x,y,rfl⟩
theorem j1d {K:PySem.W.Frag}(vs:List V)(H:Hp)(Q:VK)(E:XK)(h:spA K o0x vs H Q E):a1b K vs H Q E:=by
 obtain⟨ss,Z,q,r,⟨n,m,rfl,hn,hm,hq⟩,post⟩:=h
 obtain⟨x,y,rfl⟩:=m1i r
 obtain⟨t,c,ns,sp,lf,e0,ht,hc,h1,h2,h3⟩:=r.sl 0
 obtain⟨y',e1,ry⟩:=r.sl 1
 unfold RepD at ry
 injection e0 with e0;injection e0 with e0;subst e0
 injection e1 with e1;injection e1 with e1
 subst e1 ry
 refine⟨t,c,m,sp,lf,ns,n,rfl,ht,d0c.seq hc,h1,h2,h3,hn,hm,λrr sp' lf' hr a1 a2 a3=>?_⟩
 have hw:=r.write (i:=0) (l:=t) (o:=.dK (e0m c sp' lf')) (s:=.tp (n+1)) rfl rfl rfl ⟨t,c,ns,sp',lf',rfl,c0v,hc,a1,a2,a3⟩
 refine post (.d (.int rr)) [.tp (n+1),.vl (.int m)] _ _ (hq rr hr) (λi h=>?_) (λi z=>nomatch z) ⟨hw.1,by unfold RepD;rfl⟩
 match i,h with
 | 0,_=>rfl
 | 1,h=>cases h
 | i+2,h=>cases h
theorem h1g {K:PySem.W.Frag}(vs:List V)(H:Hp)(Q:VK)(E:XK)(h:spA K j1n vs H Q E):a1a K vs H Q E:=by
 obtain⟨ss,Z,q,r,⟨ns,rfl,hq⟩,post⟩:=h
 obtain⟨x,rfl⟩:=m1j r
 obtain⟨a,e0,sq⟩:=r.sl 0
 injection e0 with e0;injection e0 with e0;subst e0
 refine⟨a,ns,rfl,d0c.seq sq,λt c ht hc htc=>?_⟩
 have rc:=r.fresh (o:=.lst ((ns.take 63).map V.int)) hc
 have kc:Kp ([V.ref a].map some) [.sc ns] [.sc ns] H (upd H c (.lst ((ns.take 63).map V.int))):=Kp.fresh hc
 have ht':(upd H c (.lst ((ns.take 63).map V.int))) t=none:=by rw[b0l htc];exact ht
 refine post (.n (.tp 0)) _ _ _ hq (λi h=>h) (λi z=>nomatch z) ⟨_,t,_,rc,rfl,⟨t,c,ns.take 63,0,0,rfl,c0v,SqL.of (m0s (o0h r hc) c0v),by decide,by decide,by decide⟩,ht',rfl,rfl⟩
section
variable {K:PySem.W.Frag}{F:Fr}{σ:St}{ρ ρ':En}{H H':Hp}{ta tb tc:TE}{a b c:AE}{rr rr':R2}{g g':R->R->AE}
def m1o (g g':R->R->AE)(a b c:AE):AE:=λρ q=>a ρ λr1 ρ1=>b ρ1 λr2 ρ2=>g r1.frz r2.frz ρ2 λr3 ρ3=>match r3 with
 | .d (.bl k)=>if k=true then c ρ3 λr4 ρ4=>g' r2.frz r4.frz ρ4 q else q (.d (.bl false)) ρ3
 | _=>False
theorem s0k (ho:OpOk K rr g)(ho':OpOk K rr' g')(ha:TEok K ta a)(hb:TEok K tb b)(hc:TEok K tc c):TEok K (f1w rr rr' ta tb tc) (m1o g g' a b c):=by
 intro F σ ρ H q Q r h k
 refine ha F σ ρ H _ _ r h λr1 ρ1 x H1 h1 o1=>?_
 obtain⟨r1',k1,i1⟩:=o1.inF
 refine hb F σ ρ1 H1 _ _ r1' h1 λr2 ρ2 y H2 h2 o2=>?_
 obtain⟨r2',k2,i2⟩:=o2.inF
 refine ho F σ ρ2 H2 x y _ _ _ _ r2' (i1.keep k2) i2 h2 λr3 ρ3 z H3 h3 o3=>?_
 obtain⟨r3',k3,i3⟩:=o3.inF
 split at h3
 ·rename_i kk
  refine⟨kk,i3.blv,?_⟩
  cases kk with
  | false=>exact(((k.after k1).after k2).after k3).bl r3' h3
  | true =>
   refine hc F σ ρ3 H3 _ _ r3' h3 λr4 ρ4 w H4 h4 o4=>?_
   obtain⟨r4',k4,i4⟩:=o4.inF
   exact ho' F σ ρ4 H4 y w _ _ q Q r4' ((i2.keep k3).keep k4) i4 h4 ((((k.after k1).after k2).after k3).after k4)
 ·exact h3.elim
def gNeg:R->AE:=λr ρ q=>match r with
 | .d (.int i)=>q (.d (.int (-i))) ρ
 | _=>False
theorem i0v (ha:TEok K ta a):TEok K (tUn (rU λi=>.int (-i)) ta) (aUn gNeg a):=by
 intro F σ ρ H q Q r h k
 refine ha F σ ρ H _ _ r h λr1 ρ1 x H1 h1 o1=>?_
 obtain⟨r1',k1,i1⟩:=o1.inF
 unfold gNeg at h1
 split at h1
 ·rename_i i e
  rw[e]at i1
  exact⟨i,i1.int,(k.after k1).int r1' h1⟩
 ·exact h1.elim
def i1r:D->Bool
 | .non=>true
 | _=>false
def isEx (ρ:En):R->Bool
 | .o i=>(match gt ρ i with | .ex _ _=>true | _=>false)
 | _=>false
def gIsN (neg:Bool):R->R->AE:=λr1 r2 ρ q=>match view ρ r1,r2 with
 | some d,.d .non=>q (.d (.bl (if neg then !i1r d else i1r d))) ρ
 | none,.d .non=>isEx ρ r1=true/\q (.d (.bl neg)) ρ
 | _,_=>False
theorem e1r {F:Fr}{σ:St}{ρ:En}{H:Hp}{x:V}{r1:R}(a:Rel K F σ ρ H)(h1:InF K F σ ρ H x r1)(h:isEx ρ r1=true):∃e,x = .ref e:=by
 cases r1 with
 | d d=>cases h
 | n s=>cases h
 | t n=>cases h
 | x n=>cases h
 | o i =>
  have q:=a.sl i
  cases hg:gt ρ i with
  | ex C fs =>
   rw[hg]at q
   obtain⟨e,od,e1,_⟩:=q
   rw[show σ[i]? = _ from h1]at e1
   injection e1 with e1;injection e1 with e1
   exact⟨e,e1⟩
  | _=>exact absurd h (by show ¬(match gt ρ i with | .ex _ _=>true | _=>false)=true;rw[hg];exact λz=>nomatch z)
theorem b1p {x:V}{d:D}(h:RepD K H x d):decide (x=V.non)=i1r d:=by
 cases d with
 | non=>unfold RepD at h;subst h;rfl
 | bl b=>unfold RepD at h;subst h;rfl
 | int b=>unfold RepD at h;subst h;rfl
 | str b=>unfold RepD at h;subst h;rfl
 | tup ds=>unfold RepD at h;obtain⟨a,vs,rfl,_⟩:=h;rfl
 | lst ds=>unfold RepD at h;obtain⟨a,vs,rfl,_⟩:=h;rfl
theorem x0h:OpOk K (λx y H Q=>y = .non/\Q (.bl (!decide (x = .non))) H) (gIsN true):=by
 intro F σ ρ H x y r1 r2 q Q a h1 h2 h b
 unfold gIsN at h
 split at h
 ·rename_i d e
  unfold InF RepD at h2
  refine⟨h2,?_⟩
  rw[b1p (f0f a h1 e)]
  exact b.bl a h
 ·unfold InF RepD at h2
  obtain⟨h',h⟩:=h
  obtain⟨e,rfl⟩:=e1r a h1 h'
  refine⟨h2,?_⟩
  rw[decide_eq_false (λz=>nomatch z)]
  exact b.bl a h
 ·exact h.elim
def r0p:D->Bool
 | .tup _=>false
 | .lst _=>false
 | _=>true
def inD (d:D)(ds:List D):Bool:=ds.any λe=>eqD e d
@[irreducible] def gIn (neg:Bool):R->R->AE:=λr1 r2 ρ q=>match view ρ r1,view ρ r2 with
 | some d,some (.lst ds)=>(r0p d=true/\ds.all r0p=true)/\q (.d (.bl (if neg then !inD d ds else inD d ds))) ρ
 | some d,some (.tup ds)=>(r0p d=true/\ds.all r0p=true)/\q (.d (.bl (if neg then !inD d ds else inD d ds))) ρ
 | _,_=>False
theorem r0o {x:V}{d:D}(h:RepD K H x d)(f:r0p d=true):p0i x=true:=by
 cases d with
 | tup ds=>cases f
 | lst ds=>cases f
 | non=>unfold RepD at h;subst h;rfl
 | bl b=>unfold RepD at h;subst h;rfl
 | int b=>unfold RepD at h;subst h;rfl
 | str b=>unfold RepD at h;subst h;rfl
theorem j1b {x y:V}{d e:D}(h:RepD K H x d)(h':RepD K H y e)(f:r0p d=true)(f':r0p e=true):eqV x y=eqD d e:=by
 cases d with
 | tup ds=>cases f
 | lst ds=>cases f
 | non=>unfold RepD at h;subst h;cases e with
  | tup ds=>cases f'
  | lst ds=>cases f'
  | non=>unfold RepD at h';subst h';simp[eqV,eqD]
  | bl b=>unfold RepD at h';subst h';simp[eqV,eqD]
  | int b=>unfold RepD at h';subst h';simp[eqV,eqD]
  | str b=>unfold RepD at h';subst h';simp[eqV,eqD]
 | bl b=>unfold RepD at h;subst h;cases e with
  | tup ds=>cases f'
  | lst ds=>cases f'
  | non=>unfold RepD at h';subst h';simp[eqV,eqD]
  | bl b=>unfold RepD at h';subst h';simp[eqV,eqD]
  | int b=>unfold RepD at h';subst h';simp[eqV,eqD]
  | str b=>unfold RepD at h';subst h';simp[eqV,eqD]
 | int b=>unfold RepD at h;subst h;cases e with
  | tup ds=>cases f'
  | lst ds=>cases f'
  | non=>unfold RepD at h';subst h';simp[eqV,eqD]
  | bl b=>unfold RepD at h';subst h';simp[eqV,eqD]
  | int b=>unfold RepD at h';subst h';simp[eqV,eqD]
  | str b=>unfold RepD at h';subst h';simp[eqV,eqD]
 | str b=>unfold RepD at h;subst h;cases e with
  | tup ds=>cases f'
  | lst ds=>cases f'
  | non=>unfold RepD at h';subst h';simp[eqV,eqD]
  | bl b=>unfold RepD at h';subst h';simp[eqV,eqD]
  | int b=>unfold RepD at h';subst h';simp[eqV,eqD]
  | str b=>unfold RepD at h';subst h';simp[eqV,eqD]
theorem b1s {x:V}{d:D}(h:RepD K H x d)(f:r0p d=true):∀ {vs:List V} {ds:List D},RepDs K H vs ds->ds.all r0p=true->vs.all p0i=true/\inV x vs=inD d ds
 | [],[],_,_=>⟨rfl,rfl⟩
 | v::vs,e::ds,hr,fa=>by
  unfold RepDs at hr
  rw[List.all_cons,Bool.and_eq_true]at fa
  obtain⟨q1,q2⟩:=b1s h f hr.2 fa.2
  refine⟨by rw[List.all_cons,r0o hr.1 fa.1,q1];rfl,?_⟩
  unfold inV inD at *
  rw[List.any_cons,List.any_cons,q2,j1b hr.1 h fa.1 f]
 | [],d::ds,h,_=>by unfold RepDs at h;exact h.elim
 | v::vs,[],h,_=>by unfold RepDs at h;exact h.elim
theorem x0i (neg:Bool):OpOk K (rIn K neg) (gIn neg):=by
 intro F σ ρ H x y r1 r2 q Q a h1 h2 h b
 unfold gIn at h
 split at h
 ·rename_i d ds e1 e2
  obtain⟨⟨f1,f2⟩,h⟩:=h
  have rx:=f0f a h1 e1
  obtain⟨l,vs,rfl,sq,rd⟩:=c0u a h2 e2
  obtain⟨q1,q2⟩:=b1s rx f1 (rd.same d0c) f2
  refine⟨l,vs,rfl,.inl sq,r0o rx f1,q1,?_⟩
  rw[q2]
  exact b.bl a h
 ·rename_i d ds e1 e2
  obtain⟨⟨f1,f2⟩,h⟩:=h
  have rx:=f0f a h1 e1
  obtain⟨l,vs,rfl,sq,rd,_⟩:=j0k a h2 e2
  obtain⟨q1,q2⟩:=b1s rx f1 (rd.same d0c) f2
  refine⟨l,vs,rfl,.inr sq,r0o rx f1,q1,?_⟩
  rw[q2]
  exact b.bl a h
 ·exact h.elim
end
theorem j0v {c:En->Prop}{g:AG}{b:AS}{e:u0n}(I:Nat->En->Prop){ds:List D}(hc:∀k ρ,k<=ds.length->I k ρ->c ρ)
  (hs:∀(k:Nat) d ρ (N:En->Prop),ds[k]? = some d->I k ρ->(∀ ρ',I (k+1) ρ'->N ρ')->g d ρ λρ1=>b {nx:=N,ct:=N,bk:=e.nx,rt:=e.rt} ρ1) (hd:∀ ρ,I ds.length ρ->e.nx ρ):∀ ρ,I 0 ρ->forA c g b e ds ρ:=by
 have go:∀(es:List D) (k:Nat),ds.drop k=es->k<=ds.length->∀ ρ,I k ρ->forA c g b e es ρ:=by
  intro es
  induction es with
  | nil =>
   intro k h hk ρ i
   have:ds.length<=k:=List.drop_eq_nil_iff.mp h
   have:k=ds.length:=by omega
   subst this
   unfold forA
   exact⟨hc _ ρ (Nat.le_refl _) i,hd ρ i⟩
  | cons d es ih =>
   intro k h hk ρ i
   have lt:k<ds.length:=by
    rcases Nat.lt_or_ge k ds.length with q | q
    ·exact q
    ·rw[List.drop_eq_nil_of_le q]at h;cases h
   rw[List.drop_eq_getElem_cons lt]at h
   injection h with h1 h2
   unfold forA
   exact⟨hc k ρ hk i,hs k d ρ _ (by rw[<- h1];exact List.getElem?_eq_getElem lt) i (λρ' i'=>ih (k+1) h2 lt ρ' i')⟩
 exact go ds 0 rfl (Nat.zero_le _)
theorem f0k {n:Nat}{js:List Nat}{c:En->Prop}{g:AG}{tc:AT}{te:AE}{q:List D->En->Prop}(I:Nat->List D->En->Prop){ds:List D}(hc:∀k acc ρ,k<=ds.length->I k acc ρ->c ρ)
  (hs:∀(k:Nat) d acc ρ (N:List D->En->Prop),ds[k]? = some d->I k acc ρ->(∀acc' ρ',I (k+1) acc' ρ'->N acc' ρ') ->
   g d (blkE n js ρ) λρ1=>tc ρ1 λb ρ2=>if b=true then te ρ2 λr ρ3=>sto [r.frz] ρ3 λes ρ4=>N (acc++es) (back ρ (js.map R.o) (ρ4.drop n))else N acc (back ρ (js.map R.o) (ρ2.drop n)))
  (hd:∀acc ρ,I ds.length acc ρ->q acc ρ):∀ ρ,I 0 [] ρ->l0s n js c g tc te q ds [] ρ:=by
 have go:∀(es:List D) (k:Nat),ds.drop k=es->k<=ds.length->∀acc ρ,I k acc ρ->l0s n js c g tc te q es acc ρ:=by
  intro es
  induction es with
  | nil =>
   intro k h hk acc ρ i
   have:ds.length<=k:=List.drop_eq_nil_iff.mp h
   have:k=ds.length:=by omega
   subst this
   unfold l0s
   exact⟨hc _ acc ρ (Nat.le_refl _) i,hd acc ρ i⟩
  | cons d es ih =>
   intro k h hk acc ρ i
   have lt:k<ds.length:=by
    rcases Nat.lt_or_ge k ds.length with q | q
    ·exact q
    ·rw[List.drop_eq_nil_of_le q]at h;cases h
   rw[List.drop_eq_getElem_cons lt]at h
   injection h with h1 h2
   unfold l0s
   exact⟨hc k acc ρ hk i,hs k d acc ρ (λacc' ρ'=>l0s n js c g tc te q es acc' ρ') (by rw[<- h1];exact List.getElem?_eq_getElem lt) i (λacc' ρ' i'=>ih (k+1) h2 lt acc' ρ' i')⟩
 exact go ds 0 rfl (Nat.zero_le _) []
theorem h1a {c:AT}{b:AS}{e:u0n}(I:En->Prop)(μ:En->Nat)
  (hs:∀ ρ (N:En->Prop),I ρ->(∀ ρ',I ρ'->μ ρ'<μ ρ->N ρ')->c ρ λk ρ1=>if k=true then b {nx:=N,ct:=N,bk:=e.nx,rt:=e.rt} ρ1 else e.nx ρ1):∀ ρ,I ρ->g1u c b e ρ:=by
 have go:∀(n:Nat) ρ,I ρ->μ ρ<n->whA c b e n ρ:=by
  intro n
  induction n with
  | zero=>intro ρ _ h;omega
  | succ n ih=>intro ρ i h;exact hs ρ _ i λρ' i' lt=>ih ρ' i' (by omega)
 exact λρ i=>⟨μ ρ+1,go _ ρ i (by omega)⟩
section
variable {es:List Expr}{env:Env}
theorem u0r {a b c}:starEach (.Constant a b c::es) env=(false,eval (.Constant a b c) env)::starEach es env:=rfl
theorem h1k {a b}:starEach (.Name a b::es) env=(false,eval (.Name a b) env)::starEach es env:=rfl
theorem d1x {a b c d}:starEach (.BinOp a b c d::es) env=(false,eval (.BinOp a b c d) env)::starEach es env:=rfl
theorem y0j {a b c}:starEach (.UnaryOp a b c::es) env=(false,eval (.UnaryOp a b c) env)::starEach es env:=rfl
theorem d1w {a b c}:starEach (.Tuple a b c::es) env=(false,eval (.Tuple a b c) env)::starEach es env:=rfl
theorem h1l {a b}:starEach (.List a b::es) env=(false,eval (.List a b) env)::starEach es env:=rfl
end
def NS (e:Expr):Prop:=∀(es:List Expr) (env:Env),starEach (e::es) env=(false,eval e env)::starEach es env
theorem b0x {a b c}:NS (.Constant a b c):=λ_ _=>u0r
theorem i1e {a b}:NS (.Name a b):=λ_ _=>h1k
theorem n0g {a b c d}:NS (.BinOp a b c d):=λ_ _=>d1x
theorem p0u {a b c}:NS (.UnaryOp a b c):=λ_ _=>y0j
theorem h0g {a b c}:NS (.Tuple a b c):=λ_ _=>d1w
theorem r0e {a b}:NS (.List a b):=λ_ _=>h1l
section
variable {X:Cx}(K:PySem.W.Frag)
def k1u (K:PySem.W.Frag):R2:=λx y H Q=>∃a b xs ys,x = .ref a/\y = .ref b/\SqL K H a xs/\SqL K H b ys/\xs.length+ys.length<=1000000/\∀p,H p=none->Q (.ref p) (upd H p (.lst (xs++ys)))
theorem c0o (hK:X.K=K:=by rfl):OpR X (binaryOp .Add) (k1u K):=by
 subst hK
 intro pins s σ H x y v u Q I rx ry h
 obtain⟨a,b,xs,ys,rfl,rfl,ha,hb,hz,q⟩:=h
 cases rx
 cases ry
 obtain⟨its,r1,p1,_⟩:=I.list ha
 obtain⟨its2,r2,p2,_⟩:=I.list hb
 have hz':its.length+its2.length<=sizeLine:=small (by rw[<- r1.length,<- r2.length];exact hz)
 obtain⟨⟨cls,dd,data,sl⟩,ho,hc,n,hd⟩:=p1.isList
 obtain⟨⟨cls2,dd2,data2,sl2⟩,ho2,hc2,n2,hd2⟩:=p2.isList
 simp only at hc hd hc2 hd2
 subst hc hd hc2 hd2
 refine concat_meets ⟨_,ho,rfl⟩ ⟨_,ho2,rfl⟩ noFill_list_add seq_list_add PySem.F.slot_list_add PySem.F.entry_list_add (PySem.F.args_list_add_2 _ _) (list_addW a b its.toArray its2.toArray n n2 dd dd2 sl sl2 (by rw[List.size_toArray,List.size_toArray];exact hz')) ⟨ho,ho2,?_⟩
 refine⟨.ref s.heap.objs.size,_,I.laid (t':=s.toks) (o:=.lst (xs++ys)) (λb ob q=>Heap.get?_push_of_some _ q) (Nat.le_refl _) ?_,rfl,q _ (I.hok.fresh (Nat.le_refl _))⟩
 refine⟨by rw[List.length_append];exact small hz,_,0,r1.append r2,?_⟩
 rw[show(its++its2).toArray=its.toArray++its2.toArray by simp]
 exact Heap.get?_push_size _ rfl
def tRev (K:PySem.W.Frag)(te:TE)(ts:TO):TE:=λσ H Q=>te σ H λx H1=>ts σ H1 λo H2=>o=some (-1)/\∃a xs,x = .ref a/\SqL K H2 a xs/\∀p,H2 p=none->Q (.ref p) (upd H2 p (.lst xs.reverse))
variable {e st:Expr}{te:TE}{ts:TO}{pos p2:Pos}
theorem a1v (he:PE X e te)(hst:PO X (some st) ts)(hK:X.K=K:=by rfl){ops:Value->Value->List Value}(htl:∀v sl,subscripted (.Slice none none (some st) p2) false v sl=operate (ops v sl) (getItem v sl)):PE X (.Subscript e (.Slice none none (some st) p2) pos) (tRev K te ts):=by
 subst hK
 intro pins s σ H Q I h
 refine Subscript_ (thn (he pins s σ H _ I h) λv s1 ⟨x,H1,I1,r1,q1⟩=>?_)
 refine wpAny_Slice ?_
 rw[evalPart_none]
 refine wpAny_pure (wpAny_pure ?_)
 refine thn (hst pins s1 σ H1 _ I1 q1) λvk s3 ⟨o,H3,I3,pk,q3⟩=>?_
 obtain⟨rfl,a,xs,rfl,hx,q⟩:=q3
 cases r1
 have I4:Inv X pins σ H3 {s3 with heap:=s3.heap.push {cls:=.type "slice",data:=.fields #[.none,.none,vk]}}:=I3.kept (t':=s3.toks) λb ob q=>Heap.get?_push_of_some _ q
 obtain⟨its,r,ht,hz⟩:=I4.list hx
 have hg:wpAny (model X.prog X.w) X.A (getItem (.ref a) (.ref s3.heap.objs.size)) (EP X pins σ Q) X.xe {s3 with heap:=s3.heap.push {cls:=.type "slice",data:=.fields #[.none,.none,vk]}}:=by
  refine wpAny_getItem_list_slice ht.isList (Heap.IsSliceOf.new ..) .none .none pk (by simp) ?_ (by rw[List.size_toArray,<- r.length];exact hz)
  rw[PySem.W.krv_pick]
  refine⟨.ref _,_,I4.laid (t':=s3.toks) (o:=.lst xs.reverse) (λb ob q=>Heap.get?_push_of_some _ q) (Nat.le_refl _) ?_,rfl,q _ (I4.hok.fresh (Nat.le_refl _))⟩
  refine⟨by rw[List.length_reverse];exact hz,its.reverse,0,?_,?_⟩
  ·have rev:∀ {xs:List V} {us:List Value},Vals xs us->Vals xs.reverse us.reverse:=by
    intro xs us h
    induction h with
    | nil=>exact .nil
    | cons a _ ih=>rw[List.reverse_cons,List.reverse_cons];exact ih.append (.cons a .nil)
   exact rev r
  ·exact Heap.get?_push_size _ rfl
 show wpAny (model X.prog X.w) X.A (subscriptTail e (.Slice none none (some st) p2) (.ref a) (.ref s3.heap.objs.size)) (EP X pins σ Q) X.xe {s3 with heap:=s3.heap.push {cls:=.type "slice",data:=.fields #[.none,.none,vk]}}
 exact tail_any ht.isList.typeIs slot_list_getitem.lookup hg (htl _ _)
end
section
variable {K:PySem.W.Frag}{ta te:TE}{a ae:AE}{ts:TA}{as:AA}
def gCat:R->R->AE:=λr1 r2 ρ q=>match view ρ r1,view ρ r2 with
 | some (.lst ds),some (.lst es)=>ds.length+es.length<=1000000/\q (.f (ds++es)) ρ
 | _,_=>False
theorem c0p:OpOk K (k1u K) gCat:=by
 intro F σ ρ H x y r1 r2 q Q a h1 h2 h b
 unfold gCat at h
 split at h
 ·rename_i ds es e1 e2
  obtain⟨l,vs,rfl,sq,rd⟩:=c0u a h1 e1
  obtain⟨l2,vs2,rfl,sq2,rd2⟩:=c0u a h2 e2
  exact⟨l,l2,vs,vs2,rfl,rfl,sq,sq2,by rw[rd.length,rd2.length];exact h.1,λp hp=>b.new a h.2 (rd.append rd2) hp⟩
 ·exact h.elim
def aRev (a:AE)(o:AO):AE:=λρ q=>a ρ λr ρ1=>o ρ1 λk ρ2=>k=some (-1)/\(match view ρ2 r.frz with
 | some (.lst ds)=>q (.f ds.reverse) ρ2
 | _=>False)
theorem RepDs.reverse {H:Hp}:∀ {vs:List V} {ds:List D},RepDs K H vs ds->RepDs K H vs.reverse ds.reverse
 | [],[],_=>.nil
 | v::vs,d::ds,h=>by
  unfold RepDs at h
  rw[List.reverse_cons,List.reverse_cons]
  exact(RepDs.reverse h.2).append (.one h.1)
 | [],d::ds,h=>by unfold RepDs at h;exact h.elim
 | v::vs,[],h=>by unfold RepDs at h;exact h.elim
theorem z0o {to:TO}{ao:AO}(ha:TEok K ta a)(ho:TOok K to ao):TEok K (tRev K ta to) (aRev a ao):=by
 intro F σ ρ H q Q r h k
 refine ha F σ ρ H _ _ r h λr1 ρ1 x H1 h1 rel1=>?_
 obtain⟨r',k1,i1⟩:=rel1.inF
 refine ho F σ ρ1 H1 _ _ r' h1 λo ρ2 H2 h2 r2 k2=>?_
 obtain⟨rfl,h2⟩:=h2
 split at h2
 ·rename_i ds e
  obtain⟨p,vs,rfl,sq,rd⟩:=c0u r2 (i1.keep k2) e
  exact⟨rfl,p,vs,rfl,sq,λp' hp=>((k.after k1).after k2).new r2 h2 rd.reverse hp⟩
 ·exact h2.elim
end
abbrev nD (n:Nat):D:=.int (n:Nat)
abbrev nv (n:Nat):Sv:=.vl (.int (n:Nat))
def ownB (pr:Nat->Bool):En->Nat->Bool
 | [],_=>true
 | s::ss,i=>(!s.own||pr i)&&ownB pr ss (i+1)
theorem a1w {pr:Nat->Bool}:∀ {ss:En} {j:Nat},ownB pr ss j=true->∀i,(gt ss i).own=true->pr (j+i)=true
 | [],_,_,i,h=>by cases h
 | s::ss,j,hb,0,h=>by
  simp only[ownB,Bool.and_eq_true,Bool.or_eq_true,Bool.not_eq_true']at hb
  rcases hb.1 with q | q
  ·rw[show(gt (s::ss) 0)=s from rfl,q]at h;cases h
  ·exact q
 | s::ss,j,hb,i+1,h=>by
  simp only[ownB,Bool.and_eq_true]at hb
  have:=a1w hb.2 i h
  rwa [show j+1+i=j+(i+1)by omega]at this
theorem DefN.aok2 {P:Program}{w:World}{K:PySem.W.Frag}{mg:Str->Option Value}{base:Heap}{x:Str}{st:Stmt}{N ps:List Str}{k:Nat}{a:AS}(D:DefN K mg x st ps)(Sc:b0j N ps (a0m st))(pr:Nat->Bool)(us:En)(S:ASp)(hus:List.replicate (N.length - ps.length) Sv.un=us)
  (hbody:∀(f:Addr) (cdv:Value) (A:Around) (outer:List Env) (s:Shared) (H:Hp) (E:XK),Room k (A.deeper (envOfC x (a0m st) s.heap.objs.size f cdv)) ->
   ∃t,PSs (cxOf CX0 P w K mg base N x (a0m st) f cdv A outer s H E).nox (g0b st) t/\TSok K pr t a)
  (hS:∀ss q,S ss q->ss.length=ps.length/\ownB pr ss 0=true/\a ⟨λρ=>q (.d .non) (outS ss ρ),λr ρ=>fin pr r ρ λr' ρ'=>q r' (outS ss ρ'),λ_=>False,λ_=>False⟩ (ss++us)):OkN P w K mg base (k+1) x ps (spA K S) :=
 D.aok Sc pr S hbody λss q h=>⟨(hS ss q h).1,λi hi=>by have:=a1w (hS ss q h).2.1 i hi;rwa [Nat.zero_add]at this,by rw[hus];exact(hS ss q h).2.2⟩
theorem j0t {lo:Int}{n k:Nat}{d:D}(h:(rngD lo n)[k]? = some d):k<n/\d = .int (lo+k):=by
 unfold rngD at h
 rw[List.getElem?_map]at h
 obtain⟨j,e1,e2⟩:=Option.map_eq_some_iff.mp h
 have lt:k<n:=by
  rcases Nat.lt_or_ge k n with q | q
  ·exact q
  ·rw[List.getElem?_eq_none (by simpa using q)]at e1;cases e1
 rw[List.getElem?_range lt]at e1
 cases e1
 exact⟨lt,e2.symm⟩
abbrev j1y (n:Nat)(js:List Nat)(g:AG)(tc:AT)(te:AE)(ρ:En)(d:D)(acc:List D)(N:List D->En->Prop):Prop :=
 g d (blkE n js ρ) λρ1=>tc ρ1 λb ρ2=>if b=true then te ρ2 λr ρ3=>sto [r.frz] ρ3 λes ρ4=>N (acc++es) (back ρ (js.map R.o) (ρ4.drop n))else N acc (back ρ (js.map R.o) (ρ2.drop n))
section
variable {n:Nat}{js:List Nat}{c:En->Prop}{g:AG}{tc:AT}{te:AE}{q:List D->En->Prop}
theorem d0e {α:Type}(h:α->D)(f:α->D){xs:List α}{ρ:En}(hc:c ρ)(hs:∀x acc (N:List D->En->Prop),x∈xs->N (acc++[f x]) ρ->j1y n js g tc te ρ (h x) acc N)
  (hd:q (xs.map f) ρ):l0s n js c g tc te q (xs.map h) [] ρ:=by
 refine f0k (λk acc ρ'=>ρ'=ρ/\acc=(xs.take k).map f) (λk acc ρ' _ h=>h.1▸hc) ?_ ?_ ρ ⟨rfl,rfl⟩
 ·rintro k d acc _ N hk ⟨rfl,rfl⟩ hN
  rw[List.getElem?_map]at hk
  obtain⟨x,e1,rfl⟩:=Option.map_eq_some_iff.mp hk
  refine hs x _ N (List.mem_of_getElem? e1) (hN _ _ ⟨rfl,?_⟩)
  rw[List.take_add_one,e1,Option.toList_some,List.map_append];rfl
 ·rintro acc _ ⟨rfl,rfl⟩
  rw[List.length_map,List.take_length];exact hd
end
section
variable {c:En->Prop}{g:AG}{b:AS}{e:u0n}
theorem l0n {lo:Int}{m:Nat}(I:Nat->En->Prop)(hc:∀k ρ,I k ρ->c ρ)(hs:∀(k:Nat) ρ (N:En->Prop),k<m->I k ρ->(∀ ρ',I (k+1) ρ'->N ρ')->g (.int (lo+k)) ρ λρ1=>b {nx:=N,ct:=N,bk:=e.nx,rt:=e.rt} ρ1)
  (hd:∀ ρ,I m ρ->e.nx ρ) {ρ:En} (h0:I 0 ρ):forA c g b e (rngD lo m) ρ:=by
 refine j0v I (λk ρ _ h=>hc k ρ h) (λk d ρ N hk h hN=>?_) (λρ h=>hd ρ (by rwa [d0s]at h)) ρ h0
 obtain⟨lt,rfl⟩:=j0t hk
 exact hs k ρ N lt h hN
theorem i0i {α:Type}(h:α->D){xs:List α}(I:Nat->En->Prop)(hc:∀k ρ,I k ρ->c ρ)(hs:∀(k:Nat) x ρ (N:En->Prop),xs[k]? = some x->I k ρ->(∀ ρ',I (k+1) ρ'->N ρ')->g (h x) ρ λρ1=>b {nx:=N,ct:=N,bk:=e.nx,rt:=e.rt} ρ1)
  (hd:∀ ρ,I xs.length ρ->e.nx ρ) {ρ:En} (h0:I 0 ρ):forA c g b e (xs.map h) ρ:=by
 refine j0v I (λk ρ _ h=>hc k ρ h) (λk d ρ N hk h' hN=>?_) (λρ h=>hd ρ (by rwa [List.length_map]at h)) ρ h0
 rw[List.getElem?_map]at hk
 obtain⟨x,e1,rfl⟩:=Option.map_eq_some_iff.mp hk
 exact hs k x ρ N e1 h' hN
end
theorem c0c {xs:List Nat}{i:Nat}(h:i<xs.length):atI (a0e xs) ((i:Nat):Int)=some (.int (xs.getD i 0:Nat)):=by
 refine s0c ?_
 unfold a0e
 rw[List.getElem?_map,List.getElem?_eq_getElem h]
 simp[h]
theorem e1w {r1:R}{ρ:En}{q:Ko}{xs:List Nat}{i:Nat}(hv:view ρ r1=some (.lst (a0e xs)))(h:i<xs.length)(hq:q (.d (.int (xs.getD i 0:Nat))) ρ):gIx r1 (.d (.int (i:Nat))) ρ q:=by
 unfold gIx
 rw[hv]
 simp only[c0c h]
 exact hq
theorem b0m {neg:Bool}{r1 r2:R}{ρ:En}{q:Ko}{d e:D}{b:Bool}(h1:view ρ r1=some d)(h2:view ρ r2=some e)(hd:d.depth<=60)(hb:eqD d e=b)(hq:q (.d (.bl (if neg then !b else b))) ρ):gEq neg r1 r2 ρ q:=by
 unfold gEq
 rw[h1,h2]
 subst hb
 exact⟨hd,hq⟩
theorem o0i (ns:List Int):depths (ns.map D.int)=0:=by
 induction ns with
 | nil=>simp[depths]
 | cons n ns ih=>rw[List.map_cons];unfold depths;rw[ih];simp[D.depth]
theorem d0d (ns:List Nat):(D.lst (a0e ns)).depth<=60:=by
 have:a0e ns=(ns.map λ(n:Nat)=>(n:Int)).map D.int:=by unfold a0e;simp
 rw[this];unfold D.depth;rw[o0i];decide
theorem e0i {r1:R}{ρ:En}{q:Ko}{ds:List D}{i:Int}{d:D}(hv:view ρ r1=some (.tup ds))(h:atI ds i=some d)(hq:q (.d d) ρ):gIx r1 (.d (.int i)) ρ q:=by
 unfold gIx
 rw[hv]
 simp only[h]
 exact hq
theorem j0g {r1:R}{ρ:En}{q:Ko}{ds:List D}{i:Int}{d:D}(hv:view ρ r1=some (.lst ds))(h:atI ds i=some d)(hq:q (.d d) ρ):gIx r1 (.d (.int i)) ρ q:=by
 unfold gIx
 rw[hv]
 simp only[h]
 exact hq
theorem a0t {r:R}{ρ:En}{q:Ko}{d:D}{n:String}{b:Bool}(hv:view ρ r=some d)(h:isaT (tyD d) n=some b)(hq:q (.d (.bl b)) ρ):gIsa [r,.t n] ρ q:=by
 unfold gIsa
 simp only[hv,h]
 exact hq
theorem v0v {r:R}{ρ:En}{q:Ko}{bs:List Bool}(hv:view ρ r=some (.lst (bs.map D.bl)))(hq:q (.d (.bl (bs.all id))) ρ):gAll [r] ρ q:=by
 unfold gAll
 simp only[hv,c1w]
 exact hq
theorem v0t {r:R}{ρ:En}{q:Ko}{ns:List Int}(hv:view ρ r=some (.lst (ns.map D.int)))(h1:∀n∈ns,0<=n)(h2:ns.sum<2^62)(hq:q (.d (.int ns.sum)) ρ):gSum [r] ρ q:=by
 unfold gSum
 simp only[hv,h0s]
 exact⟨h1,h2,hq⟩
def d0w (lo hi:Int):D->Bool
 | .int i=>decide (lo<=i)&&decide (i<=hi)
 | _=>false
def tupB (lo hi:Int):D->Bool
 | .tup ds=>decide (lo<=(ds.length:Int))&&decide ((ds.length:Int)<=hi)
 | _=>false
theorem y0b {lo hi:Int}{d:D}(h:d0w lo hi d=true):∃i,d = .int i/\lo<=i/\i<=hi:=by
 cases d with
 | int i=>simp[d0w]at h;exact⟨i,rfl,h⟩
 | non=>cases h
 | bl _=>cases h
 | str _=>cases h
 | tup _=>cases h
 | lst _=>cases h
theorem d1t {lo hi:Int}{d:D}(h:tupB lo hi d=true):∃ds,d = .tup ds/\lo<=(ds.length:Int)/\(ds.length:Int)<=hi:=by
 cases d with
 | tup i=>simp[tupB]at h;exact⟨i,rfl,h⟩
 | non=>cases h
 | bl _=>cases h
 | str _=>cases h
 | int _=>cases h
 | lst _=>cases h
theorem d1u {d:D}(h:tupB 2 2 d=true):∃x y,d = .tup [x,y]:=by
 obtain⟨ds,rfl,h1,h2⟩:=d1t h
 have:ds.length=2:=by omega
 match ds,this with
 | [x,y],_=>exact⟨x,y,rfl⟩
theorem cutS {A B:AS}{e:u0n}{ρ:En}(P:En->Prop)(h1:∀N:En->Prop,(∀ ρ',P ρ'->N ρ')->A {e with nx:=N} ρ)(h2:∀ ρ',P ρ'->B e ρ'):aSeq A B e ρ:=h1 (B e) h2
theorem p0d {x:Int}{n:Nat}(h:x=(n:Nat)):Sv.vl (.int x)=nv n:=by rw[h]
theorem q0j {α:Type}{xs:List α}{i:Nat}(h:i<xs.length):∃d,atI xs ((i:Nat):Int)=some d/\d∈xs:=⟨xs[i],s0c (List.getElem?_eq_getElem h),List.getElem_mem h⟩
def d1g:ASp:=λss q=>∃(d:D) (lo be:Int),ss=[.vl d,.vl (.int lo),.vl (.int be)]/\q (.d (.bl (d0w lo (be - 1) d))) [.vl d,.vl (.int lo),.vl (.int be)]
def s0h:ASp:=λss q=>∃(d:D) (lo hi:Int),ss=[.vl d,.vl (.int lo),.vl (.int hi)]/\q (.d (.bl (d0w lo hi d))) [.vl d,.vl (.int lo),.vl (.int hi)]
def s0i:ASp:=λss q=>∃(d:D) (lo hi:Int),ss=[.vl d,.vl (.int lo),.vl (.int hi)]/\q (.d (.bl (tupB lo hi d))) [.vl d,.vl (.int lo),.vl (.int hi)]
theorem f0d (xs:List Nat)(x:Nat):a0e (xs++[x])=a0e xs++[nD x]:=by unfold a0e;rw[List.map_append];rfl
theorem o0l (xs:List D)(k:Nat):cutD xs none (some ((k:Nat):Int))=xs.take k:=by
 unfold cutD
 have e0:HT.sIx xs.length 0 none=0:=rfl
 rw[e0,List.drop_zero,Nat.sub_zero,HT.sIx_nat]
 rcases Nat.le_total k xs.length with h | h
 ·rw[Nat.min_eq_left h]
 ·rw[Nat.min_eq_right h,List.take_of_length_le (Nat.le_refl _),List.take_of_length_le h]
theorem c1l (xs:List D)(k:Nat):cutD xs (some ((k:Nat):Int)) none=xs.drop k:=by
 unfold cutD
 have e0:HT.sIx xs.length xs.length none=xs.length:=rfl
 rw[e0,HT.sIx_nat]
 rcases Nat.le_total k xs.length with h | h
 ·rw[Nat.min_eq_left h,List.take_of_length_le (by rw[List.length_drop];omega)]
 ·rw[Nat.min_eq_right h,List.drop_eq_nil_of_le (Nat.le_refl _),List.drop_eq_nil_of_le h];simp
theorem a0k (xs:List Nat):(a0e xs).length=xs.length:=by rw[List.length_map]
theorem DefN.no {P:Program}{w:World}{K:PySem.W.Frag}{mg:Str->Option Value}{base:Heap}{x:Str}{st:Stmt}{N ps:List Str}(D:DefN K mg x st ps)(Sc:b0j N ps (a0m st))(k:Nat):OkN P w K mg base (k+1) x ps (spA K λ_ _=>False) :=
 D.ok Sc (λvs H Q E h=>by obtain⟨_,_,_,_,h,_⟩:=h;exact h.elim) λf cdv A outer s H vs Q E _ h=>by obtain⟨_,_,_,_,h,_⟩:=h;exact h.elim
structure PSz (X:Cx)(b:List Stmt)(t:TS):Prop where
 h:PSs X b t
section
variable {X:Cx}{st:Stmt}{rest:List Stmt}{t u:TS}
theorem f0y (h1:PS X st t)(h2:PSz X rest u):PSz X (st::rest) (tSeq t u):=⟨a0i h1 h2.h⟩
theorem a1o (h1:PS X st t):PSz X [st] t:=⟨a0p h1⟩
end
structure PAz (X:Cx)(es:List Expr)(t:TA):Prop where
 h:PA X es t
section
variable {X:Cx}{e:Expr}{es:List Expr}{te:TE}{t:TA}{pos:Pos}
theorem z0i:PAz X [] tNil:=⟨a0f⟩
theorem b0s (n:NS e)(ha:PE X e te)(hr:PAz X es t):PAz X (e::es) (h1h te t):=⟨a0c ha hr.h (n es X.env)⟩
theorem g1b (h:PAz X es t):PE X (.List es pos) (tLst t):=b0w h.h
end
structure PEz (X:Cx)(e:Expr)(t:TE):Prop where
 h:PE X e t
structure PSy (X:Cx)(st:Stmt)(t:TS):Prop where
 h:PS X st t
section
variable {X:Cx}{st:Stmt}{rest:List Stmt}{t u:TS}{i:Nat}{x:Str}{e:Expr}{es:List Expr}{te:TE}{ta:TA}{pos pos':Pos}
theorem g1w (h1:PSy X st t)(h2:PSz X rest u):PSz X (st::rest) (tSeq t u):=⟨a0i h1.h h2.h⟩
theorem j1t (h:PAz X es ta):PEz X (.List es pos) (tLst ta):=⟨b0w h.h⟩
theorem j1s {p2:Pos}(hN:X.N.Nodup)(hi:X.N[i]? = some x)(hx:Loc X.env.scope x)(he:PEz X (.List es p2) te)(hf:X.fn x=true∨X.env.scope.names.lookup x=some .local) :
  PSy X (.Assign [.Name x pos'] (.List es p2) pos) (tAsg te (b1z i)):=⟨b0b hN hi hx he.h rfl hf⟩
end
theorem DefN.aokz {P:Program}{w:World}{K:PySem.W.Frag}{mg:Str->Option Value}{base:Heap}{x:Str}{st:Stmt}{N ps:List Str}{k:Nat}{a:AS}(D:DefN K mg x st ps)(Sc:b0j N ps (a0m st))(pr:Nat->Bool)(us:En)(S:ASp)(hus:List.replicate (N.length - ps.length) Sv.un=us)
  (hbody:∀(f:Addr) (cdv:Value) (A:Around) (outer:List Env) (s:Shared) (H:Hp) (E:XK),Room k (A.deeper (envOfC x (a0m st) s.heap.objs.size f cdv)) ->
   ∃t,PSz (cxOf CX0 P w K mg base N x (a0m st) f cdv A outer s H E).nox (g0b st) t/\TSok K pr t a)
  (hS:∀ss q,S ss q->ss.length=ps.length/\ownB pr ss 0=true/\a ⟨λρ=>q (.d .non) (outS ss ρ),λr ρ=>fin pr r ρ λr' ρ'=>q r' (outS ss ρ'),λ_=>False,λ_=>False⟩ (ss++us)):OkN P w K mg base (k+1) x ps (spA K S) :=
 D.aok2 Sc pr us S hus (λf cdv A outer s H E hr=>let ⟨t,h,k⟩:=hbody f cdv A outer s H E hr;⟨t,h.h,k⟩) hS
end L2
namespace HT
open PySem PySem.Spec PyProof.Rows
theorem tup_whole {prog:Program}{w:World}{A:Around}{E:Value->Shared->Prop}{s:Shared}{t sl:Addr}{items:Array Value}{vl vu:Value}{lo hi:Option Int}{Q:Value->Shared->Prop}(ht:IsTup s.heap t items)(hs:s.heap.IsSliceOf sl vl vu .none)(pl:IsPart vl lo)(pu:IsPart vu hi)
  (hw:sIx items.size 0 lo=0/\sIx items.size items.size hi=items.size) (h:Q (.ref t) s):wpAny (model prog w) A (getItem (.ref t) (.ref sl)) Q E s:=by
 obtain⟨os,hos,hcs,hds⟩:=id hs
 have hTs:s.TypeIs (.ref sl) "slice" := ⟨os,hos,hcs⟩
 unfold getItem
 try with_reducible refine wpAny_holding ?_
 first | refine wpAny_bind (wpAny_pure ?_) | skip
 refine wpAny_bind (wpAny_sequenceKey ht.typeIs (by decide) ?_)
 refine wpAny_bind (wpAny_callSpecial?_slot (name:=Str.ofString "__getitem__") ht.typeIs PyProof.Rows.slot_tuple_getitem
  (wpAny_call_entry PyProof.Rows.slot_tuple_getitem ht.typeIs entry_tuple_getitem ?_ (args_tuple_getitem _ _)))
 show wpAny _ _ (Builtin.Tuple.tupleItemsOf (.ref t)>>=_) _ _ s
 refine wpAny_bind (tupleItemsOf_ ht ?_)
 refine wpAny_bind (wpAny_typeOf hTs ?_)
 rw[if_pos (by decide)]
 refine wpAny_bind (i0q hs pl pu ?_)
 have yes:(((sIx items.size 0 lo:Nat):Int)==0&&(1:Int)==1&&(sIx items.size items.size hi - sIx items.size 0 lo)==items.size)=true:=by
  rw[hw.1,hw.2];simp
 show wpAny _ _ (if(((sIx items.size 0 lo:Nat):Int)==0&&(1:Int)==1&&(sIx items.size items.size hi - sIx items.size 0 lo)==items.size)=true then _ else _) _ _ s
 rw[if_pos yes]
 have hex:∀ {R:Bool->Shared->Prop} {E':Value->Shared->Prop} {A'},R true s->wpAny (model prog w) A' (Builtin.Tuple.tupleIsExact (.ref t)) R E' s:=λhR=>by
  unfold Builtin.Tuple.tupleIsExact
  exact wpAny_bind (wpAny_typeOf ht.typeIs (wpAny_pure hR))
 refine wpAny_bind (hex ?_)
 rw[if_pos rfl]
 first
  | exact wpAny_bind (wpAny_rule (wpAny_bind (wpAny_pure (wpAny_pure ⟨_,rfl,wpAny_pure h⟩))))
  | exact wpAny_bind (wpAny_rule (wpAny_pure ⟨_,rfl,wpAny_pure h⟩))
  | exact wpAny_bind (wpAny_rule (wpAny_bind (wpAny_pure ⟨_,rfl,wpAny_pure h⟩)))
  | exact wpAny_rule (wpAny_bind (wpAny_pure ⟨_,rfl,wpAny_pure h⟩))
end HT
namespace L2
open PySem PySem.Spec PyProof.Rows
section
variable {X:Cx}(K:PySem.W.Frag)
def k1r (K:PySem.W.Frag):V->Option Int->Option Int->Hp->VK->Prop:=λx lo hi H Q=>∃a xs,x = .ref a/\SqT K H a xs /\
 ((HT.sIx xs.length 0 lo=0/\HT.sIx xs.length xs.length hi=xs.length)->Q (.ref a) H)/\(¬(HT.sIx xs.length 0 lo=0/\HT.sIx xs.length xs.length hi=xs.length)->∀p,H p=none->Q (.ref p) (upd H p (.tup (cutV xs lo hi))))
theorem h1q (hK:X.K=K:=by rfl):SlR X (k1r K):=by
 subst hK
 intro pins s σ H x v vl vu lo hi sl Q I rx hs pl pu h
 obtain⟨a,xs,rfl,hx,q1,q2⟩:=h
 by_cases hw:HT.sIx xs.length 0 lo=0/\HT.sIx xs.length xs.length hi=xs.length
 ·cases rx
  obtain⟨its,r,ht,hz⟩:=I.tuple hx
  have hlen:its.toArray.size=xs.length:=by rw[List.size_toArray];exact r.length.symm
  refine⟨"tuple",_,PyProof.Rows.slot_tuple_getitem.lookup,ht.typeIs,?_⟩
  exact HT.tup_whole ht hs pl pu (by rw[hlen];exact hw) ⟨.ref a,H,I,rfl,q1 hw⟩
 ·exact k1l pins s σ H (.ref a) v vl vu lo hi sl Q I rx hs pl pu ⟨a,xs,rfl,hx,hw,q2 hw⟩
end
section
variable {K:PySem.W.Frag}{ta:TE}{a:AE}
def aSlT (a:AE)(l u:AO):AE:=λρ q=>a ρ λr ρ1=>l ρ1 λlo ρ2=>u ρ2 λhi ρ3=>match view ρ3 r.frz with
 | some (.tup ds)=>q (.d (.tup (cutD ds lo hi))) ρ3
 | _=>False
theorem f1a {ds:List D}{lo hi:Option Int}(h:HT.sIx ds.length 0 lo=0/\HT.sIx ds.length ds.length hi=ds.length):cutD ds lo hi=ds:=by
 unfold cutD
 rw[h.1,h.2];simp
theorem h1e {tl th:TO}{al au:AO}(ha:TEok K ta a)(hl:TOok K tl al)(hh:TOok K th au):TEok K (tSl (k1r K) ta tl th) (aSlT a al au):=by
 intro F σ ρ H q Q r h k
 refine ha F σ ρ H _ _ r h λr1 ρ1 x H1 h1 rel1=>?_
 obtain⟨r',k1,i1⟩:=rel1.inF
 refine hl F σ ρ1 H1 _ _ r' h1 λlo ρ2 H2 h2 r2 k2=>?_
 refine hh F σ ρ2 H2 _ _ r2 h2 λhi ρ3 H3 h3 r3 k3=>?_
 have kk:=((k.after k1).after k2).after k3
 split at h3
 ·rename_i ds e
  obtain⟨p,vs,rfl,sq,rd,sv⟩:=j0k r3 ((i1.keep k2).keep k3) e
  refine⟨p,vs,rfl,sq,λz=>?_,λ_ p' hp=>kk.newT r3 h3 (c1k rd) hp⟩
  refine kk.dat r3 h3 ?_
  rw[rd.length]at z
  rw[f1a z]
  unfold RepD
  exact⟨p,vs,rfl,sv,rd⟩
 ·exact h3.elim
end
section
variable {X:Cx}{pins:List (Addr×Obj)}{σ:St}{H:Hp}{s:Shared}{h':Heap}
theorem Inv.turns {t':Nat}{ch:List Addr}(I:Inv X pins σ H s)(k:∀b o,b∉ch->s.heap.get? b=some o->h'.get? b=some o)(hf:∀b∈ch,FpOk X pins H b):Inv X pins σ H {s with heap:=h',toks:=t'}:=by
 have nit:∀b u,H b=some u->b∉ch:=λb u e z=>by rw[(hf b z).1]at e;cases e
 refine I.step (g':=s.gens) (d':=s.drawn) (ch:=ch) (λb hb=>?_) (λb o _ _ hc e _=>k b o hc e) (λb o _ _ hc e _=>⟨o.slots,k b o hc e⟩) (λ_ _ _ _ n=>n)
  (λb o hc e=>⟨o,k b o hc e⟩) (λ_ _ e=>e) (λ_ _ _ e=>e) (λb ps e=>⟨#[],by rw[e];simp⟩) (λm hm=>?_) (λb u e=>?_) I.bare
 ·obtain⟨_,h2,_,h4,h5,h6⟩:=hf b hb
  exact⟨h4,h2,h5,h6⟩
 ·obtain⟨o,es,ep,ho,r⟩:=hm
  exact⟨o,es,ep,k _ o (λz=>(hf _ z).2.1 rfl) ho,r⟩
 ·refine(I.hok b u e).stay (λc v hc q=>k c v ?_ q) (λ_ q=>q) λ_ _ q=>q
  rcases hc with z | z
  ·rw[z];exact nit b u e
  ·exact nit c _ z
theorem Inv.trackO {p:Addr}{o:HO}(I:Inv X pins σ H s)(hf:FpOk X pins H p)(new:e0s X.prog X.w (upd H p o) s.heap p o):Inv X pins σ (upd H p o) s:=by
 have hn:=hf.1
 refine I.call' (ch:=[p]) rfl ⟨λb u e _ _ _=>e,λb u e _ _ _=>⟨u.slots,e⟩,λb u e n hx=>?_,λb u e _=>⟨u,e⟩,λb xs e=>?_,λb u v e=>?_,λb ps e=>⟨#[],?_⟩⟩ (λb u e=>?_) I.bare (λb hb=>?_)
 ·rw[b0l (λz=>hx (by simp[z]))];exact n
 ·rw[b0l (b0y e hn)];exact e
 ·rw[b0l (b0y e hn)];exact e
 ·rw[b0l (b0y e hn),e];simp
 ·by_cases hb:b=p
  ·subst hb;rw[c0v]at e;cases e;exact new
  ·rw[b0l hb]at e
   exact(I.hok b u e).stay (λc v _ q=>q) (λc q=>by rw[b0l (b0y q hn)];exact q) λc xs q=>by rw[b0l (b0y q hn)];exact q
 ·rw[List.mem_singleton.mp hb]
  obtain⟨_,h2,_,h4,h5,h6⟩:=hf
  exact⟨h4,h2,h5,h6⟩
end
section
variable {K:PySem.W.Frag}{ts:TA}{as:AA}
def d1r (pin:Nat->Bool)(ρ:En):R->Option (List D×(En->Prop))
 | .d (.lst ds)=>some (ds,λ_=>True)
 | .o i=>(match gt ρ i with
  | .ow ds=>if pin i=true then some (ds,λρ2=>gt ρ2 i = .ow ds)else none
  | _=>none)
 | _=>none
theorem d1q {pin:Nat->Bool}{F:Fr}{σ:St}{ρ:En}{H:Hp}{v:V}{r:R}{ds:List D}{c:En->Prop}(a:Rel K F σ ρ H)(i:InF K F σ ρ H v r)(e:d1r pin ρ r=some (ds,c)) :
  ∃l vs,v = .ref l/\SqL K H l vs/\∀ σ2 ρ2 H2,Same (hid H (hs F σ ρ)) (hid H2 (hs F σ2 ρ2))->(∀i,SvOk K (hid H2 (hs F σ2 ρ2)) H2 σ2[i]? (gt ρ2 i))->(∀j a,pin j=true->σ[j]? = some (some (.ref a))->σ2[j]? = some (some (.ref a)))->c ρ2->∃vs2,SqL K H2 l vs2/\RepDs K (hid H2 (hs F σ2 ρ2)) vs2 ds:=by
 cases r with
 | n s=>cases e
 | t n=>cases e
 | x s=>cases e
 | d d =>
  cases d with
  | lst es =>
   simp only[d1r,Option.some.injEq,Prod.mk.injEq]at e
   obtain⟨rfl,rfl⟩:=e
   have rd:RepD K _ v (.lst es):=i
   unfold RepD at rd
   obtain⟨l,vs,rfl,sq,rr⟩:=rd
   exact⟨l,vs,rfl,d0c.seq (StL.sq sq),λσ2 ρ2 H2 sm _ _ _=>⟨vs,d0c.seq (sm.seq (StL.sq sq)),rr.same sm⟩⟩
  | non=>cases e
  | bl _=>cases e
  | int _=>cases e
  | str _=>cases e
  | tup _=>cases e
 | o j =>
  have ej:σ[j]? = some (some v):=i
  unfold d1r at e
  cases hg:gt ρ j with
  | ow es =>
   simp only[hg]at e
   split at e
   ·rename_i hp
    simp only[Option.some.injEq,Prod.mk.injEq]at e
    obtain⟨rfl,rfl⟩:=e
    have s:=a.sl j
    rw[hg,ej]at s
    obtain⟨l,vs,e1,hl,rd⟩:=s
    injection e1 with e1;injection e1 with e1;subst e1
    refine⟨l,vs,rfl,SqL.of hl,λσ2 ρ2 H2 sm sv pn hc=>?_⟩
    have s2:=sv j
    rw[hc,pn j l hp ej]at s2
    obtain⟨l',vs',e2,hl',rd'⟩:=s2
    injection e2 with e2;injection e2 with e2;injection e2 with e2;subst e2
    exact⟨vs',SqL.of hl',rd'⟩
   ·cases e
  | un=>simp[hg]at e
  | vl _=>simp[hg]at e
  | tp _=>simp[hg]at e
  | dk _=>simp[hg]at e
  | dt _=>simp[hg]at e
  | ex _ _=>simp[hg]at e
  | sc _=>simp[hg]at e
  | px _ _ _=>simp[hg]at e
  | xl _=>simp[hg]at e
  | ob _ _=>simp[hg]at e
  | ll _=>simp[hg]at e
  | ds _ _ _=>simp[hg]at e
end
section
variable {K:PySem.W.Frag}{ta te:TE}{a ae:AE}{ts:TA}{as:AA}
def n1v (a:AE):AE:=λρ q=>a ρ λr ρ1=>match r with
 | .d (.int i)=>q (.d (.int (Builtin.Int.intBits i:Nat))) ρ1
 | _=>False
theorem d1v (ha:TEok K ta a):TEok K (tBM0 K "int" (λx xs H Q=>∃i,x = .int i/\xs=[]/\Q (.int (Builtin.Int.intBits i:Nat)) H) ta) (n1v a):=by
 intro F σ ρ H q Q r h k
 refine ha F σ ρ H _ _ r h λr1 ρ1 x H1 h1 o1=>?_
 obtain⟨r1',k1,i1⟩:=o1.inF
 split at h1
 ·rename_i i
  have ex:x = .int i:=i1.int
  subst ex
  exact⟨by first | rfl | exact .inl rfl | trivial | simp[tyV],i,rfl,rfl,(k.after k1).int r1' h1⟩
 ·exact h1.elim
end
def Ite (K:PySem.W.Frag)(l:Addr):It :=
 ⟨λi H=>∃xs x,SqL K H l xs/\xs[i]? = some x,λi H v H'=>∃p x,v = .ref p/\H p=none/\H'=upd H p (.tup [.int (i:Nat),x])/\∀xs,SqL K H l xs->xs[i]? = some x,
  λi H=>∃xs,SqL K H l xs/\xs.length<=i⟩
theorem z0n {P:Program}{w:World}{K:PySem.W.Frag}{elts:List Expr}{x1}{tpos:Pos}{e it l:Addr}(ne:e≠it) :
  Turn P w K (.Tuple elts x1 tpos) (Ite K l) [e,it] e (λi h=>(∃old,IsEnum h e it (i:Nat) old)/\h.IsListIter it l i) where
 mem:=by simp
 obj:=λi h st b hb=>by
  obtain⟨⟨old,he⟩,⟨o1,e1,c1,d1⟩⟩:=st
  simp only[List.mem_cons,List.not_mem_nil,or_false]at hb
  rcases hb with rfl | rfl
  ·exact⟨_,he,λv q=>by cases q⟩
  ·exact⟨o1,e1,λv q=>by rw[d1]at q;cases q⟩
 keep:=λi h h' st k=>by
  obtain⟨⟨old,he⟩,h1⟩:=st
  exact⟨⟨old,k e (by simp) _ he⟩,h1.at λo q=>k it (by simp) o q⟩
 item:=by
  intro X hP hw hK hc i pins s σ H E I hf st hg
  subst hP hw hK
  obtain⟨xs,x,q1,hx⟩:=hg
  obtain⟨⟨old,he⟩,h1⟩:=st
  obtain⟨its,rv,p1,_⟩:=I.list q1
  obtain⟨u,hu,ru⟩:=rv.get hx
  refine wpAny_pyNext_enum_item he h1 p1.isList (x:=u) (by simpa using hu) ne λh' a1 a2 a3 a4 hk=>?_
  refine⟨_,rfl,wpAny_letOwnedTupleGo_enum (s:={s with heap:=h',toks:=s.toks+1}) a1 λh2' he' hs'=>?_⟩
  have hs2:Heap.SameBut e h' h2':=hs'
  have ls:∀ {b o},s.heap.get? b=some o->b≠s.heap.objs.size:=λe=>Nat.ne_of_lt (Heap.lt_size e)
  have es:e≠s.heap.objs.size:=ls he
  have up:∀b o,b∉[e,it]->s.heap.get? b=some o->h2'.get? b=some o:=λb o hb q=>by
   simp only[List.mem_cons,List.not_mem_nil,or_false,not_or]at hb
   exact(hs2.2 b hb.1).trans (hk b o hb.1 hb.2 q)
  have I1:Inv X pins σ H {s with heap:=h2',toks:=s.toks+1}:=I.turns (t':=s.toks+1) up hf
  have fp:FpOk X pins H s.heap.objs.size:=I.fpOk (Nat.le_refl _) (I.hok.fresh (Nat.le_refl _))
  have g:h2'.get? s.heap.objs.size=some {cls:=.type "tuple",data:=.seq #[.int i s.toks,u]}:=(hs2.2 _ (Ne.symm es)).trans a3
  have I2:=I1.trackO (o:=.tup [.int (i:Nat),x]) fp ⟨by show 2<=sizeLine;decide,[.int i s.toks,u],.cons ⟨_,rfl⟩ (.cons ru .nil),_,g,rfl,_,rfl⟩
  refine⟨.ref s.heap.objs.size,upd H s.heap.objs.size (.tup [.int (i:Nat),x]),I2,rfl,⟨_,x,rfl,fp.1,rfl,λzs hz=>by rw[I.list_inj hz q1];exact hx⟩,?_,λb hb=>?_⟩
  ·refine⟨⟨u,by simpa using he'⟩,?_⟩
   obtain⟨o,q,r⟩:=a2;exact⟨o,(hs2.2 it (Ne.symm ne)).trans q,r⟩
  ·have hb':=(hf b hb).1
   have ne':b≠s.heap.objs.size:=by
    obtain⟨o1,e1,_⟩:=h1
    simp only[List.mem_cons,List.not_mem_nil,or_false]at hb
    rcases hb with rfl | rfl
    ·exact ls he
    ·exact ls e1
   rw[b0l ne'];exact hb'
 done:=by
  intro X hP hw hK hc i pins s σ H E I hf st hg
  subst hP hw hK
  obtain⟨xs,q1,hl⟩:=hg
  obtain⟨⟨old,he⟩,h1⟩:=st
  obtain⟨its,rv,p1,_⟩:=I.list q1
  have l1:=rv.length
  refine wpAny_pyNext_enum_end (I.ok.hd hc) he h1 p1.isList (by simp;omega) λh' hk=>⟨rfl,I.turns (ch:=[e,it]) (t':=s.toks) (λb o hb q=>?_) hf⟩
  simp only[List.mem_cons,List.not_mem_nil,or_false,not_or]at hb
  exact hk b o hb.2 q
 self:=λ_ _ _ _ _ st h=>by obtain⟨⟨old,he⟩,_⟩:=st;exact wpAny_pyIter_enum he h
def l1t (K:PySem.W.Frag)(t:TA):TI:=λσ H R=>t σ H λvs H1=>∃l xs,vs=[.ref l]/\SqL K H1 l xs/\R (Ite K l) H1
theorem h1v (K:PySem.W.Frag){X:Cx}{elts:List Expr}{x1}{tpos:Pos}{a:Expr}{ta:TA}{p pos:Pos}(hg:Gl X "enumerate")(hm:X.mg "enumerate" = none)(ha:PA X [a] ta)(hK:X.K=K:=by rfl)(hs:starEach [a] X.env=[(false,eval a X.env)]:=by rfl) :
  PI X (.Tuple elts x1 tpos) (.Call (.Name "enumerate" p) [a] [] pos) (l1t K ta):=by
 subst hK
 intro pins s σ H R I h
 refine Call_ (j0d I hg hm m0t (PyProof.Rows.callWith_type1 (thn (ha pos pins s σ H _ I h) λus s1 ⟨vs,H1,I1,r1,q1⟩=>?_) hs rfl))
 obtain⟨l,xs,rfl,h1,q⟩:=q1
 obtain⟨u,rfl,ru⟩:=l0u r1
 cases ru
 obtain⟨its,_,p1,_⟩:=I1.list h1
 refine call_enumerate_list p1.isList λh' he hi hsz hk=>?_
 refine wpAny_pyIter_enum he ?_
 refine⟨_,_,_,_,H1,rfl,I1.kept (t':=s1.toks) hk,z0n (show s1.heap.objs.size+1≠s1.heap.objs.size by omega),⟨⟨_,he⟩,hi⟩,λb hb=>?_,q⟩
 have le:s1.heap.objs.size<=b:=by
  simp only[List.mem_cons,List.not_mem_nil,or_false]at hb
  rcases hb with rfl | rfl <;> omega
 exact I1.fpOk le (I1.hok.fresh le)
section
variable {K:PySem.W.Frag}{ts:TA}{as:AA}
def l0p (k:Nat):List D->List D
 | []=>[]
 | d::ds=>.tup [.int (k:Nat),d]::l0p (k+1) ds
theorem h0w:∀ {ds:List D} {b k:Nat} {d:D},(l0p b ds)[k]? = some d->∃x,ds[k]? = some x/\d = .tup [.int ((b+k:Nat):Int),x]
 | [],b,k,d,h=>by simp[l0p]at h
 | x::ds,b,0,d,h=>by
  simp only[l0p,List.getElem?_cons_zero,Option.some.injEq]at h
  exact⟨x,rfl,h.symm⟩
 | x::ds,b,k+1,d,h=>by
  simp only[l0p,List.getElem?_cons_succ]at h
  obtain⟨a,e1,e2⟩:=h0w (ds:=ds) (b:=b+1) (k:=k) h
  exact⟨a,by simpa using e1,by rw[e2,show b+1+k=b+(k+1)by omega]⟩
theorem h0v:∀(ds:List D) (b:Nat),(l0p b ds).length=ds.length
 | [],b=>rfl
 | x::ds,b=>by simp only[l0p,List.length_cons,h0v ds]
theorem g1x {S:Addr->Prop}{H:Hp}{l:Addr}{vs:List V}{ds:List D}(al:∀a,S a->H a≠none)(h1:SqL K H l vs)(r1:RepDs K (hid H S) vs ds):WkAt K S H (Ite K l) (l0p 0 ds):=by
 intro k
 constructor
 ·intro d e
  obtain⟨x,ex,rfl⟩:=h0w e
  rw[Nat.zero_add]
  obtain⟨v,e1,rv⟩:=r1.get ex
  refine⟨⟨vs,v,h1,e1⟩,λz H' ⟨p,a,ez,hp,eH,ha⟩=>?_⟩
  have a1:=ha vs h1
  rw[e1]at a1
  cases a1
  subst eH ez
  have sm:Same H (upd H p (.tup [.int (k:Nat),v])):=(Same.refl H).new hp
  have sm':Same (hid H S) (hid (upd H p (.tup [.int (k:Nat),v])) S):=c0a λa o e n=>⟨sm a o e,n⟩
  refine⟨sm,?_⟩
  unfold RepD
  exact⟨p,[.int (k:Nat),v],rfl,(m0s (λz=>al p z hp) c0v),.cons (by unfold RepD;rfl) (.cons (rv.same sm') .nil)⟩
 ·intro z
  rw[h0v]at z
  exact⟨vs,h1,by rw[r1.length];exact z⟩
def n1s (pin:Nat->Bool)(as:AA):AI:=λρ q=>as ρ λrs ρ1=>match rs with
 | [r1]=>(match d1r pin ρ1 r1 with
  | some (ds,c)=>q (l0p 0 ds) c ρ1
  | _=>False)
 | _=>False
theorem z0s {pin:Nat->Bool}(h:TAok K ts as):TIok K pin (l1t K ts) (n1s pin as):=by
 intro F σ ρ H q Rk r ha k
 refine h F σ ρ H _ _ r ha λrs ρ1 vs H1 h1 r1 i1 k1=>?_
 split at h1
 ·obtain⟨x,rfl,ix⟩:=i1.one
  split at h1
  ·rename_i ds c e1
   obtain⟨l1,us1,rfl,s1,w1⟩:=d1q r1 ix e1
   refine⟨l1,us1,rfl,s1,k _ _ _ _ _ h1 r1 k1 λσ2 ρ2 H2 sm sv pn al hc=>?_⟩
   obtain⟨v1,z1,rd1⟩:=w1 σ2 ρ2 H2 sm sv pn hc
   exact g1x (λa z=>(al a z).1) z1 rd1
  ·exact h1.elim
 ·exact h1.elim
end
open Builtin.SmallTypes (nextOf)
structure Feed (prog:Program)(w:World)(it:Addr)(dep:List Addr)(St:Nat->Heap->Prop)(gv:Nat->Option Value):Prop where
 mem:it∈dep
 obj:∀i h,St i h->∃o vs n,h.get? it=some o/\o.data = .fields vs/\o.cls = .type n/\n ≠ "zip"
 keep:∀i h h',St i h->(∀b o,b∈dep->h.get? b=some o->h'.get? b=some o)->St i h'
 item:∀(A:Around) i (s:Shared) x (Q:Value->Shared->Prop) E,St i s.heap->gv i=some x->(∀h',St (i+1) h'->Heap.SameBut it s.heap h'->Q x {s with heap:=h'})->wpAny (model prog w) A (nextOf (.ref it)) Q E s
 fin:∀(A:Around) i (s:Shared) (Q:Value->Shared->Prop) E,A.handled=none->St i s.heap->gv i=none->(∀h' e,Heap.ExtBut it s.heap h'->(∃o,h'.get? e=some o/\o.cls = .type "StopIteration")->E (.ref e) {s with heap:=h'})->wpAny (model prog w) A (nextOf (.ref it)) Q E s
section
variable {prog:Program}{w:World}
theorem r0q {it l:Addr}{xs:Array Value}(hne:l≠it):Feed prog w it [it,l] (λi h=>h.IsTupleIter it l i/\h.IsTuple l xs) (λi=>xs[i]?) where
 mem:=by simp
 obj:=λi h ⟨⟨o,e,c,d⟩,_⟩=>⟨o,_,_,e,d,c,by decide⟩
 keep:=λi h h' ⟨a,b⟩ k=>⟨a.at λo e=>k it o (by simp) e,by obtain⟨o,e,r⟩:=b;exact⟨o,k l o (by simp) e,r⟩⟩
 item:=λA i s x Q E ⟨a,b⟩ hx k=>by
  obtain⟨o,ho,hc,hd⟩:=id a
  obtain⟨ol,hol,rr,nl,hdl⟩:=id b
  unfold nextOf
  refine wpAny_bind (wpAny_callSpecial?_slot (name:=Str.ofString "__next__") a.typeIs F.slot_tuple_iterator_next (wpAny_call_entry F.slot_tuple_iterator_next a.typeIs F.entry_tuple_iterator_next ?_ (F.args_tuple_iterator_next_1 _)))
  show wpAny _ _ (field (.ref it) 0>>=_) _ _ s
  refine wpAny_bind (wpAny_field ho hd (x:=.ref l) rfl ?_)
  show wpAny _ _ (if(Value.ref l==Value.none)=true then _ else _) _ _ s
  rw[if_neg (λz=>by cases z)]
  show wpAny _ _ (field (.ref it) 1>>=_) _ _ s
  refine wpAny_bind (wpAny_field ho hd (x:=.int i 0) rfl ?_)
  show wpAny _ _ (seqItems? (.ref l)>>=_) _ _ s
  refine wpAny_bind (wpAny_seqItems hol hdl ?_)
  simp only[Int.toNat_natCast,hx]
  refine wpAny_bind (wpAny_setField ho hd (by simp) (wpAny_pure ⟨x,rfl,wpAny_pure ?_⟩))
  refine k _ ⟨⟨_,Heap.get?_update_self _ ho (Obj.isFreed_of_fields (Obj.data_mapFields hd _)),(Obj.cls_mapFields ..).trans hc,by rw[Obj.data_mapFields hd];simp[rawInt]⟩,ol,?_,rr,nl,hdl⟩ (Heap.SameBut.update ..)
  exact((Heap.SameBut.update ..).2 l hne).trans hol
 fin:=λA i s Q E hh ⟨a,b⟩ hx k=>by
  obtain⟨o,ho,hc,hd⟩:=id a
  obtain⟨ol,hol,rr,nl,hdl⟩:=id b
  unfold nextOf
  refine wpAny_bind (wpAny_callSpecial?_slot (name:=Str.ofString "__next__") a.typeIs F.slot_tuple_iterator_next (wpAny_call_entry F.slot_tuple_iterator_next a.typeIs F.entry_tuple_iterator_next ?_ (F.args_tuple_iterator_next_1 _)))
  show wpAny _ _ (field (.ref it) 0>>=_) _ _ s
  refine wpAny_bind (wpAny_field ho hd (x:=.ref l) rfl ?_)
  show wpAny _ _ (if(Value.ref l==Value.none)=true then _ else _) _ _ s
  rw[if_neg (λz=>by cases z)]
  show wpAny _ _ (field (.ref it) 1>>=_) _ _ s
  refine wpAny_bind (wpAny_field ho hd (x:=.int i 0) rfl ?_)
  show wpAny _ _ (seqItems? (.ref l)>>=_) _ _ s
  refine wpAny_bind (wpAny_seqItems hol hdl ?_)
  simp only[Int.toNat_natCast,hx]
  refine wpAny_bind (wpAny_rule (wpAny_bind (wpAny_setField ho hd (by simp) ?_)))
  show wpAny _ _ (newExc (.type "StopIteration") []>>=_) _ _ _
  refine wpAny_bind ?_
  simp only[newExc,newTuple]
  refine wpAny_bind (wpAny_newObj_type ?_ (by size_fits))
  refine wpAny_bind (m:=firstArgMember _ _) (wpAny_of_eq (a:=Value.none) (by first | rfl | (simp only[firstArgMember];rfl)) ?_)
  refine wpAny_newObj_type ?_ (by size_fits)
  simp only[raiseNew]
  refine wpAny_bind (wpAny_handled ?_)
  first | rw[show A.in1.handled=none from hh] | rw[hh]
  refine wpAny_bind (wpAny_pure (wpAny_throw ?_))
  exact k _ _ (((Heap.SameBut.update ..).extBut.push _).push _) ⟨_,Heap.get?_push_size _ rfl,rfl⟩
variable {A:Around}{E:Value->Shared->Prop}{s:Shared}{z TI TO i1 i2:Addr}{d1 d2:List Addr}{S1 S2:Nat->Heap->Prop}{g1 g2:Nat->Option Value}
end
section
variable {X:Cx}(K:PySem.W.Frag)
theorem w0b {P:Program}{w:World}{A:Around}{its:List Value}{ns:List Int}(rv:Vals (ns.map V.int) its):CmpOf P w A .Lt (λi v=>its.toArray[i]? = some v) (λi j=>decide (ns.getD i 0<ns.getD j 0)):=by
 have go:∀ {i:Nat} {v:Value},its.toArray[i]? = some v->∃t,v = .int (ns.getD i 0) t:=λ{i v} hv=>by
  have hv':its[i]? = some v:=by simpa using hv
  have hi:i<its.length:=(List.getElem?_eq_some_iff.mp hv').1
  have hl:its.length=ns.length:=by have:=rv.length;rw[List.length_map]at this;omega
  obtain⟨u,e1,e2⟩:=rv.get (i:=i) (x:=V.int ns[i]) (by rw[List.getElem?_map,List.getElem?_eq_getElem (by omega)];rfl)
  rw[hv']at e1;cases e1
  obtain⟨t,rfl⟩:=e2
  exact⟨t,by rw[List.getD_eq_getElem?_getD,List.getElem?_eq_getElem (by omega)];rfl⟩
 exact CmpOf.ints_lt (λi=>ns.getD i 0) (λ_ _=>go)
def k1t (K:PySem.W.Frag):List V->Hp->VK->Prop:=λxs H Q=>∃(p:Addr) (ns:List Int),xs=[.ref p]/\SqL K H p (ns.map V.int)/\ns≠[]/\∀M,M∈ns->(∀a∈ns,M<=a)->Q (.int M) H
theorem o0s (hc:X.calm=true)(hK:X.K=K:=by rfl):k0t X (.builtin "min") (k1t K):=by
 subst hK
 intro pins s σ H xs us Q I r h
 obtain⟨a,ns,rfl,hq,hn0,q1⟩:=h
 obtain⟨u1,rfl,ru⟩:=l0u r
 cases ru
 obtain⟨its,rv,pl,hz⟩:=I.list hq
 have hl:its.length=ns.length:=by have:=rv.length;rw[List.length_map]at this;omega
 have hpos:0<ns.length:=List.length_pos_iff.mpr hn0
 have hne:a≠s.heap.objs.size:=Nat.ne_of_lt (by obtain⟨o,n,e,_⟩:=pl;exact Heap.lt_size e)
 refine call_min_walk (wpAny_pyIter_list pl.isList ?_)
 refine⟨s.heap.objs.size,_,_,_,_,_,_,rfl,Walks.list (A:=X.A.in1) (show X.A.in1.handled=none from I.ok.hd hc) s.heap.objs.size a hne its.toArray,⟨⟨_,Heap.get?_push_size _ rfl,rfl,rfl⟩,pl.isList.at λo e=>Heap.get?_push_of_some _ e⟩,λb hb=>?_,by rw[List.size_toArray,hl];exact hpos,w0b rv,λv g z hv kp=>?_⟩
 ·rw[Heap.size_push]
  rcases List.mem_cons.mp hb with rfl | hb
  ·exact Nat.lt_succ_self _
  ·rw[List.mem_singleton.mp hb]
   obtain⟨o,n,e,_⟩:=pl
   exact Nat.lt_succ_of_lt (Heap.lt_size e)
 ·rw[List.size_toArray,hl]at hv
  obtain⟨m1,m2⟩:=argBest_lt (λi=>ns.getD i 0) (ns.length - 1)
  have hlt:argBest (λi j=>decide (ns.getD i 0<ns.getD j 0)) (ns.length - 1)<ns.length:=by omega
  have hv':its[argBest (λi j=>decide (ns.getD i 0<ns.getD j 0)) (ns.length - 1)]? = some v:=by simpa using hv
  obtain⟨x,e1,e2⟩:=rv.get (i:=argBest (λi j=>decide (ns.getD i 0<ns.getD j 0)) (ns.length - 1)) (x:=V.int (ns.getD (argBest (λi j=>decide (ns.getD i 0<ns.getD j 0)) (ns.length - 1)) 0)) (by
   rw[List.getElem?_map,List.getElem?_eq_getElem hlt,List.getD_eq_getElem?_getD,List.getElem?_eq_getElem hlt];rfl)
  rw[hv']at e1;cases e1
  refine⟨_,H,I.kept λb o e=>?_,e2,q1 _ (getD_mem hlt) λy hy=>?_⟩
  ·refine kp b o (λz=>?_) (Heap.get?_push_of_some _ e)
   rw[List.mem_singleton.mp z]at e
   exact absurd (Heap.lt_size e) (Nat.lt_irrefl _)
  ·obtain⟨j,hj,rfl⟩:=mem_getD hy
   exact m2 j (by omega)
end
section
variable {K:PySem.W.Frag}{ta:TE}{a:AE}{ts:TA}{as:AA}
@[irreducible] def gMin1:List R->AE:=λrs ρ q=>match rs with
 | [r]=>(match view ρ r with
  | some (.lst ds)=>(match g0f ds with | some ns=>ns≠[]/\(∀M,M∈ns->(∀a∈ns,M<=a)->q (.d (.int M)) ρ) | none=>False)
  | _=>False)
 | _=>False
theorem o0r:CbOk K (k1t K) gMin1:=by
 intro F σ ρ H vs rs q Q a i h b
 unfold gMin1 at h
 split at h
 ·obtain⟨y,rfl,iy⟩:=i.one
  split at h
  ·rename_i ds e
   split at h
   ·rename_i ns e'
    obtain⟨l,us,rfl,sq,rd⟩:=c0u a iy e
    rw[h0t e',i0c]at rd
    rw[rd]at sq
    exact⟨l,ns,rfl,sq,h.1,λM hM hle=>b.int a (h.2 M hM hle)⟩
   ·exact h.elim
  ·exact h.elim
 ·exact h.elim
theorem r0l {r:R}{ρ:En}{q:Ko}{ns:List Int}(hv:view ρ r=some (.lst (ns.map D.int)))(h0:ns≠[])(h1:∀M,M∈ns->(∀a∈ns,M<=a)->q (.d (.int M)) ρ):gMin1 [r] ρ q:=by
 unfold gMin1
 simp only[hv,h0s]
 exact⟨h0,h1⟩
end
theorem d0j:∀(names:List (Str×NameKind)) (n:Nat) (acc:List (Str×Addr)),cellsFrom n names acc=cellsFrom n names []++acc
 | [],n,acc=>rfl
 | (x,k)::r,n,acc=>by
  unfold cellsFrom
  split
  ·rw[d0j r (n+1) ((x,n)::acc),d0j r (n+1) [(x,n)],List.append_assoc];rfl
  ·exact d0j r n acc
theorem i0j:∀(names:List (Str×NameKind)) (n:Nat) (acc:List (Str×Addr)) {x:Str} {c:Addr},(x,c)∈cellsFrom n names acc->(x,NameKind.cell)∈names∨(x,c)∈acc
 | [],n,acc,x,c,h=>.inr h
 | (y,k)::r,n,acc,x,c,h=>by
  unfold cellsFrom at h
  split at h
  ·rename_i hk
   rcases i0j r _ _ h with q | q
   ·exact .inl (.tail _ q)
   ·rcases List.mem_cons.mp q with z | z
    ·cases z
     have:k = .cell:=by simpa using hk
     subst this
     exact .inl (.head _)
    ·exact .inr z
  ·rcases i0j r _ _ h with q | q
   ·exact .inl (.tail _ q)
   ·exact .inr q
theorem i0k:∀(names:List (Str×NameKind)) (n:Nat) (acc:List (Str×Addr)) {x:Str},(x,NameKind.cell)∈names->∃c,(x,c)∈cellsFrom n names acc
 | [],n,acc,x,h=>nomatch h
 | (y,k)::r,n,acc,x,h=>by
  unfold cellsFrom
  rcases List.mem_cons.mp h with z | z
  ·cases z
   rw[if_pos (show(NameKind.cell==NameKind.cell)=true from rfl),d0j]
   exact⟨n,List.mem_append.mpr (.inr (.head _))⟩
  ·split
   ·exact i0k r _ _ z
   ·exact i0k r _ _ z
def k0j (scope:Scope)(C:Addr)(env:Env):List (Str×Addr):=cellsFrom (C+1) scope.names (f0x scope env)
def relS (scope sc:Scope):Scope :=
 {scope with names:=scope.names.map λ(n,k)=>if(k == .free&&sc.kind == .function&&sc.names.lookup n==some .cell)then(n,.cell)else(n,k)}
def blkC (X:Cx)(scope:Scope)(N:List Str)(s:Shared)(H:Hp)(C:Addr)(fp:List Addr):Cx where
 prog:=X.prog
 w:=X.w
 K:=X.K
 mg:=X.mg
 base:=X.base
 A:=X.A
 N:=N
 s₀:=s
 H₀:=H
 env:=compEnvC scope (k0j scope C X.env) C X.env
 outer:=X.stack
 stack:=X.stack
 ex:=fp
 fn:=λx=>scope.names.lookup x==some .cell
 calm:=X.calm
 pn:=[]
 xe:=λ_ _=>False
section
variable {M:Model}{A:Around}{E:Value->Shared->Prop}{s:Shared}
theorem n0n {scope:Scope}{cl:List (Str×Addr)}{env:Env}{Q:Env->Shared->Prop}
  (h:Q {scope,locals:=s.heap.objs.size,globals:=env.globals,cells:=cellsFrom (s.heap.objs.size+1) scope.names cl,qual:=env.qual,func:=none,code:=env.code,frame:=env.frame,builtins:=env.builtins}
   {s with heap:=pushCells (s.heap.push {cls:=.type "dict",data:=.dict #[]}) scope.names}) :
  wpAny M A (newFunctionEnv scope env.globals cl [] env.qual none .none (some env)) Q E s:=by
 simp only[newFunctionEnv,Option.isSome_some,if_true]
 refine wpAny_bind (wpAny_alloc ?_)
 refine wpAny_bind (wpAny_layCells _ (λname kind cells=>by cases hkc:kind==NameKind.cell <;> simp[hkc]) _ _ _ _ ?_)
 rw[show({s with heap:=s.heap.push {cls:=.type "dict",data:=.dict #[]}}:Shared).heap.objs.size=s.heap.objs.size+1 from Heap.size_push ..]
 refine wpAny_bind ?_
 rw[List.forIn_nil]
 exact wpAny_pure (wpAny_pure h)
end
section
variable {X:Cx}
structure BlkC (X:Cx)(scope:Scope)(own:List Str)(js:List Nat):Prop where
 kind:scope.kind = .function
 cells:∀y∈scope.names,y.2 = .cell->scope.names.lookup y.1=some .cell
 names:∀y∈scope.names,y.2 = .local->scope.names.lookup y.1=some .local
 free:∀y∈scope.names,y.2 = .free->X.env.kindOf y.1=some .cell∨X.env.kindOf y.1=some .free
 uniq:∀x,(x,NameKind.free)∈scope.names->scope.names.lookup x=some .free
 nd:(own++capN X.N js).Nodup
 cap:∀j∈js,j<X.N.length/\((X.N[j]?).getD "",NameKind.free)∈scope.names
def m1h (sc:Scope)(N:List Str)(scope:Scope)(own:List Str)(js:List Nat):Bool :=
 scope.kind == .function&&scope.names.all (λy=>y.2 != .cell||scope.names.lookup y.1==some .cell)&&scope.names.all (λy=>y.2 != .local||scope.names.lookup y.1==some .local) &&
 scope.names.all (λy=>y.2 != .free||sc.names.lookup y.1==some .cell||sc.names.lookup y.1==some .free)&&scope.names.all (λy=>y.2 != .free||scope.names.lookup y.1==some .free) &&
 decide (own++capN N js).Nodup&&js.all (λj=>decide (j<N.length)&&scope.names.any λy=>y.1==(N[j]?).getD "" && y.2 == .free)
theorem BlkC.of {scope:Scope}{own:List Str}{js:List Nat}(sc:Scope)(N:List Str)(h:m1h sc N scope own js=true:=by decide +kernel)(e1:X.env.scope=sc:=by rfl)(e2:X.N=N:=by rfl):BlkC X scope own js:=by
 subst e1 e2
 unfold m1h at h
 simp only[Bool.and_eq_true,List.all_eq_true,decide_eq_true_eq,beq_iff_eq]at h
 obtain⟨⟨⟨⟨⟨⟨h1,h2⟩,h3⟩,h4⟩,h5⟩,h6⟩,h7⟩:=h
 refine⟨h1,λy hy e=>?_,λy hy e=>?_,λy hy e=>?_,λx hx=>?_,h6,λj hj=>?_⟩
 ·have:=h2 y hy
  simpa [e] using this
 ·have:=h3 y hy
  simpa [e] using this
 ·have:=h4 y hy
  simp only[e,bne_self_eq_false,Bool.false_or,Bool.or_eq_true,beq_iff_eq]at this
  exact this
 ·have:=h5 _ hx
  simpa using this
 ·obtain⟨a,b⟩:=h7 j hj
  refine⟨a,?_⟩
  obtain⟨y,hy,e⟩:=List.any_eq_true.mp b
  simp only[Bool.and_eq_true,beq_iff_eq]at e
  obtain⟨e1,e2⟩:=e
  rw[<- e1,<- e2]
  exact hy
theorem j0j {scope:Scope}{C:Addr}{env:Env}{x:Str}{c:Addr}(h:(k0j scope C env).lookup x=some c):((x,c)∈cellsFrom (C+1) scope.names [])∨env.cells.lookup x=some c:=by
 unfold k0j at h
 rw[d0j,List.lookup_append]at h
 cases e:(cellsFrom (C+1) scope.names []).lookup x with
 | some d=>rw[e]at h;cases h;exact .inl (PySem.mem_of_lookup e)
 | none=>rw[e]at h;exact .inr (f0p h)
theorem q0g {scope:Scope}{C:Addr}{env:Env}{x:Str}(h:(x,NameKind.cell)∈scope.names):∃c,(k0j scope C env).lookup x=some c/\(x,c)∈cellsFrom (C+1) scope.names []:=by
 obtain⟨c,hc⟩:=i0k scope.names (C+1) [] h
 obtain⟨d,hd⟩:=g0e hc
 refine⟨d,?_,PySem.mem_of_lookup hd⟩
 unfold k0j
 rw[d0j,List.lookup_append,hd];rfl
theorem q0h {scope:Scope}{C:Addr}{env:Env}{x:Str}{c:Addr}(hn:(x,NameKind.cell)∉scope.names)(h:(x,NameKind.free)∈scope.names)(hc:env.cells.lookup x=some c):(k0j scope C env).lookup x=some c:=by
 unfold k0j
 rw[d0j,List.lookup_append]
 have:(cellsFrom (C+1) scope.names []).lookup x=none:=by
  cases e:(cellsFrom (C+1) scope.names []).lookup x with
  | none=>rfl
  | some d =>
   rcases i0j _ _ _ (PySem.mem_of_lookup e)with q | q
   ·exact(hn q).elim
   ·cases q
 rw[this]
 exact m0c h hc
theorem f1f {scope:Scope}{own:List Str}{js:List Nat}{pins:List (Addr×Obj)}{σ:St}{H:Hp}{s:Shared}{fp:List Addr}{C:Addr}{h1:Heap}{tk:Nat}(B:BlkC X scope own js)(I:Inv X pins σ H s)
  (hfp:∀b∈fp,FpOk X pins H b) (hfo:∀b∈fp,∃o,s.heap.get? b=some o) (hC:s.heap.objs.size<=C) (hns:h1.Ns C λ_=>none) (hcs:CellsOk h1 (C+1) (cellsFrom (C+1) scope.names [])) (hk:∀b o,s.heap.get? b=some o->h1.get? b=some o) :
  Inv (blkC X scope (own++capN X.N js) s H C fp) [] (bst own.length σ js) H {s with heap:=h1,toks:=tk}:=by
 have kindC:∀x,(blkC X scope (own++capN X.N js) s H C fp).env.kindOf x=some .cell∨(blkC X scope (own++capN X.N js) s H C fp).env.kindOf x=some .free->(x,NameKind.cell)∈scope.names∨(x,NameKind.free)∈scope.names:=λx hx=>by
  have hx':(relabel scope X.env).names.lookup x=some .cell∨(relabel scope X.env).names.lookup x=some .free:=hx
  rcases hx' with z | z
  ·rcases d0b z with q | ⟨_,q⟩
   ·exact .inl (PySem.mem_of_lookup q)
   ·exact .inr (PySem.mem_of_lookup q)
  ·rcases d0b z with q | ⟨_,q⟩
   ·exact .inr (PySem.mem_of_lookup q)
   ·exact .inr (PySem.mem_of_lookup q)
 have notC:∀x,(x,NameKind.free)∈scope.names->(x,NameKind.cell)∉scope.names:=λx hf hc=>by
  have:=B.cells (x,.cell) hc rfl
  rw[B.uniq x hf]at this
  cases this
 have ownGt:∀ {x c},(x,c)∈cellsFrom (C+1) scope.names []->C<c/\h1.IsCell c none:=λ{x c} e=>⟨(hcs.empty x c e).2,(hcs.empty x c e).1⟩
 have has:∀x,(x,NameKind.free)∈scope.names->∃c,X.env.cells.lookup x=some c:=λx hx=>I.ok.has x (B.free (x,.free) hx rfl)
 have old:∀ {x c},(k0j scope C X.env).lookup x=some c->((x,c)∈cellsFrom (C+1) scope.names [])∨X.env.cells.lookup x=some c:=λe=>j0j e
 have cellLt:∀ {x c},X.env.cells.lookup x=some c->c<s.heap.objs.size:=λ{x c} e=>by
  obtain⟨v,o,ho,_⟩:=I.cell x c e
  exact Heap.lt_size ho
 have fpLt:∀b∈fp,b<s.heap.objs.size:=λb hb=>let ⟨_,e⟩:=hfo b hb;Heap.lt_size e
 have fsOk:∀b∈frs X.stack,b∈X.env.locals::X.fs:=I.stkSub
 refine⟨⟨I.ok.mod,?_,I.ok.glob,I.ok.blt,hC,λx y c e1 e2=>?_,λx hx=>?_,λx c z e=>?_,I.ok.hd,I.ok.frames,.inl rfl,λb hb=>⟨?_,λx c e=>?_⟩,I.bs,Nat.le_trans I.ok.bsz I.sz,
   λb o e hb=>?_,λb hb hf=>?_,I.stack,I.stkFree⟩,rfl,I.bare,Un.kept hk,⟨_,hns,λi x v e1 e2 e3=>?_⟩,λx c e=>?_,?_,λx c e=>?_,λp hp=>absurd hp (by show p∉[]++[];simp),I.hok.kept hk,?_⟩
 ·show(relabel scope X.env).kind = .function
  exact B.kind
 ·rcases old e1 with q1 | q1
  ·rcases old e2 with q2 | q2
   ·exact PySem.name_of_addr hcs.apart q1 q2
   ·exact absurd (cellLt q2) (Nat.not_lt.mpr (Nat.le_trans hC (Nat.le_of_lt (ownGt q1).1)))
  ·rcases old e2 with q2 | q2
   ·exact absurd (cellLt q1) (Nat.not_lt.mpr (Nat.le_trans hC (Nat.le_of_lt (ownGt q2).1)))
   ·exact I.ok.inj x y c q1 q2
 ·rcases kindC x hx with q | q
  ·obtain⟨c,e,_⟩:=q0g (C:=C) (env:=X.env) q
   exact⟨c,e⟩
  ·obtain⟨c,e⟩:=has x q
   exact⟨c,q0h (notC x q) q e⟩
 ·have z0:(scope.names.lookup x==some NameKind.cell)=true:=z
  have z':scope.names.lookup x=some .cell:=by simpa using z0
  obtain⟨c',e',m'⟩:=q0g (C:=C) (env:=X.env) (PySem.mem_of_lookup z')
  have e'':(k0j scope C X.env).lookup x=some c:=e
  rw[e']at e''
  cases e''
  exact Nat.le_trans hC (Nat.le_of_lt (ownGt m').1)
 ·exact Nat.ne_of_lt (Nat.lt_of_lt_of_le (fpLt b hb) hC)
 ·rcases old e with q | q
  ·exact Nat.ne_of_gt (Nat.lt_of_lt_of_le (fpLt b hb) (Nat.le_trans hC (Nat.le_of_lt (ownGt q).1)))
  ·exact(hfp b hb).2.2.2.2.1 x c q
 ·have e1:=I.bs b o e
  obtain⟨f0,f1,f2,f3,f4,f5⟩:=hfp b hb
  rcases f3 with z | z
  ·exact I.ok.noex b o e z
  ·exact absurd (Nat.lt_of_lt_of_le (Heap.lt_size (I.ok.bs b o e).1) z) (Nat.lt_irrefl _)
 ·obtain⟨f0,f1,f2,f3,f4,f5⟩:=hfp b hb
  rcases List.mem_cons.mp (fsOk b hf)with z | z
  ·exact f1 z
  ·exact f2 z
 ·-- a captured name's value
  have hi:own.length<=i:=by
   rcases Nat.lt_or_ge i own.length with z | z
   ·exfalso
    have e2':(List.replicate own.length (none:Option V)++capt σ js)[i]? = some (some v):=e2
    rw[List.getElem?_append_left (by simpa using z),List.getElem?_replicate]at e2'
    split at e2' <;> cases e2'
   ·exact z
  have e1':(own++capN X.N js)[i]? = some x:=e1
  have e2':(List.replicate own.length (none:Option V)++capt σ js)[i]? = some (some v):=e2
  rw[List.getElem?_append_right hi]at e1'
  rw[List.getElem?_append_right (by simpa using hi),List.length_replicate]at e2'
  unfold capN at e1'
  unfold capt at e2'
  rw[List.getElem?_map]at e1' e2'
  cases ej:js[i - own.length]? with
  | none=>rw[ej]at e1';cases e1'
  | some j =>
   rw[ej]at e1' e2'
   have e1'':(X.N[j]?).getD "" = x:=Option.some.inj e1'
   have e2'':(σ[j]?).getD none=some v:=Option.some.inj e2'
   obtain⟨hj,hm⟩:=B.cap j (List.mem_of_getElem? ej)
   have eN:X.N[j]? = some x:=by
    rw[List.getElem?_eq_getElem hj]at e1'' ⊢
    exact congrArg some e1''
   have eS:σ[j]? = some (some v):=by
    cases q:σ[j]? with
    | none=>rw[q]at e2'';cases e2''
    | some u=>rw[q]at e2'';exact congrArg some e2''
   rw[e1'']at hm
   obtain⟨m,_,hl⟩:=I.loc
   have hv:Vis X.env.scope x:=by
    rcases B.free (x,.free) hm rfl with z | z
    ·exact .inr (.inl z)
    ·exact .inr (.inr z)
   obtain⟨u,r,l⟩:=hl j x v eN eS hv
   obtain⟨c,hc⟩:=has x hm
   refine⟨u,r,.inr ⟨?_,c,q0h (notC x hm) hm hc,?_⟩⟩
   ·rcases e3 with z | z | z
    ·exfalso
     have z':(relabel scope X.env).names.lookup x=some .local:=z
     rcases d0b z' with q | ⟨q,_⟩
     ·rw[B.uniq x hm]at q
      cases q
     ·cases q
    ·exact .inl z
    ·exact .inr z
   ·rcases l with⟨k1,_⟩ | ⟨k2,c2,e2,ic⟩
    ·rcases B.free (x,.free) hm rfl with t | t <;> (rw[k1]at t;cases t)
    ·rw[hc]at e2;cases e2
     obtain⟨o,ho,hd⟩:=ic
     exact⟨o,hk c o ho,hd⟩
 ·rcases old e with q | q
  ·exact⟨none,(ownGt q).2⟩
  ·obtain⟨v,o,ho,hd⟩:=I.cell x c q
   exact⟨v,o,hk c o ho,hd⟩
 ·exact I.hok.fresh hC
 ·rcases old e with q | q
  ·exact I.hok.fresh (Nat.le_trans hC (Nat.le_of_lt (ownGt q).1))
  ·exact I.freeC x c q
 ·rw[k0q]
  show _=(own++capN X.N js).length
  unfold capN
  simp
theorem v0z {elt tg iter:Expr}{ifs:List Expr}{scope:Scope}{pos:Pos}{own:List Str}{js:List Nat}{g:TG}{tc:TT}{te:TE}{Q:VK}{pins:List (Addr×Obj)}{σ:St}{s2:Shared}{itv:Value}{E:Value->Shared->Prop}
  {RR:Value->Addr->Result->Shared->Prop} (hc:X.calm=true) (B:BlkC X scope own js) (hg:∀s H C fp,(own++capN X.N js).Nodup->PG (blkC X scope (own++capN X.N js) s H C fp) tg g) (ht:∀s H C fp,PTs (blkC X scope (own++capN X.N js) s H C fp) ifs tc)
  (he:∀s H C fp,PE (blkC X scope (own++capN X.N js) s H C fp) elt te)
  (h:PIE X pins σ tg (λJ H1=>j1q J own.length js g tc te Q σ H1) itv s2)
  (hR:∀C acc s',d1n X pins σ Q C acc s'->RR acc C (.ok .next) s') :
  wpAny (model X.prog X.w) X.A (newList []) (λacc s3=>wpAny (model X.prog X.w) X.A (newFunctionEnv scope X.env.globals (f0x scope X.env) [] X.env.qual none .none (some X.env)) (λcenv s4 =>
   codeAny (model X.prog X.w) X.A (.compStart (.ListComp elt [⟨tg,iter,ifs,0⟩] scope pos) 0 itv acc {cenv with scope:=relabel scope X.env}) (RR acc cenv.locals) s4) E s3) E s2:=by
 obtain⟨it,fp,tn,J,H2,rfl,I2,T,st2,f2,W,⟨m0,w0⟩,turn⟩:=h
 refine wpAny_newObj_type (n0n ?_)
 generalize hPu:s2.heap.push {cls:=.type "list",dict:=none,data:=.seq ([]:List Value).toArray}=Pu
 dsimp only
 have hDC:Pu.objs.size=s2.heap.objs.size+1:=by rw[<- hPu,Heap.size_push]
 generalize hD:s2.heap.objs.size=D at hDC ⊢
 have gD:Pu.get? D=some {cls:=.type "list",dict:=none,data:=.seq ([]:List Value).toArray}:=by
  rw[<- hPu,<- hD];exact Heap.get?_push_size _ rfl
 have hns1:(pushCells (Pu.push {cls:=.type "dict",data:=.dict #[]}) scope.names).Ns Pu.objs.size λ_=>none:=(Heap.Ns.new Pu (.type "dict")).keeps (pushCells_keeps _ _)
 have hcs1:CellsOk (pushCells (Pu.push {cls:=.type "dict",data:=.dict #[]}) scope.names) (Pu.objs.size+1) (cellsFrom (Pu.objs.size+1) scope.names []):=by
  have ok:=cellsFrom_ok scope.names (Pu.push {cls:=.type "dict",data:=.dict #[]}) (Pu.objs.size+1) [] ⟨λ_ _ hm=>(nomatch hm),List.Pairwise.nil⟩ (by rw[Heap.size_push];exact Nat.le_refl _)
  rw[Heap.size_push]at ok
  exact ok
 have keep0:∀b o,Pu.get? b=some o->(pushCells (Pu.push {cls:=.type "dict",data:=.dict #[]}) scope.names).get? b=some o:=λb o e=>pushCells_keeps _ _ b o (Heap.get?_push_of_some _ e)
 generalize hh1:pushCells (Pu.push {cls:=.type "dict",data:=.dict #[]}) scope.names=h1 at hns1 hcs1 keep0 ⊢
 generalize hC:Pu.objs.size=C at hns1 hcs1 hDC ⊢
 have ltDC:D<C:=by rw[hDC];exact Nat.lt_succ_self D
 have neDC:D≠C:=Nat.ne_of_lt ltDC
 have keep1:∀b o,s2.heap.get? b=some o->h1.get? b=some o:=λb o e=>keep0 b o (by
  rw[<- hPu]
  exact Heap.get?_push_of_some _ e)
 have gD1:h1.get? D=some {cls:=.type "list",dict:=none,data:=.seq ([]:List Value).toArray}:=keep0 D _ gD
 have szD:s2.heap.objs.size<=D:=Nat.le_of_eq hD
 have szC:s2.heap.objs.size<=C:=Nat.le_trans szD (Nat.le_of_lt ltDC)
 have old:∀ {b:Addr},b<s2.heap.objs.size->b≠D/\b≠C:=λhb=>⟨Nat.ne_of_lt (Nat.lt_of_lt_of_le hb szD),Nat.ne_of_lt (Nat.lt_of_lt_of_le hb szC)⟩
 have fpo:∀b∈fp,∃o,s2.heap.get? b=some o:=λb hb=>let ⟨o,e,_⟩:=T.obj 0 _ st2 b hb;⟨o,e⟩
 have fpD:∀b∈fp,b≠D/\b≠C:=λb hb=>by
  obtain⟨o,e⟩:=fpo b hb
  exact old (Heap.lt_size e)
 have clD:∀x d,X.env.cells.lookup x=some d->d≠D/\d≠C:=λx d e=>by
  obtain⟨v,o,ho,_⟩:=I2.cell x d e
  exact old (Heap.lt_size ho)
 have pinD:∀p∈X.pn++pins,p.1≠D/\p.1≠C:=λp hp=>by
  exact old (Heap.lt_size (I2.pin p hp).1)
 have locD:D≠X.env.locals/\C≠X.env.locals:=by
  exact⟨(old I2.lt).1.symm,(old I2.lt).2.symm⟩
 let Y:=blkC X scope (own++capN X.N js) s2 H2 C fp
 have IB:Inv Y [] (bst own.length σ js) H2 {s2 with heap:=h1}:=f1f B I2 f2 fpo szC hns1 hcs1 keep1
 have fpB:∀ {H':Hp} {pl:List (Addr×Obj)},(∀b∈fp,H' b=none)->(∀p∈pl,p.1=D)->∀b∈fp,FpOk Y pl H' b:=λ{H' pl} hn hp b hb=>by
  obtain⟨f0,f1,f3,f4,f5,f6⟩:=f2 b hb
  refine⟨hn b hb,(fpD b hb).2,λz=>?_,.inl hb,λx c e=>?_,λp q=>?_⟩
  ·rcases List.mem_cons.mp (I2.stkSub b z)with z | z
   ·exact f1 z
   ·exact f3 z
  ·rcases j0j e with q | q
   ·obtain⟨o,eo⟩:=fpo b hb
    exact Nat.ne_of_gt (Nat.lt_of_lt_of_le (Heap.lt_size eo) (Nat.le_trans szC (Nat.le_of_lt (hcs1.empty _ _ q).2)))
   ·exact f5 x c q
  ·have q':p∈pl:=by simpa [Y,blkC] using q
   rw[hp p q']
   exact(fpD b hb).1.symm
 have clB:∀x d,Y.env.cells.lookup x=some d->d≠D:=λx d e=>by
  rcases j0j e with q | q
  ·exact Nat.ne_of_gt (Nat.lt_trans ltDC (hcs1.empty _ _ q).2)
  ·exact(clD x d q).1
 have notFs:D∉Y.fs:=λz=>by
  obtain⟨_,o,ho,_⟩:=IB.ok.funs.mem z
  exact(old (Heap.lt_size (show s2.heap.get? D=some o from ho))).1 rfl
 have loop:∀s3:Shared,s3={s2 with heap:=h1} ->
   codeAny (model X.prog X.w) X.A (.compLoop (.ListComp elt [⟨tg,iter,ifs,0⟩] scope pos) 0 (.ref it) (.ref D) (compEnvC scope (k0j scope C X.env) C X.env)) (RR (.ref D) C) s3:=by
  rintro s3 rfl
  refine o0p (λn s'=>∃(i:Nat) (ys:List V) (its:List Value) (k:Nat) (H':Hp),Inv Y [] (bst own.length σ js) H' s'/\tn i s'.heap/\(∀b∈fp,H' b=none)/\H' D=none/\Vals ys its /\
   s'.heap.get? D=some {cls:=.type "list",data:=.seq its.toArray k}/\W i n ys H') ?_ m0 ⟨0,[],[],0,H2,IB,T.keep 0 _ _ st2 (λb hb o e=>keep1 b o e),λb hb=>(f2 b hb).1,I2.hok.fresh szD,.nil,gD1,w0⟩
  rintro n s3 ⟨i,ys,its,k,H3,I3,st3,fr3,hD3,r3,g3,w3⟩
  have I3p:Inv Y [(D,{cls:=.type "list",data:=.seq its.toArray k})] (bst own.length σ js) H3 s3:=I3.pins_of λp hp=>by
   have e:p=(D,{cls:=.type "list",data:=.seq its.toArray k}):=by simpa using hp
   subst e
   exact⟨g3,hD3,neDC,notFs,λv z=>by cases z⟩
  have f3:∀b∈fp,FpOk Y [(D,{cls:=.type "list",data:=.seq its.toArray k})] H3 b:=fpB fr3 λp hp=>by
   have e:p=(D,{cls:=.type "list",data:=.seq its.toArray k}):=by simpa using hp
   rw[e]
  rcases turn i n ys H3 w3 with⟨stop,hz,qn⟩ | ⟨go,hz,N,hN,step⟩
  ·refine thn (T.done Y rfl rfl rfl hc i _ s3 _ H3 (λ_ _=>False) I3p f3 st3 stop) λr s4 ⟨hr,I4⟩=>?_
   subst hr
   refine hR C _ s4 ?_
   have g4:=(I4.pin (D,{cls:=.type "list",data:=.seq its.toArray k}) (by simp[Y,blkC])).1
   obtain⟨m,hn4,_⟩:=id I4.loc
   have un:Un (frs X.stack) fp H2 H3 s2.heap s4.heap:=I4.base
   have I5:Inv X pins σ H3 s4:=I2.call' I4.os un I4.hok I4.bare λb hb=>let ⟨_,b1,_,b3,b4,b5⟩:=f2 b hb;⟨b3,b1,b4,b5⟩
   have I6:=I5.track (ys:=ys) (its:=its) (n:=k) hD3 (Nat.le_trans I2.sz szD) locD.1 (λx d e=>(clD x d e).1) (λp hp=>(pinD p hp).1) hz r3 g4
   refine⟨D,_,m,rfl,hn4,I6,?_,Nat.le_trans I2.sz szC,locD.2,λx d e=>(clD x d e).2,λp hp=>(pinD p hp).2,qn D hD3⟩
   rw[b0l (Ne.symm neDC)]
   exact I4.free
  ·refine thn (T.item Y rfl rfl rfl hc i _ s3 _ H3 (λ_ _=>False) I3p f3 st3 go) λr s4 ⟨u,hr,h4⟩=>?_
   subst hr
   refine thn h4 λ_ s5 ⟨x,H5,I5,r5,y5,st5,fr5⟩=>?_
   have f5:∀b∈fp,FpOk Y [(D,{cls:=.type "list",data:=.seq its.toArray k})] H5 b:=λb hb=>⟨fr5 b hb,(f3 b hb).2⟩
   have I5':=I5.pinned f5 (T.obj _ _ st5)
   refine thn (hg s2 H2 C fp B.nd _ s5 _ H5 x u _ I5' r5 (step x H5 y5)) λ_ s6 ⟨σ6,H6,I6,d6,q6⟩=>?_
   refine thn (ht s2 H2 C fp _ s6 σ6 H6 _ I6 q6) λok s7 ⟨H7,I7,q7⟩=>?_
   have after:∀ {s8:Shared} {H8:Hp},Inv Y ([(D,{cls:=.type "list",data:=.seq its.toArray k})]++i0y fp s5.heap) σ6 H8 s8 ->
     s8.heap.get? D=some {cls:=.type "list",data:=.seq its.toArray k}/\H8 D=none/\tn (i+1) s8.heap/\(∀b∈fp,H8 b=none)/\Inv Y [] (bst own.length σ js) H8 s8:=λ{s8 H8} I8=>by
    have p8:=I8.pin (D,{cls:=.type "list",data:=.seq its.toArray k}) (by simp[Y,blkC])
    refine⟨p8.1,p8.2.1,T.keep _ _ _ st5 λb hb o e=>(I8.pin (b,o) (List.mem_append_right _ (List.mem_append_right _ (d0l hb e)))).1,λb hb=>?_,?_⟩
    ·obtain⟨o,e,_⟩:=T.obj _ _ st5 b hb
     exact(I8.pin (b,o) (List.mem_append_right _ (List.mem_append_right _ (d0l hb e)))).2.1
    ·refine(I8.pins_of (pins':=[]) λp hp=>absurd hp (by simp[Y,blkC])).weak ?_ λj v e=>?_
     ·rw[I8.len,k0q]
      show _=(own++capN X.N js).length
      unfold capN
      simp
     ·rcases Nat.lt_or_ge j own.length with z | z
      ·exfalso
       unfold bst at e
       rw[List.getElem?_append_left (by simpa using z),List.getElem?_replicate]at e
       split at e <;> cases e
      ·unfold bst at e
       rw[List.getElem?_append_right (by simpa using z),List.length_replicate,<- d6,List.getElem?_drop]at e
       rw[<- e]
       congr 1
       omega
   cases ok with
   | false =>
    rw[if_neg Bool.false_ne_true]at q7 ⊢
    obtain⟨m',hm,w7⟩:=hN _ _ q7
    obtain⟨a1,a2,a3,a4,a5⟩:=after I7
    exact⟨m',hm,i+1,ys,its,k,H7,a5,a3,a4,a2,r3,a1,w7⟩
   | true =>
    rw[if_pos rfl]at q7 ⊢
    refine thn (he s2 H2 C fp _ s7 σ6 H7 _ I7 q7) λu8 s8 ⟨v8,H8,I8,r8,n8⟩=>?_
    obtain⟨m',hm,w8⟩:=hN _ _ n8
    obtain⟨a1,a2,a3,a4,a5⟩:=after I8
    have hsz:its.toArray.size<sizeLine:=by rw[List.size_toArray,<- r3.length];exact hz
    refine call_meets F.slot_list_append ⟨_,a1,rfl⟩ F.entry_list_append (F.args_list_append_2 _ _) (PySem.list_append D its.toArray k u8 (by omega)) ⟨a1,?_⟩
    have q9:=PySem.IsL.update a1 (λxs=>xs.push u8)
    have sb:Heap.SameBut D s8.heap (s8.heap.update D (Obj.mapSeq λxs=>xs.push u8)):=Heap.SameBut.update ..
    have I9:=a5.young sb a2 szD neDC clB (λp hp=>absurd hp (by show p∉[]++[];simp))
    have fin:∃k',(s8.heap.update D (Obj.mapSeq λxs=>xs.push u8)).get? D=some {cls:=.type "list",data:=.seq (its++[u8]).toArray k'}:=⟨_,by
     rw[show(its++[u8]).toArray=its.toArray.push u8 by simp]
     exact q9⟩
    obtain⟨k',fin⟩:=fin
    exact⟨m',hm,i+1,ys++[v8],its++[u8],k',H8,I9,T.keep _ _ _ a3 (λb hb o e=>(sb.2 b (fpD b hb).1).trans e),a4,a2,r3.append (.cons r8 .nil),fin,w8⟩
 exact codeAny_compStart_list (loop _ rfl) (T.self _ 0 _ _ _ (T.keep 0 _ _ st2 λb hb o e=>keep1 b o e) (loop _ rfl))
theorem e1f {elt tg iter:Expr}{ifs:List Expr}{scope:Scope}{pos pos' spos:Pos}{i:Nat}{x:Str}(own:List Str)(js:List Nat){wi:TI}{g:TG}{tc:TT}{te:TE}(hN:X.N.Nodup)(hi:X.N[i]? = some x)(hx:Loc X.env.scope x)
  (hc:X.calm=true) (B:BlkC X scope own js) (hit:PI X tg iter wi)
  (hg:∀s H C fp,(own++capN X.N js).Nodup->PG (blkC X scope (own++capN X.N js) s H C fp) tg g) (ht:∀s H C fp,PTs (blkC X scope (own++capN X.N js) s H C fp) ifs tc) (he:∀s H C fp,PE (blkC X scope (own++capN X.N js) s H C fp) elt te)
  (hf:X.fn x=true∨X.env.scope.names.lookup x=some .local:=by first | exact .inl rfl | exact .inr rfl | assumption)
  (hw:swapsWith (.ListComp elt [⟨tg,iter,ifs,0⟩] scope pos) (some (.Name x pos')) spos.line X.env=pure true:=by rfl)
  (hs:∀x,foldedSetIterable iter X.env x=pure x:=by intro _;rfl) :
  PS X (.Assign [.Name x pos'] (.ListComp elt [⟨tg,iter,ifs,0⟩] scope pos) spos) (λD σ H=>y0i own.length js wi g tc te σ H λv H'=>D.nx (σ.set i (some v)) H'):=by
 intro pins s σ H D I h
 have hcl:closureFor scope X.env=pure (f0x scope X.env):=g0o λx hx hf=>I.ok.has x.1 (B.free x hx hf)
 rw[exec_Assign_Name_used _ _ _ _ hw]
 refine wpAny_bind (wpAny_standAt (wpAny_bind ?_))
 show wpAny _ X.A (do let _ <- comprehension (.ListComp elt [⟨tg,iter,ifs,0⟩] scope pos) scope X.env _ (newList []) false (eval iter X.env) (some (assign (.Name x pos') X.env))) _ _ s
 refine wpAny_bind (thn (Q:=λ_ s'=>SP X pins D .next s') (wpAny_comprehension_free (use:=some (assign (.Name x pos') X.env)) rfl hs hcl B.kind B.names (thn (hit pins s σ H _ I h) λv s1 h1=>thn h1 λitv s2 h2=>?_)) λ_ s' q=>wpAny_pure (wpAny_pure q))
 refine v0z (Q:=λv H'=>D.nx (σ.set i (some v)) H') (RR:=λacc C=>compPost (model X.prog X.w) X.A X.xe (some (assign (.Name x pos') X.env)) (λ_ s'=>SP X pins D .next s') acc C) hc B hg ht he h2 λC acc s' hb=>?_
 obtain⟨l,H',m,rfl,hn,I',c1,c2,c3,c4,c5,q⟩:=hb
 show wpAny _ X.A (assign (.Name x pos') X.env (.ref l)) _ _ _
 refine wpAny_assign_Name (n0q (v:=.ref l) I' hN hi hx rfl (λs3 I3 ⟨a,sb,ha⟩=>?_) hf)
 have ne:C≠a:=by
  rcases ha with z | z
  ·rw[z];exact c3
  ·exact(c4 x a z).symm
 exact⟨m,hn.sameBut sb ne,λh' hs'=>⟨_,H',I3.young hs' c1 c2 c3 c4 c5,q⟩⟩
theorem Blk.inC {X0:Cx}{scope0:Scope}{N0:List Str}{s:Shared}{H:Hp}{C:Addr}{fp:List Addr}{scope:Scope}{own:List Str}{js:List Nat}(sc:Scope)(N:List Str)(h:blkB (relS scope0 sc) N scope own js=true:=by decide +kernel)(e1:X0.env.scope=sc:=by rfl)(e2:N0=N:=by rfl):Blk (blkC X0 scope0 N0 s H C fp) scope own js :=
 Blk.of (X:=blkC X0 scope0 N0 s H C fp) (relS scope0 sc) N h (by subst e1;rfl) e2
end
section
variable {X:Cx}(K:PySem.W.Frag)
def a1m (K:PySem.W.Frag):List V->Hp->VK->Prop:=λxs H Q=>∃(p:Addr) (ns:List Int),xs=[.ref p]/\SqL K H p (ns.map V.int)/\ns.length<64/\∀ns':List Int,ns'.Perm ns->ns'.Pairwise (· <= ·)->∀l,H l=none->Q (.ref l) (upd H l (.lst (ns'.map V.int)))
theorem i0n (hK:X.K=K:=by rfl):k0t X (.builtin "sorted") (a1m K):=by
 subst hK
 intro pins s σ H xs us Q I r h
 obtain⟨a,ns,rfl,hq,h64,q1⟩:=h
 obtain⟨u1,rfl,ru⟩:=l0u r
 cases ru
 obtain⟨its,rv,pl,hz⟩:=I.list hq
 have hl:its.length=ns.length:=by have:=rv.length;rw[List.length_map]at this;omega
 refine sorted_ints pl.isList (j0u rv) (by omega) λout ns' a1 a2 a3=>?_
 obtain⟨e,he⟩:=sortedAll_at s.heap its out
 have hlen:=a2.length_eq
 refine⟨.ref (s.heap.objs.size+1),_,I.laid (t':=s.toks) (o:=.lst (ns'.map V.int)) (λb o q=>sortedAll_old q) (Nat.le_succ _) ⟨?_,out.toList,e,k0u a1,?_⟩,rfl,q1 ns' a2 a3 _ (I.hok.fresh (Nat.le_succ _))⟩
 ·rw[List.length_map];exact Nat.le_of_lt (h0k (n:=ns'.length) (by omega))
 ·rw[he]
end
section
variable {K:PySem.W.Frag}
@[irreducible] def gSorted:List R->AE:=λrs ρ q=>match rs with
 | [r]=>(match view ρ r with
  | some (.lst ds)=>(match g0f ds with | some ns=>ns.length<64/\(∀ns':List Int,ns'.Perm ns->ns'.Pairwise (· <= ·)->q (.f (ns'.map D.int)) ρ) | none=>False)
  | _=>False)
 | _=>False
theorem i0l:CbOk K (a1m K) gSorted:=by
 intro F σ ρ H vs rs q Q a i h b
 unfold gSorted at h
 split at h
 ·obtain⟨y,rfl,iy⟩:=i.one
  split at h
  ·rename_i ds e
   split at h
   ·rename_i ns e'
    obtain⟨l,us,rfl,sq,rd⟩:=c0u a iy e
    rw[h0t e',i0c]at rd
    rw[rd]at sq
    exact⟨l,ns,rfl,sq,h.1,λns' h1 h2 p hp=>b.new a (h.2 ns' h1 h2) (i0c.mpr rfl) hp⟩
   ·exact h.elim
  ·exact h.elim
 ·exact h.elim
theorem g0p {r:R}{ρ:En}{q:Ko}{ns:List Int}(hv:view ρ r=some (.lst (ns.map D.int)))(h64:ns.length<64)(h1:∀ns':List Int,ns'.Perm ns->ns'.Pairwise (· <= ·)->q (.f (ns'.map D.int)) ρ):gSorted [r] ρ q:=by
 unfold gSorted
 simp only[hv,h0s]
 exact⟨h64,h1⟩
end
section
variable {M:Model}{A:Around}{E:Value->Shared->Prop}{s:Shared}{κ:SortKind}{r:Keyed->Int}{P:Keyed->Prop}
structure Cm (M:Model)(A:Around)(E:Value->Shared->Prop)(s:Shared)(κ:SortKind)(r:Keyed->Int)(P:Keyed->Prop):Prop where
 lt:∀x y,P x->P y->∀(st:SortSt) (Q:Option Bool->SortSt->Prop),kindOf st=κ->Q (some (decide (r x<r y))) st->wpS M A E s (lt' x y) Q st
theorem z0j {xs:Array Keyed}{i:Nat}{x:Keyed}{st:SortSt}{Q:Keyed->SortSt->Prop}(hx:xs[i]? = some x)(h:Q x st):wpS M A E s (elem' xs i) Q st:=by
 rw[elem'_eq,hx];exact wpS_pure h
end
def Srt (r:Keyed->Int)(l:List Keyed):Prop:=l.Pairwise λx y=>r x<=r y
theorem m1k {a:Array Keyed}{u v w:List Keyed}(h:a.toList=u++v++w){i:Nat}(hi:i<v.length):∃q:u.length+i<a.size,a[u.length+i]=v[i]:=by
 have hs:a.size=(u++v++w).length:=by rw[<- h];simp
 have q:u.length+i<a.size:=by rw[hs];simp;omega
 refine⟨q,?_⟩
 rw[<- Array.getElem_toList]
 simp only[h]
 rw[List.getElem_append_left (by simp;omega),List.getElem_append_right (by omega)]
 simp
def kr (r:Keyed->Int)(xs:Array Keyed)(i:Nat):Int:=(xs[i]?.map r).getD 0
theorem b1l {r:Keyed->Int}{xs ys:Array Keyed}{i j:Nat}(h:xs[i]? = ys[j]?):kr r xs i=kr r ys j:=by unfold kr;rw[h]
theorem g1g {r:Keyed->Int}{xs:Array Keyed}{c d:Nat}(hs:c<xs.size)(hd:d<=c)(k:Nat) :
  kr r (bubble xs c d) k=if k=c - d then kr r xs c else if c - d<k/\k<=c then kr r xs (k - 1)else kr r xs k:=by
 have e:=getElem?_bubble hs d hd k
 split
 ·rename_i g;rw[if_pos g]at e;exact b1l e
 ·rename_i g;rw[if_neg g]at e
  split
  ·rename_i g';rw[if_pos g']at e;exact b1l e
  ·rename_i g';rw[if_neg g']at e;exact b1l e
theorem b1k {r:Keyed->Int}{xs:Array Keyed}{i j:Nat}(hj:j<=xs.size)(k:Nat):kr r (mirror xs i j ((j - i) / 2)) k=if i<=k/\k<j then kr r xs (i+j - 1 - k)else kr r xs k:=by
 have e:=getElem?_mirror_all (i:=i) hj k
 split
 ·rename_i g;rw[if_pos g]at e;exact b1l e
 ·rename_i g;rw[if_neg g]at e;exact b1l e
theorem k0o {r:Keyed->Int}{xs:Array Keyed}{i j:Nat}(hj:j<=xs.size){v:Int}(hv:∀k,i<=k->k<j->kr r xs k=v)(k:Nat):kr r (mirror xs i j ((j - i) / 2)) k=kr r xs k:=by
 rw[b1k hj]
 split
 ·rename_i g;rw[hv _ (by omega) (by omega),hv k g.1 g.2]
 ·rfl
structure Bs (st0:SortSt)(lo:Nat)(st:SortSt):Prop where
 eq:st=setArr st0 (arrOf st)
 pm:(arrOf st).Perm (arrOf st0)
 ah:∀i,i<lo->(arrOf st)[i]? = (arrOf st0)[i]?
theorem Bs.sz {st0 st:SortSt}{lo:Nat}(b:Bs st0 lo st):(arrOf st).size=(arrOf st0).size:=b.pm.size_eq
theorem Bs.start (st:SortSt)(lo:Nat):Bs st lo st:=⟨rfl,Array.Perm.refl _,λ_ _=>rfl⟩
theorem Bs.mir {st0 st:SortSt}{lo i j:Nat}(b:Bs st0 lo st)(hi:lo<=i)(hj:j<=(arrOf st0).size):Bs st0 lo (setArr st (mirror (arrOf st) i j ((j - i) / 2))):=by
 refine⟨by rw[b.eq],(mirror_perm _ _ _ _).trans b.pm,λk hk=>?_⟩
 show(mirror (arrOf st) i j ((j - i) / 2))[k]? = _
 rw[getElem?_mirror_all (by rw[b.sz];exact hj),if_neg (by omega)]
 exact b.ah k hk
theorem Bs.bub {st0 st:SortSt}{lo c d:Nat}(b:Bs st0 lo st)(hc:c<(arrOf st0).size)(hd:d<=c)(hl:lo<=c - d):Bs st0 lo (setArr st (bubble (arrOf st) c d)):=by
 refine⟨by rw[b.eq],(bubble_perm _ _ _).trans b.pm,λk hk=>?_⟩
 show(bubble (arrOf st) c d)[k]? = _
 rw[getElem?_bubble (by rw[b.sz];exact hc) d hd,if_neg (by omega),if_neg (by omega)]
 exact b.ah k hk
def Up (r:Keyed->Int)(xs:Array Keyed)(lo n:Nat):Prop:=∀i j,i<=j->j<n->kr r xs (lo+i)<=kr r xs (lo+j)
def Dw (r:Keyed->Int)(xs:Array Keyed)(lo n:Nat):Prop:=∀i j,i<=j->j<n->kr r xs (lo+j)<=kr r xs (lo+i)
theorem Up.one {r:Keyed->Int}{xs:Array Keyed}{lo:Nat}:Up r xs lo 1:=λi j h1 h2=>by
 have:i=j:=by omega
 subst this;exact Int.le_refl _
theorem Up.more {r:Keyed->Int}{xs:Array Keyed}{lo n:Nat}(u:Up r xs lo n)(h1:1<=n)(h:kr r xs (lo+(n - 1))<=kr r xs (lo+n)):Up r xs lo (n+1):=λi j a b=>by
 rcases Nat.lt_or_ge j n with q | q
 ·exact u i j a q
 ·have e:j=n:=by omega
  subst e
  rcases Nat.lt_or_ge i j with z | z
  ·exact Int.le_trans (u i (j - 1) (by omega) (by omega)) h
  ·have:i=j:=by omega
   subst this;exact Int.le_refl _
theorem Dw.more {r:Keyed->Int}{xs:Array Keyed}{lo n:Nat}(u:Dw r xs lo n)(h1:1<=n)(h:kr r xs (lo+n)<=kr r xs (lo+(n - 1))):Dw r xs lo (n+1):=λi j a b=>by
 rcases Nat.lt_or_ge j n with q | q
 ·exact u i j a q
 ·have e:j=n:=by omega
  subst e
  rcases Nat.lt_or_ge i j with z | z
  ·exact Int.le_trans h (u i (j - 1) (by omega) (by omega))
  ·have:i=j:=by omega
   subst this;exact Int.le_refl _
theorem Dw.cg {r:Keyed->Int}{xs ys:Array Keyed}{lo n:Nat}(u:Dw r xs lo n)(h:∀k,kr r ys k=kr r xs k):Dw r ys lo n:=λi j a b=>by rw[h,h];exact u i j a b
section
variable {M:Model}{A:Around}{E:Value->Shared->Prop}{s:Shared}{κ:SortKind}{r:Keyed->Int}{P:Keyed->Prop}{st0:SortSt}
theorem s0j (C:Cm M A E s κ r P)(hk:kindOf st0=κ)(hP:∀x∈(arrOf st0).toList,P x){st:SortSt}{lo i j:Nat}(b:Bs st0 lo st)(hi:i<(arrOf st0).size)(hj:j<(arrOf st0).size){Q:Option Bool->SortSt->Prop}
  (h:Q (some (decide (kr r (arrOf st) i<kr r (arrOf st) j))) st):wpS M A E s (ltAt' i j) Q st:=by
 have zi:i<(arrOf st).size:=by rw[b.sz];exact hi
 have zj:j<(arrOf st).size:=by rw[b.sz];exact hj
 have pp:∀(k:Nat) (z:k<(arrOf st).size),P (arrOf st)[k]:=λk z=>hP _ ((Array.perm_iff_toList_perm.mp b.pm).mem_iff.mp (by simp))
 rw[ltAt'_eq]
 refine wpS_bind (wpS_get (wpS_bind (z0j (Array.getElem?_eq_getElem zi) (wpS_bind (z0j (Array.getElem?_eq_getElem zj) ?_)))))
 refine C.lt _ _ (pp i zi) (pp j zj) _ _ (by rw[b.eq];exact hk) ?_
 unfold kr at h
 rw[Array.getElem?_eq_getElem zi,Array.getElem?_eq_getElem zj]at h
 exact h
theorem j1w (C:Cm M A E s κ r P)(hk:kindOf st0=κ)(hP:∀x∈(arrOf st0).toList,P x){st:SortSt}{lo n ok:Nat}{Q:Bool->SortSt->Prop}(hn:lo+n<=(arrOf st0).size)(ho:ok<=n)(h1:1<=n)(b:Bs st0 lo st)(u:Up r (arrOf st) lo ok)
  (h:∀st',Bs st0 lo st'->Up r (arrOf st') lo n->Q true st'):wpS M A E s (binarySort' lo n ok) Q st:=by
 rw[binarySort'_eq]
 refine wpS_bind (wpS_mono (wpS_forRange (I:=λk c st'=>c=(none,())/\Bs st0 lo st'/\Up r (arrOf st') lo k) (Q:=λc st'=>c=(none,())/\Bs st0 lo st'/\Up r (arrOf st') lo n) ?_ ?_ ⟨rfl,b,?_⟩) ?_)
 ·rintro k c st2 a1 a2 ⟨rfl,b2,u2⟩
  refine wpS_bind (wpS_mono (wpS_forRange (I:=λx c st3=>st3=st2/\∃p q,c=(none,p,q)/\p<=q/\q<=k/\q - p<=k - x/\(∀i,i<p->kr r (arrOf st2) (lo+i)<=kr r (arrOf st2) (lo+k))/\(∀i,q<=i->i<k->kr r (arrOf st2) (lo+k)<kr r (arrOf st2) (lo+i)))
   (Q:=λc st3=>st3=st2/\∃p,c=(none,p,p)/\p<=k/\(∀i,i<p->kr r (arrOf st2) (lo+i)<=kr r (arrOf st2) (lo+k))/\(∀i,p<=i->i<k->kr r (arrOf st2) (lo+k)<kr r (arrOf st2) (lo+i))) ?_ ?_ ⟨rfl,0,k,rfl,by omega,by omega,by omega,λi hi=>by omega,λi c d=>by omega⟩) ?_)
  ·rintro x c st3 _ hx ⟨rfl,p,q,rfl,e1,e2,e3,e4,e5⟩
   dsimp only
   by_cases g:p>=q
   ·rw[if_pos g]
    have:p=q:=by omega
    subst this
    exact wpS_pure ⟨rfl,p,rfl,e2,e4,e5⟩
   ·rw[if_neg g]
    refine wpS_bind (s0j C hk hP b2 (by omega) (by omega) ?_)
    by_cases z:kr r (arrOf st3) (lo+k)<kr r (arrOf st3) (lo+(p+q) / 2)
    ·simp only[z,decide_true,if_true]
     exact wpS_pure ⟨rfl,p,(p+q) / 2,rfl,by omega,by omega,by omega,e4,λi c d=>Int.lt_of_lt_of_le z (u2 _ _ c d)⟩
    ·simp only[z,decide_false,Bool.false_eq_true,if_false]
     exact wpS_pure ⟨rfl,(p+q) / 2+1,q,rfl,by omega,by omega,by omega,λi c=>Int.le_trans (u2 i ((p+q) / 2) (by omega) (by omega)) (by omega),e5⟩
  ·rintro c st3 ⟨rfl,p,q,rfl,e1,e2,e3,e4,e5⟩
   have:p=q:=by omega
   subst this
   exact⟨rfl,p,rfl,e2,e4,e5⟩
  ·rintro c st3 ⟨rfl,p,rfl,e2,e4,e5⟩
   dsimp only
   rw[moveDown'_eq]
   have hks:lo+k<(arrOf st3).size:=by rw[b2.sz];omega
   refine wpS_bind (wpS_modify (wpS_pure ⟨rfl,b2.bub (by omega) (by omega) (by omega),?_⟩))
   intro i j ij hj
   show kr r (bubble (arrOf st3) (lo+k) (lo+k - (lo+p))) (lo+i)<=kr r (bubble (arrOf st3) (lo+k) (lo+k - (lo+p))) (lo+j)
   rw[g1g hks (by omega),g1g hks (by omega)]
   have s1:∀x,lo+x - 1=lo+(x - 1)∨x=0:=λx=>by omega
   have lt1:∀x,x<p->kr r (arrOf st3) (lo+x)<=kr r (arrOf st3) (lo+k):=e4
   have em:∀x,1<=x->kr r (arrOf st3) (lo+x - 1)=kr r (arrOf st3) (lo+(x - 1)):=λx hx=>by rw[show lo+x - 1=lo+(x - 1)by omega]
   repeat' split
   all_goals first
    | (exfalso;omega)
    | exact Int.le_refl _
    | exact e4 _ (by omega)
    | (rw[em _ (by omega)];exact Int.le_of_lt (e5 _ (by omega) (by omega)))
    | (rw[em _ (by omega),em _ (by omega)];exact u2 _ _ (by omega) (by omega))
    | (rw[em _ (by omega)];exact u2 _ _ (by omega) (by omega))
    | exact u2 _ _ (by omega) (by omega)
 ·rintro c st2 ⟨hc,b2,u2⟩
  refine⟨hc,b2,λi j a c=>u2 i j a (by omega)⟩
 ·intro i j a c
  rcases Nat.lt_or_ge j ok with q | q
  ·exact u i j a q
  ·have:i=j:=by omega
   subst this;exact Int.le_refl _
 ·rintro c st2 ⟨rfl,b2,u2⟩
  exact wpS_pure (h _ b2 u2)
def asc (lo a m:Nat):StateT SortSt Sem AscSt :=
 forIn [a:m] ((none,a):AscSt) λ_ c=>do
  let z <- ltAt' (lo+c.2) (lo+c.2 - 1)
  match z with
  | some y=>if y=true then pure (.done (none,c.2))else pure (.yield (none,c.2+1))
  | _=>pure (.done (some none,c.2))
def tl3 (lo n m:Nat):StateT SortSt Sem (Option Nat):=do
 reverseSlice' lo (lo+n)
 let c <- asc lo n m
 match c.1 with
 | some q=>pure q
 | none=>pure (some c.2)
def dsc (lo n m:Nat):StateT SortSt Sem DescSt :=
 forIn [n:m] ((none,n,0):DescSt) λ_ c=>do
  let z <- ltAt' (lo+c.2.1) (lo+c.2.1 - 1)
  match z with
  | some y =>
   if y=true then
    if c.2.2 > 0 then do
     reverseSlice' (lo+c.2.1 - (c.2.2+1)) (lo+c.2.1)
     pure (.yield (none,c.2.1+1,0))
    else pure (.yield (none,c.2.1+1,0))
   else do
    let z <- ltAt' (lo+c.2.1 - 1) (lo+c.2.1)
    match z with
    | some y=>if y=true then pure (.done (none,c.2.1,c.2.2))else pure (.yield (none,c.2.1+1,c.2.2+1))
    | _=>pure (.done (some none,c.2.1,c.2.2))
  | _=>pure (.done (some none,c.2.1,c.2.2))
def dpt (lo n m:Nat):StateT SortSt Sem (Option Nat):=do
 liftM (rule "list.sort.descending-run")
 let c <- dsc lo (n+1) m
 match c.1 with
 | some q=>pure q
 | none =>
  if c.2.2 > 0 then do
   reverseSlice' (lo+c.2.1 - (c.2.2+1)) (lo+c.2.1)
   tl3 lo c.2.1 m
  else tl3 lo c.2.1 m
theorem n1l (lo m:Nat):countRun' lo m=(do
  let c <- asc lo 1 m
  match c.1 with
  | some q=>pure q
  | none =>
   if(c.2==m)=true then pure (some c.2)
   else if c.2 > 1 then do
    let z <- ltAt' lo (lo+c.2 - 1)
    match z with
    | some y=>if y=true then pure (some c.2)else do
      reverseSlice' lo (lo+c.2)
      dpt lo c.2 m
    | _=>pure none
   else dpt lo c.2 m):=by
 rw[countRun'_eq]
 dsimp only
 unfold dpt tl3 dsc asc
 congr 1
 funext c
 obtain⟨q,n⟩:=c
 cases q with
 | some q=>rfl
 | none =>
  dsimp only
  split
  ·rfl
  ·split
   ·congr 1
    funext x
    cases x with
    | none=>rfl
    | some y =>
     dsimp only
     split
     ·rfl
     ·congr 1
      funext _
      congr 1;funext _;congr 1;congr 1;funext c;obtain⟨q,n,k⟩:=c
      cases q with
      | some q=>rfl
      | none =>
       dsimp only
       split
       ·congr 1;funext _;congr 1;funext _;congr 1;funext c;obtain⟨q,n⟩:=c;cases q <;> rfl
       ·congr 1;funext _;congr 1;funext c;obtain⟨q,n⟩:=c;cases q <;> rfl
   ·congr 1;funext _;congr 1;congr 1;funext c;obtain⟨q,n,k⟩:=c
    cases q with
    | some q=>rfl
    | none =>
     dsimp only
     split
     ·congr 1;funext _;congr 1;funext _;congr 1;funext c;obtain⟨q,n⟩:=c;cases q <;> rfl
     ·congr 1;funext _;congr 1;funext c;obtain⟨q,n⟩:=c;cases q <;> rfl
theorem f1q (C:Cm M A E s κ r P)(hk:kindOf st0=κ)(hP:∀x∈(arrOf st0).toList,P x){st:SortSt}{lo a m:Nat}{Q:AscSt->SortSt->Prop}(hm:lo+m<=(arrOf st0).size)(ha:1<=a)(am:a<=m)(b:Bs st0 lo st)(u:Up r (arrOf st) lo a)
  (h:∀n,a<=n->n<=m->Up r (arrOf st) lo n->(n=m∨kr r (arrOf st) (lo+n)<kr r (arrOf st) (lo+n - 1))->Q (none,n) st):wpS M A E s (asc lo a m) Q st:=by
 unfold asc
 refine wpS_forRange (I:=λx c st'=>st'=st/\c=(none,x)/\Up r (arrOf st) lo x) ?_ ?_ ⟨rfl,rfl,u⟩
 ·rintro x c st2 a1 a2 ⟨rfl,rfl,u2⟩
  dsimp only
  refine wpS_bind (s0j C hk hP b (by omega) (by omega) ?_)
  by_cases z:kr r (arrOf st2) (lo+x)<kr r (arrOf st2) (lo+x - 1)
  ·simp only[z,decide_true,if_true]
   exact wpS_pure (h x a1 (by omega) u2 (.inr z))
  ·simp only[z,decide_false,Bool.false_eq_true,if_false]
   refine wpS_pure ⟨rfl,rfl,u2.more (by omega) ?_⟩
   rw[show lo+(x - 1)=lo+x - 1 by omega];omega
 ·rintro c st2 ⟨rfl,rfl,u2⟩
  rw[show max a m=m by omega]at u2 ⊢
  exact h m am (Nat.le_refl _) u2 (.inl rfl)
theorem f1o (C:Cm M A E s κ r P)(hk:kindOf st0=κ)(hP:∀x∈(arrOf st0).toList,P x){st:SortSt}{lo n m:Nat}{Q:Option Nat->SortSt->Prop}(hm:lo+m<=(arrOf st0).size)(h1:1<=n)(nm:n<=m)(b:Bs st0 lo st)(u:Dw r (arrOf st) lo n)
  (h:∀k st',Bs st0 lo st'->1<=k->k<=m->Up r (arrOf st') lo k->Q (some k) st'):wpS M A E s (tl3 lo n m) Q st:=by
 unfold tl3
 rw[reverseSlice'_eq]
 have b2:=b.mir (i:=lo) (j:=lo+n) (Nat.le_refl _) (by omega)
 refine wpS_bind (wpS_modify (wpS_bind (f1q C hk hP hm h1 nm b2 (λi j ij hj=>?_) λk k1 k2 k3 _=>wpS_pure (h k _ b2 (by omega) k2 k3))))
 show kr r (mirror (arrOf st) lo (lo+n) ((lo+n - lo) / 2)) (lo+i)<=kr r (mirror (arrOf st) lo (lo+n) ((lo+n - lo) / 2)) (lo+j)
 have hz:lo+n<=(arrOf st).size:=by rw[b.sz];omega
 rw[b1k hz,b1k hz,if_pos (by omega),if_pos (by omega),show lo+(lo+n) - 1 - (lo+i)=lo+(n - 1 - i)by omega,show lo+(lo+n) - 1 - (lo+j)=lo+(n - 1 - j)by omega]
 exact u _ _ (by omega) (by omega)
theorem j1v (C:Cm M A E s κ r P)(hk:kindOf st0=κ)(hP:∀x∈(arrOf st0).toList,P x){st:SortSt}{lo n m:Nat}{Q:DescSt->SortSt->Prop}(hm:lo+m<=(arrOf st0).size)(h1:1<=n)(nm:n<=m)(b:Bs st0 lo st)(u:Dw r (arrOf st) lo n)
  (h:∀k e st',Bs st0 lo st'->n<=k->k<=m->Dw r (arrOf st') lo k->e+1<=k->(∀i,k - (e+1)<=i->i<k->kr r (arrOf st') (lo+i)=kr r (arrOf st') (lo+k - 1))->Q (none,k,e) st'):wpS M A E s (dsc lo n m) Q st:=by
 unfold dsc
 refine wpS_forRange (I:=λx c st'=>∃e,c=(none,x,e)/\Bs st0 lo st'/\Dw r (arrOf st') lo x/\e+1<=x/\(∀i,x - (e+1)<=i->i<x->kr r (arrOf st') (lo+i)=kr r (arrOf st') (lo+x - 1))) ?_ ?_ ⟨0,rfl,b,u,by omega,λi a c=>by congr 1;omega⟩
 ·rintro x c st2 a1 a2 ⟨e,rfl,b2,u2,e1,e2⟩
  dsimp only
  have hz:lo+x<=(arrOf st2).size:=by rw[b2.sz];omega
  refine wpS_bind (s0j C hk hP b2 (by omega) (by omega) ?_)
  have e3:∀k,lo+x - (e+1)<=k->k<lo+x->kr r (arrOf st2) k=kr r (arrOf st2) (lo+x - 1):=λk p q=>by
   have:=e2 (k - lo) (by omega) (by omega)
   rwa [show lo+(k - lo)=k by omega]at this
  by_cases z:kr r (arrOf st2) (lo+x)<kr r (arrOf st2) (lo+x - 1)
  ·simp only[z,decide_true,if_true]
   have u3:Dw r (arrOf st2) lo (x+1):=u2.more (by omega) (by rw[show lo+(x - 1)=lo+x - 1 by omega];omega)
   by_cases g:e > 0
   ·rw[if_pos g,reverseSlice'_eq]
    exact wpS_bind (wpS_modify (wpS_pure ⟨0,rfl,b2.mir (by omega) (by omega),u3.cg (k0o hz e3),by omega,λi p q=>by congr 1;omega⟩))
   ·rw[if_neg g]
    exact wpS_pure ⟨0,rfl,b2,u3,by omega,λi p q=>by congr 1;omega⟩
  ·simp only[z,decide_false,Bool.false_eq_true,if_false]
   refine wpS_bind (s0j C hk hP b2 (by omega) (by omega) ?_)
   by_cases y:kr r (arrOf st2) (lo+x - 1)<kr r (arrOf st2) (lo+x)
   ·simp only[y,decide_true,if_true]
    exact wpS_pure (h x e st2 b2 a1 (by omega) u2 e1 e2)
   ·simp only[y,decide_false,Bool.false_eq_true,if_false]
    refine wpS_pure ⟨e+1,rfl,b2,u2.more (by omega) (by rw[show lo+(x - 1)=lo+x - 1 by omega];omega),by omega,λi p q=>?_⟩
    rw[show lo+(x+1) - 1=lo+x by omega]
    rcases Nat.lt_or_ge i x with w | w
    ·have:=e2 i (by omega) w
     omega
    ·have:i=x:=by omega
     subst this;rfl
 ·rintro c st2 ⟨e,rfl,b2,u2,e1,e2⟩
  rw[show max n m=m by omega]at u2 e1 e2 ⊢
  exact h m e st2 b2 nm (Nat.le_refl _) u2 e1 e2
theorem f1p (C:Cm M A E s κ r P)(hk:kindOf st0=κ)(hP:∀x∈(arrOf st0).toList,P x){st:SortSt}{lo n m:Nat}{Q:Option Nat->SortSt->Prop}(hm:lo+m<=(arrOf st0).size)(nm:n+1<=m)(b:Bs st0 lo st)(u:Dw r (arrOf st) lo (n+1))
  (h:∀k st',Bs st0 lo st'->1<=k->k<=m->Up r (arrOf st') lo k->Q (some k) st'):wpS M A E s (dpt lo n m) Q st:=by
 unfold dpt
 refine wpS_bind (wpS_lift (wpAny_rule ⟨rfl,?_⟩))
 refine wpS_bind (j1v C hk hP hm (by omega) nm b u λk e st2 b2 k1 k2 u2 e1 e2=>?_)
 dsimp only
 have hz:lo+k<=(arrOf st2).size:=by rw[b2.sz];omega
 have e3:∀i,lo+k - (e+1)<=i->i<lo+k->kr r (arrOf st2) i=kr r (arrOf st2) (lo+k - 1):=λi p q=>by
  have:=e2 (i - lo) (by omega) (by omega)
  rwa [show lo+(i - lo)=i by omega]at this
 by_cases g:e > 0
 ·rw[if_pos g,reverseSlice'_eq]
  exact wpS_bind (wpS_modify (f1o C hk hP hm (by omega) k2 (b2.mir (by omega) (by omega)) (u2.cg (k0o hz e3)) h))
 ·rw[if_neg g]
  exact f1o C hk hP hm (by omega) k2 b2 u2 h
theorem m1s (C:Cm M A E s κ r P)(hk:kindOf st0=κ)(hP:∀x∈(arrOf st0).toList,P x){st:SortSt}{lo m:Nat}{Q:Option Nat->SortSt->Prop}(hm:lo+m<=(arrOf st0).size)(h1:1<=m)(b:Bs st0 lo st)
  (h:∀k st',Bs st0 lo st'->1<=k->k<=m->Up r (arrOf st') lo k->Q (some k) st'):wpS M A E s (countRun' lo m) Q st:=by
 rw[n1l]
 refine wpS_bind (f1q C hk hP hm (Nat.le_refl 1) h1 b Up.one λn n1 n2 u hor=>?_)
 dsimp only
 by_cases g:n=m
 ·rw[if_pos (by simpa using g)]
  exact wpS_pure (h n st b n1 n2 u)
 ·rw[if_neg (by simpa using g)]
  have hlt:=hor.resolve_left g
  have hz:lo+n<=(arrOf st).size:=by rw[b.sz];omega
  by_cases g2:n > 1
  ·rw[if_pos g2]
   refine wpS_bind (s0j C hk hP b (by omega) (by omega) ?_)
   by_cases z:kr r (arrOf st) lo<kr r (arrOf st) (lo+n - 1)
   ·simp only[z,decide_true,if_true]
    exact wpS_pure (h n st b n1 n2 u)
   ·simp only[z,decide_false,Bool.false_eq_true,if_false]
    have all:∀k,lo<=k->k<lo+n->kr r (arrOf st) k=kr r (arrOf st) lo:=λk p q=>by
     have e1:=u 0 (k - lo) (by omega) (by omega)
     have e2:=u (k - lo) (n - 1) (by omega) (by omega)
     rw[show lo+(k - lo)=k by omega]at e1 e2
     rw[show lo+(n - 1)=lo+n - 1 by omega]at e2
     rw[Nat.add_zero]at e1
     omega
    have d:Dw r (arrOf st) lo n:=λi j ij hj=>by rw[all _ (by omega) (by omega),all (lo+i) (by omega) (by omega)];exact Int.le_refl _
    rw[reverseSlice'_eq]
    refine wpS_bind (wpS_modify (f1p C hk hP hm (by omega) (b.mir (by omega) (by omega)) ((d.more (by omega) ?_).cg (k0o hz all)) h))
    rw[show lo+(n - 1)=lo+n - 1 by omega];omega
  ·rw[if_neg g2]
   have:n=1:=by omega
   subst this
   refine f1p C hk hP hm (by omega) b (Dw.more (λi j ij hj=>?_) (by omega) ?_) h
   ·have:i=j:=by omega
    subst this;exact Int.le_refl _
   ·rw[show lo+(1 - 1)=lo+1 - 1 by omega];omega
end
theorem k1h {r:Keyed->Int}{xs:Array Keyed}{lo n:Nat}{pre Y post:List Keyed}(u:Up r xs lo n)(e:xs.toList=pre++Y++post)(hp:pre.length=lo)(hy:Y.length=n):Srt r Y:=by
 refine List.pairwise_iff_getElem.mpr λi j hi hj ij=>?_
 have g:∀k (h:k<Y.length),kr r xs (lo+k)=r Y[k]:=λk h=>by
  subst hp
  obtain⟨q,e1⟩:=m1k e h
  unfold kr
  rw[Array.getElem?_eq_getElem q,e1];rfl
 have:=u i j (by omega) (by omega)
 rw[g i hi,g j hj]at this
 exact this
section
variable {prog:Program}{w:World}{A:Around}{E:Value->Shared->Prop}{s:Shared}{κ:SortKind}{r:Keyed->Int}{P:Keyed->Prop}
def j1m (M:Model)(A:Around)(E:Value->Shared->Prop)(s:Shared)(κ:SortKind)(r:Keyed->Int)(P:Keyed->Prop)(z:Nat):Prop:=∀(st:SortSt) (Q:Unit->SortSt->Prop),(∀x∈(arrOf st).toList,P x)->kindOf st=κ->failedOf st=none->pendingOf st = #[]->(arrOf st).size=z ->
 (∀st',(arrOf st').toList.Perm (arrOf st).toList->failedOf st'=none->Srt r (arrOf st').toList->Q () st')->wpS M A E s sortRuns' Q st
theorem h1m {M:Model}{z:Nat}(hz:z<64)(C:Cm M A E s κ r P):j1m M A E s κ r P z:=by
 intro st Q hP hk hf hp hs h
 rw[sortRuns'_eq]
 refine wpS_bind (wpS_get ?_)
 dsimp only
 rw[hs]
 have hm:1<=z->minRun' z z 0=z:=λg=>by
  obtain⟨y,rfl⟩:∃y,z=y+1:=⟨z - 1,by omega⟩
  rw[minRun'_succ,if_pos hz]
 refine wpS_bind (wpS_mono (wpS_forRange (I:=λx c st'=>(x=0/\c=(none,0)/\st'=st)∨(c=(none,z)/\Bs st 0 (setPending st' #[])/\(pendingOf st').size<=1/\Up r (arrOf st') 0 z))
  (Q:=λc st'=>c=(none,z)/\Bs st 0 (setPending st' #[])/\(pendingOf st').size<=1/\Up r (arrOf st') 0 z) ?_ ?_ (.inl ⟨rfl,rfl,rfl⟩)) ?_)
 ·rintro x c st2 _ hx (⟨rfl,rfl,rfl⟩ | ⟨rfl,j⟩)
  ·dsimp only
   by_cases g:0>=z
   ·exfalso;omega
   rw[if_neg g,hm (by omega)]
   have stay:∀ {st3},Bs st2 0 st3->setPending st3 #[]=st3:=λ{st3} b=>by
    have:pendingOf st3 = #[]:=by rw[b.eq];exact hp
    rw[<- this]
   refine wpS_bind (m1s C hk hP (by omega) (by omega) (Bs.start st2 0) λn st3 b3 h1 hn u3=>?_)
   dsimp only
   have fin:∀ {st4:SortSt} {n:Nat},n=z->Bs st2 0 st4->Up r (arrOf st4) 0 n->(none,0+n)=((none:Option Unit),z)/\Bs st2 0 (setPending (setPending st4 ((pendingOf st4).push (0,n,0))) #[])/\((pendingOf st4).push (0,n,0)).size<=1/\Up r (arrOf st4) 0 z:=λ{st4 n} e b u=>by
    subst e
    have pe:pendingOf st4 = #[]:=by rw[b.eq];exact hp
    refine⟨by rw[Nat.zero_add],?_,by rw[pe];simp,u⟩
    have:=stay b
    exact(show setPending (setPending st4 ((pendingOf st4).push (0,n,0))) #[]=st4 from this).symm▸b
   by_cases g2:n<z
   ·rw[if_pos g2]
    refine wpS_bind (wpS_lift (wpAny_rule ⟨rfl,?_⟩))
    refine wpS_bind (j1w C hk hP (by omega) (by omega) (by omega) b3 u3 λst4 b4 u4=>?_)
    simp only[Bool.not_true,Bool.false_eq_true,if_false]
    refine wpS_bind (wpS_get ?_)
    have pe:pendingOf st4 = #[]:=by rw[b4.eq];exact hp
    rw[show(pendingOf st4).back? = none by rw[pe];rfl]
    dsimp only
    obtain⟨f1,f2⟩:=fin (n:=min (z - 0) z) (by omega) b4 u4
    exact wpS_bind (wpS_modify (wpS_pure (.inr ⟨by rw[show 0+min (z - 0) z=z by omega],f2⟩)))
   ·rw[if_neg g2]
    refine wpS_bind (wpS_get ?_)
    have pe:pendingOf st3 = #[]:=by rw[b3.eq];exact hp
    rw[show(pendingOf st3).back? = none by rw[pe];rfl]
    dsimp only
    obtain⟨f1,f2⟩:=fin (n:=n) (by omega) b3 u3
    exact wpS_bind (wpS_modify (wpS_pure (.inr ⟨by rw[show 0+n=z by omega],f2⟩)))
  ·dsimp only
   rw[if_pos (Nat.le_refl _)]
   exact wpS_pure ⟨rfl,j⟩
 ·rintro c st2 (⟨e,rfl,rfl⟩ | j)
  ·have:z=0:=by omega
   subst this
   refine⟨rfl,?_,by rw[hp];simp,λi j a b=>by omega⟩
   have:setPending st2 #[]=st2:=by rw[<- hp]
   rw[this];exact Bs.start _ _
  ·exact j
 ·rintro c st2 ⟨rfl,b,k1,u⟩
  dsimp only
  refine wpS_bind (wpS_mono (wpS_forRange (I:=λx c st'=>c=(none,())/\st'=st2) (Q:=λc st'=>c=(none,())/\st'=st2) ?_ (λ_ _ q=>q) ⟨rfl,rfl⟩) ?_)
  ·rintro x c st3 _ hx ⟨rfl,rfl⟩
   refine wpS_bind (wpS_get ?_)
   rw[if_pos k1];exact wpS_pure ⟨rfl,rfl⟩
  ·rintro c st3 ⟨rfl,rfl⟩
   have pm:(arrOf st3).Perm (arrOf st):=b.pm
   refine wpS_pure (h st3 (Array.perm_iff_toList_perm.mp pm) ((congrArg failedOf b.eq).trans hf) ?_)
   exact k1h (pre:=[]) (post:=[]) u (by simp) rfl (by rw[Array.length_toList,pm.size_eq,hs])
theorem d1y {a:Addr}{vs:List Value}{n:Nat}{R:Fin->Shared->Prop}(ho:s.heap.get? a=some (seqObj "list" vs.toArray n))(hl:vs.length<=16777216)
  (hP:∀v∈vs,P (v,v))
  (hk:∀h':Heap,(∀b o,b≠a->s.heap.get? b=some o->h'.get? b=some o)->∀Q:SortKind->Shared->Prop,Q κ {s with heap:=h'}->2<=vs.length->wpAny (model prog w) A (keyKind' vs.toArray) Q E {s with heap:=h'})
  (hC:∀h':Heap,(∀b o,b≠a->s.heap.get? b=some o->h'.get? b=some o)->j1m (model prog w) A E {s with heap:=h'} κ r P vs.length)
  (h:∀ks:List Keyed,ks.Perm (vs.map λv=>(v,v))->Srt r ks->R (.done (.ret .none)) {s with heap:=sortedHeap s.heap a vs (ks.map (·.2)).toArray}) :
  wpAny (model prog w) A (Builtin.«list.sort» ⟨[.ref a],[]⟩) R E s:=by
 rw[list_sort_plain]
 have la:a<s.heap.objs.size:=Heap.lt_size ho
 have hz:vs.toArray.size=vs.length:=by simp
 have zp:vs.toArray.zip vs.toArray=(vs.map λv=>(v,v)).toArray:=by
  apply Array.toList_inj.mp
  simp
  clear ho hl hP hk hC h hz
  induction vs with
  | nil=>rfl
  | cons v vs ih=>simp[ih]
 obtain⟨e1,o1⟩:∃e1,(s.heap.update a (Obj.mapSeq λ_=>#[])).get? a=some (seqObj "list" #[] e1):=⟨_,get?_update_seq ho (λ_=>#[])⟩
 refine wpAny_bind (listItems_at ho rfl (wpAny_bind (listUpdate_at ho rfl ?_ (hsz:=by rw[hz,sizeLine_eq];exact hl))))
 refine wpAny_bind (seqEpoch_at o1 rfl (wpAny_bind (wpAny_newTuple (wpAny_bind (wpAny_newList (wpAny_holding ?_))) (by rw[sizeLine_eq];simpa using hl))))
 generalize hh:((s.heap.update a (Obj.mapSeq λ_=>#[])).push (seqObj "tuple" vs.toArray 0)).push (seqObj "list" #[] 0)=h6
 have o6:h6.get? a=some (seqObj "list" #[] e1):=by
  subst hh
  rw[Heap.get?_push_ne _ _ _ (by rw[size_push',Heap.size_update];exact Nat.ne_of_lt (Nat.lt_succ_of_lt la)),Heap.get?_push_ne _ _ _ (by rw[Heap.size_update];exact Nat.ne_of_lt la),o1]
 have kp:∀b o,b≠a->s.heap.get? b=some o->h6.get? b=some o:=λb o hb q=>by
  have lb:=Heap.lt_size q
  subst hh
  rw[Heap.get?_push_ne _ _ _ (by rw[size_push',Heap.size_update];exact Nat.ne_of_lt (Nat.lt_succ_of_lt lb)),Heap.get?_push_ne _ _ _ (by rw[Heap.size_update];exact Nat.ne_of_lt lb),Heap.get?_update_ne _ _ _ _ hb,q]
 have hf:∀out:Array Value,h6.update a (Obj.mapSeq λ_=>out)=sortedHeap s.heap a vs out:=λout=>by subst hh;rfl
 refine(show wpAny (model prog w) A _ R E {s with heap:=h6}from ?_)
 dsimp only
 rw[zp]
 by_cases g:vs.toArray.size<2
 ·rw[if_pos g,if_pos g]
  refine wpAny_bind (wpAny_pure ?_)
  rw[StateT.run_pure]
  refine wpAny_bind (wpAny_pure (wpAny_bind (seqEpoch_at o6 rfl (wpAny_bind (listUpdate_at o6 rfl ?_ (hsz2:=?_))))))
  ·simp only[bne_self_eq_false,Bool.false_eq_true,if_false]
   have:=h (vs.map λv=>(v,v)) (List.Perm.refl _) (by
    match vs,g with
    | [],_=>exact List.Pairwise.nil
    | [v],_=>exact List.pairwise_singleton _ _
    | _::_::_,g=>simp at g;omega)
   rw[<- hf]at this
   refine wpAny_pure ?_
   rw[List.map_toArray]
   exact this
  ·rw[Array.size_map,sizeLine_eq]
   show(vs.map λv=>(v,v)).toArray.size<=_
   simp;omega
 ·rw[if_neg g,if_neg g]
  refine wpAny_bind (hk h6 kp _ ?_ (by omega))
  refine wpAny_bind (wpAny_mono (hC h6 kp (SortSt.mk' κ (vs.map λv=>(v,v)).toArray #[] 7 none) (λ_ st'=>(arrOf st').toList.Perm (vs.map λv=>(v,v))/\failedOf st'=none/\Srt r (arrOf st').toList)
   (λx hx=>?_) rfl rfl rfl (by show(vs.map λv=>(v,v)).toArray.size=_;simp) λst' a1 a2 a3=>⟨a1,a2,a3⟩) ?_ λ_ _ e=>e)
  ·obtain⟨v,hv,rfl⟩:=List.mem_map.mp (show x∈vs.map λv=>(v,v)by simpa using hx)
   exact hP v hv
  ·rintro⟨⟨⟩,st'⟩ s' ⟨rfl,p1,p2,p3⟩
   have lz:(arrOf st').size=vs.length:=by rw[<- Array.length_toList,p1.length_eq,List.length_map]
   refine wpAny_bind (seqEpoch_at o6 rfl (wpAny_bind (listUpdate_at o6 rfl ?_ (hsz2:=?_))))
   ·rw[p2]
    simp only[bne_self_eq_false,Bool.false_eq_true,if_false]
    have:=h _ p1 p3
    rw[<- hf]at this
    refine wpAny_pure ?_
    have e:(arrOf st').map (·.2)=(List.map (·.2) (arrOf st').toList).toArray:=by
     apply Array.toList_inj.mp;simp
    rw[e];exact this
   ·rw[Array.size_map,sizeLine_eq,lz];omega
theorem y0k {l:Addr}{vs:List Value}{Q:Value->Shared->Prop}(hl:s.heap.IsList l vs.toArray)(hn:vs.length<=16777216)
  (hP:∀v∈vs,P (v,v))
  (hk:∀h':Heap,(∀b o,s.heap.get? b=some o->h'.get? b=some o)->∀Q:SortKind->Shared->Prop,Q κ {s with heap:=h'}->2<=vs.length->wpAny (model prog w) A.in1.in1 (keyKind' vs.toArray) Q E {s with heap:=h'})
  (hC:∀h':Heap,(∀b o,s.heap.get? b=some o->h'.get? b=some o)->j1m (model prog w) A.in1.in1 E {s with heap:=h'} κ r P vs.length)
  (h:∀ks:List Keyed,ks.Perm (vs.map λv=>(v,v))->Srt r ks->Q (.ref (s.heap.objs.size+1)) {s with heap:=sortedAll s.heap vs (ks.map (·.2)).toArray}) :
  wpAny (model prog w) A (call (.builtin "sorted") [.ref l]) Q E s:=by
 refine Calls.call_function_entry kind_sorted plain_sorted entry_sorted (args_sorted1 _) ?_
 unfold Builtin.«sorted»
 refine wpAny_bind (m:=checkCount "sorted" 1 1 _) (wpAny_pure (wpAny_bind (collect_list hl (wpAny_bind (wpAny_newList ?_ (by rw[sizeLine_eq];exact hn))) (by rw[sizeLine_eq];exact hn))))
 have hz:((s.heap.push (seqObj "list" #[] 0)).update s.heap.objs.size (Obj.mapSeq (· ++ vs.toArray))).objs.size=s.heap.objs.size+1:=by rw[Heap.size_update,size_push']
 generalize hh:((s.heap.push (seqObj "list" #[] 0)).update s.heap.objs.size (Obj.mapSeq (· ++ vs.toArray))).push (seqObj "list" vs.toArray 0)=h4
 have oL:h4.get? (s.heap.objs.size+1)=some (seqObj "list" vs.toArray 0):=by subst hh;rw[<- hz];exact Heap.get?_push_size _ rfl
 have kp:∀b o,s.heap.get? b=some o->b≠s.heap.objs.size+1/\h4.get? b=some o:=λb o q=>by
  have lb:=Heap.lt_size q
  refine⟨Nat.ne_of_lt (Nat.lt_succ_of_lt lb),?_⟩
  subst hh
  rw[Heap.get?_push_ne _ _ _ (by rw[hz];exact Nat.ne_of_lt (Nat.lt_succ_of_lt lb)),Heap.get?_update_ne _ _ _ _ (Nat.ne_of_lt lb),Heap.get?_push_ne _ _ _ (Nat.ne_of_lt lb),q]
 refine(show wpAny _ _ _ _ _ {s with heap:=h4}from ?_)
 rw[hz]
 refine wpAny_bind (wpAny_holding (wpAny_call_entry slot_list_sort ⟨_,oL,rfl⟩ entry_list_sort (d1y (κ:=κ) (r:=r) (P:=P) oL hn hP (λh' q=>hk h' λb o e=>q b o (kp b o e).1 (kp b o e).2) (λh' q=>hC h' λb o e=>q b o (kp b o e).1 (kp b o e).2) λks k1 k2=>⟨_,rfl,?_⟩) (args_list_sort _)))
 refine wpAny_pure ⟨_,rfl,?_⟩
 have:=h ks k1 k2
 subst hh
 exact this
end
section
variable {prog:Program}{w:World}{A:Around}{E:Value->Shared->Prop}{s:Shared}
theorem j1u {κ:SortKind}{M:Model}{x y:Keyed}{b:Bool}(hk:∀(E':Value->Shared->Prop) (Q:Bool->Shared->Prop),Q b s->wpAny M A (keyLt' κ x.1 y.1) Q E' s){st:SortSt}{Q:Option Bool->SortSt->Prop}(e:kindOf st=κ)(h:Q (some b) st):wpS M A E s (lt' x y) Q st:=by
 rw[lt'_eq]
 refine wpS_bind (wpS_get ?_)
 rw[e]
 refine wpS_bind (wpS_lift (wpAny_attempt (hk _ _ ?_)))
 exact⟨rfl,wpS_pure h⟩
end
end L2
set_option maxHeartbeats 1000000
namespace L2
open PySem PySem.Spec PyProof.Rows
open PySem.MeetsSeq PySem.MeetsSeq2 PySem.MeetsSeq3
open PySem.AutoSeq1 (wpAny_loadPart')
theorem v0o:∀ {vs:List Value} {ns:List Int} {i:Nat},IntsAre vs ns->i<vs.length->∃t,vs[i]? = some (.int (ns.getD i 0) t)/\ns.drop i=ns.getD i 0::ns.drop (i+1)
 | _,_,i,.nil,h=>by simp at h
 | _,_,0,.cons n t h,_=>⟨t,rfl,rfl⟩
 | _,_,i+1,.cons n t h,hl=>by
  obtain⟨u,h1,h2⟩:=v0o (i:=i) h (by simpa using hl)
  exact⟨u,by simpa using h1,by simpa using h2⟩
theorem i1j (l b:Addr)(items items2:Array Value)(n n2:Nat)(ns ms:List Int)(hi:IntsAre items.toList ns)(hj:IntsAre items2.toList ms)(k:Nat) :
  ∀i:Nat,items.size - i=k->i<=items.size->i<=items2.size->Meets (Builtin.«list.__eq__.loop» ⟨[.ref l,.ref b,rawInt i,rawInt 0],[]⟩)
   (λ_ R s=>s.heap.get? l=some {cls:=.type "list",dict:=none,data:=.seq items n,slots:=#[]}/\s.heap.get? b=some {cls:=.type "list",dict:=none,data:=.seq items2 n2,slots:=#[]} /\
    R (.ok (.ret (.bool (HT.lexLt (ns.drop i) (ms.drop i))))) s):=by
 have z1:items.size=ns.length:=by rw[<- hi.length];simp
 have z2:items2.size=ms.length:=by rw[<- hj.length];simp
 induction k with
 | zero =>
  intro i hk q1 q2 prog w A R s h
  obtain⟨hp,g,d,tk,os⟩:=s;obtain⟨hl,hb,h⟩:=h
  wp_walk using wpAny_loadPart' hl,wpAny_loadPart' hb
  have hi1:items[((i:Nat):Int).toNat]? = none:=by simp;omega
  have hd:ns.drop i=[]:=by simp;omega
  rw[hd]at h
  have fin:HT.lexLt [] (ms.drop i)=decide (items.size<items2.size):=by
   cases hm:ms.drop i with
   | nil =>
    have:ms.length<=i:=by simpa using hm
    rw[HT.lexLt_nil_nil];exact(decide_eq_false (by omega)).symm
   | cons a r =>
    have:i<ms.length:=by
     have:=congrArg List.length hm
     simp at this;omega
    rw[HT.lexLt_nil_cons];exact(decide_eq_true (by omega)).symm
  rw[fin]at h
  rw[hi1]
  cases items2[((i:Nat):Int).toNat]? with
  | none =>
   wp_walk using wpAny_loadPart' hl,wpAny_loadPart' hb
   exact h
  | some x =>
   wp_walk using wpAny_loadPart' hl,wpAny_loadPart' hb
   exact h
 | succ k ih =>
  intro i hk q1 q2 prog w A R s h
  obtain⟨hp,g,d,tk,os⟩:=s;obtain⟨hl,hb,h⟩:=h
  wp_walk using wpAny_loadPart' hl,wpAny_loadPart' hb
  have hlt:i<items.size:=by omega
  obtain⟨t,e1,d1⟩:=v0o (i:=i) hi (by simpa using hlt)
  have hi1:items[((i:Nat):Int).toNat]? = some (.int (ns.getD i 0) t):=by rw[Int.toNat_natCast,<- Array.getElem?_toList];exact e1
  by_cases g2:i<items2.size
  ·obtain⟨u,e2,d2⟩:=v0o (i:=i) hj (by simpa using g2)
   have hi2:items2[((i:Nat):Int).toNat]? = some (.int (ms.getD i 0) u):=by rw[Int.toNat_natCast,<- Array.getElem?_toList];exact e2
   have hc:((i:Int)+1)=((i+1:Nat):Int):=by push_cast;rfl
   rw[d1,d2,HT.lexLt_cons]at h
   rw[hi1,hi2]
   refine wpAny_bind (wpAny_eqBool_int ?_)
   by_cases e:ns.getD i 0=ms.getD i 0
   ·rw[if_pos e]at h
    rw[show(ns.getD i 0==ms.getD i 0)=true by simpa using e]
    wp_walk
    rw[hc]
    exact⟨plainId_quiet plain_eq_loop _,codeAny_builtin entry_eq_loop (by
     rw[Around.under_plainId plain_eq_loop _]
     exact ih (i+1) (by omega) (by omega) (by omega) prog w A R _ ⟨hl,hb,h⟩)⟩
   ·rw[if_neg e]at h
    rw[show(ns.getD i 0==ms.getD i 0)=false by simpa using e]
    wp_walk using wpAny_loadPart' hl,wpAny_loadPart' hb
    rw[hi1,hi2]
    refine wpAny_bind (wpAny_richCompare_same (op:=.Lt) (typeIs_int _ _ t) (typeIs_int _ _ u) slot_int_lt (call_int_lt ⟨(λx=>nomatch x),?_⟩))
    wp_walk
    exact h
  ·have hi2:items2[((i:Nat):Int).toNat]? = none:=by simp;omega
   have d2:ms.drop i=[]:=by simp;omega
   rw[d1,d2,HT.lexLt_cons_nil]at h
   rw[hi1,hi2]
   wp_walk using wpAny_loadPart' hl,wpAny_loadPart' hb
   have:decide (items.size<items2.size)=false:=decide_eq_false (by omega)
   show R (.ok (.ret (.bool (decide (items.size<items2.size))))) _
   rw[this];exact h
theorem t0e (l b:Addr)(items items2:Array Value)(n n2:Nat)(ns ms:List Int)(hi:IntsAre items.toList ns)(hj:IntsAre items2.toList ms) :
  Meets (Builtin.«list.__lt__» ⟨[.ref l,.ref b],[]⟩)
   (λ_ R s=>s.heap.get? l=some {cls:=.type "list",dict:=none,data:=.seq items n,slots:=#[]}/\s.heap.get? b=some {cls:=.type "list",dict:=none,data:=.seq items2 n2,slots:=#[]} /\
    R (.ok (.ret (.bool (HT.lexLt ns ms)))) s):=by
 intro prog w A R s h
 obtain⟨hp,g,d,tk,os⟩:=s;obtain⟨hl,hb,h⟩:=h
 have f3:=AutoSeq1.sub_list_list
 wp_walk using wpAny_loadPart' hl,wpAny_loadPart' hb
 exact⟨plainId_quiet plain_eq_loop _,codeAny_builtin entry_eq_loop (by
  rw[Around.under_plainId plain_eq_loop _]
  exact i1j l b items items2 n n2 ns ms hi hj _ 0 rfl (Nat.zero_le _) (Nat.zero_le _) prog w A R _ ⟨hl,hb,by simpa using h⟩)⟩
def rkL:Nat->List Int->Int
 | 0,_=>0
 | _+1,[]=>0
 | k+1,x::xs=>(x+1)*1000^k+rkL k xs
def okL (ns:List Int):Prop:=∀x∈ns,0<=x/\x<998
theorem s0n:∀(k:Nat) (xs:List Int),okL xs->0<=rkL k xs/\rkL k xs<1000^k
 | 0,xs,_=>⟨Int.le_refl _,by show(0:Int)<1000^0;decide⟩
 | k+1,[],_=>⟨Int.le_refl _,Int.pow_pos (by decide)⟩
 | k+1,x::xs,h=>by
  have ih:=s0n k xs λy hy=>h y (List.mem_cons_of_mem _ hy)
  obtain⟨h1,h2⟩:=h x (List.mem_cons_self ..)
  have hp:(0:Int)<1000^k:=Int.pow_pos (by decide)
  have m1:0<=(x+1)*1000^k:=Int.mul_nonneg (by omega) (by omega)
  have m2:(x+1)*1000^k<=998*1000^k:=Int.mul_le_mul_of_nonneg_right (by omega) (by omega)
  show 0<=(x+1)*1000^k+rkL k xs/\(x+1)*1000^k+rkL k xs<1000^(k+1)
  rw[Int.pow_succ]
  omega
theorem a1k:∀(k:Nat) (xs ys:List Int),xs.length<=k->ys.length<=k->okL xs->okL ys->HT.lexLt xs ys=decide (rkL k xs<rkL k ys)
 | 0,[],[],_,_,_,_=>rfl
 | 0,_::_,_,h,_,_,_=>by simp at h
 | 0,[],_::_,_,h,_,_=>by simp at h
 | k+1,[],[],_,_,_,_=>by rw[HT.lexLt_nil_nil];exact(decide_eq_false (by simp[rkL])).symm
 | k+1,[],y::ys,_,_,_,hy=>by
  have ih:=s0n k ys λz hz=>hy z (List.mem_cons_of_mem _ hz)
  obtain⟨h1,h2⟩:=hy y (List.mem_cons_self ..)
  have hp:(0:Int)<1000^k:=Int.pow_pos (by decide)
  have m1:1*1000^k<=(y+1)*1000^k:=Int.mul_le_mul_of_nonneg_right (by omega) (by omega)
  rw[HT.lexLt_nil_cons]
  refine(decide_eq_true ?_).symm
  show(0:Int)<(y+1)*1000^k+rkL k ys
  omega
 | k+1,x::xs,[],_,_,hx,_=>by
  have ih:=s0n k xs λz hz=>hx z (List.mem_cons_of_mem _ hz)
  obtain⟨h1,h2⟩:=hx x (List.mem_cons_self ..)
  have hp:(0:Int)<1000^k:=Int.pow_pos (by decide)
  have m1:0<=(x+1)*1000^k:=Int.mul_nonneg (by omega) (by omega)
  rw[HT.lexLt_cons_nil]
  refine(decide_eq_false ?_).symm
  show ¬(x+1)*1000^k+rkL k xs<0
  omega
 | k+1,x::xs,y::ys,lx,ly,hx,hy=>by
  have ih:=a1k k xs ys (by simpa using lx) (by simpa using ly) (λz hz=>hx z (List.mem_cons_of_mem _ hz)) (λz hz=>hy z (List.mem_cons_of_mem _ hz))
  have b1:=s0n k xs λz hz=>hx z (List.mem_cons_of_mem _ hz)
  have b2:=s0n k ys λz hz=>hy z (List.mem_cons_of_mem _ hz)
  have hp:(0:Int)<1000^k:=Int.pow_pos (by decide)
  rw[HT.lexLt_cons]
  show _=decide ((x+1)*1000^k+rkL k xs<(y+1)*1000^k+rkL k ys)
  by_cases e:x=y
  ·subst e
   rw[if_pos rfl,ih,decide_eq_decide]
   omega
  ·rw[if_neg e,decide_eq_decide]
   constructor
   ·intro g
    have:=Int.mul_le_mul_of_nonneg_right (c:=1000^k) (show x+1+1<=y+1 by omega) (by omega)
    rw[Int.add_mul (x+1)]at this
    omega
   ·intro g
    rcases Int.lt_or_gt_of_ne e with z | z
    ·exact z
    ·have:=Int.mul_le_mul_of_nonneg_right (c:=1000^k) (show y+1+1<=x+1 by omega) (by omega)
     rw[Int.add_mul (y+1)]at this
     omega
def LsAt (h:Heap)(a:Addr)(ns:List Int):Prop:=∃vs n,IntsAre vs ns/\h.get? a=some (seqObj "list" vs.toArray n)
theorem LsAt.kept {h h':Heap}{a:Addr}{ns:List Int}(x:LsAt h a ns)(k:∀b o,h.get? b=some o->h'.get? b=some o):LsAt h' a ns:=by
 obtain⟨vs,n,i,e⟩:=x
 exact⟨vs,n,i,k _ _ e⟩
theorem m0r:∀ {vs:List Value} {ns ms:List Int},IntsAre vs ns->IntsAre vs ms->ns=ms
 | _,_,_,.nil,.nil=>rfl
 | _,_,_,.cons n t h,.cons _ _ h'=>by rw[m0r h h']
theorem LsAt.uniq {h:Heap}{a:Addr}{ns ms:List Int}(x:LsAt h a ns)(y:LsAt h a ms):ns=ms:=by
 obtain⟨vs,n,i,e⟩:=x
 obtain⟨vs',n',i',e'⟩:=y
 rw[e]at e'
 have hd:(Data.seq vs.toArray n) = .seq vs'.toArray n':=congrArg Obj.data (Option.some.inj e')
 injection hd with h1 h2
 have:vs=vs':=by simpa using congrArg Array.toList h1
 subst this
 exact m0r i i'
open Classical in
noncomputable def lsOf (h:Heap)(v:Value):List Int:=match v with
 | .ref a=>if x:∃ns,LsAt h a ns then x.choose else[]
 | _=>[]
theorem o0b {h:Heap}{a:Addr}{ns:List Int}(x:LsAt h a ns):lsOf h (.ref a)=ns:=by
 unfold lsOf
 have e:∃p,LsAt h a p:=⟨ns,x⟩
 dsimp only
 rw[dif_pos e]
 exact e.choose_spec.uniq x
section
variable {prog:Program}{w:World}{A:Around}{E:Value->Shared->Prop}{s:Shared}
theorem y0q {a b:Addr}{ns ms:List Int}{Q:Bool->Shared->Prop}(hu:A.units<cLine)(x:LsAt s.heap a ns)(y:LsAt s.heap b ms)(h:Q (HT.lexLt ns ms) s):wpAny (model prog w) A (oneLt' true (.ref a) (.ref b)) Q E s:=by
 obtain⟨vs,n,i,e⟩:=x
 obtain⟨vs',n',i',e'⟩:=y
 rw[oneLt'_eq]
 simp only[if_true]
 refine wpAny_bind (wpAny_cRoomFor hu ?_)
 refine wpAny_bind (wpAny_callSpecialIfBound?_slot ⟨_,e,rfl⟩ PySem.F.slot_list_lt (call_meets PySem.F.slot_list_lt ⟨_,e,rfl⟩ PySem.F.entry_list_lt (PySem.F.args_list_lt_2 _ _) (t0e a b _ _ n n' ns ms (by simpa using i) (by simpa using i')) ⟨e,e',?_⟩))
 exact wpAny_truthy_bool h
theorem j1h (hu:A.units<cLine){h0:Heap}(k:∀b o,h0.get? b=some o->s.heap.get? b=some o):Cm (model prog w) A E s oneType' (λz=>rkL 100 (lsOf h0 z.1)) (λz=>∃a ns,z.1 = .ref a/\LsAt h0 a ns/\ns.length<=100/\okL ns):=by
 refine⟨λx y hx hy st Q e h=>?_⟩
 obtain⟨a,p,ea,pa,lp,kp⟩:=hx
 obtain⟨b,q,eb,pb,lq,kq⟩:=hy
 rw[ea,eb,o0b pa,o0b pb]at h
 refine j1u (κ:=oneType') (b:=HT.lexLt p q) (λE' Q q'=>?_) e ?_
 ·rw[ea,eb,keyLt'_oneType]
  exact y0q hu (pa.kept k) (pb.kept k) q'
 ·rw[a1k 100 p q lp lq kp kq];exact h
theorem t0g {vs:List Value}{Q:SortKind->Shared->Prop}(hv:∀v∈vs,∃a ns,v = .ref a/\LsAt s.heap a ns)(h2:1<=vs.length)(h:Q oneType' s):wpAny (model prog w) A (keyKind' vs.toArray) Q E s:=by
 have ty:∀v∈vs,s.TypeIs v "list" := λv hv'=>by
  obtain⟨a,ns,rfl,us,n,_,e⟩:=hv v hv'
  exact⟨_,e,rfl⟩
 have firsts:∀(vs:List Value),(∀v∈vs,s.TypeIs v "list")->∀Q:List (Option Value)->Shared->Prop,Q (vs.map λ_=>none) s->wpAny (model prog w) A (vs.mapM firstOfTuple') Q E s:=by
  intro vs
  induction vs with
  | nil=>intro _ Q q;rw[List.mapM_nil];exact wpAny_pure q
  | cons v vs ih =>
   intro hv Q q
   rw[List.mapM_cons]
   refine wpAny_bind ?_
   show wpAny (model prog w) A (do
    if(<- typeOf v) != .type "tuple" then return none
    return (<- Builtin.List.listItems v)[0]?) _ E s
   refine wpAny_bind (wpAny_typeOf (T := "list") (hv v (List.mem_cons_self ..)) ?_)
   rw[if_pos (by decide)]
   exact wpAny_pure (wpAny_bind (ih (λv' z=>hv v' (List.mem_cons_of_mem _ z)) _ (wpAny_pure q)))
 have types:∀(vs:List Value),(∀v∈vs,s.TypeIs v "list")->∀Q:List Value->Shared->Prop,Q (vs.map λ_=>Value.type "list") s->wpAny (model prog w) A (vs.mapM typeOf) Q E s:=by
  intro vs
  induction vs with
  | nil=>intro _ Q q;rw[List.mapM_nil];exact wpAny_pure q
  | cons v vs ih =>
   intro hv Q q
   rw[List.mapM_cons]
   exact wpAny_bind (wpAny_typeOf (T := "list") (hv v (List.mem_cons_self ..)) (wpAny_bind (ih (λv' z=>hv v' (List.mem_cons_of_mem _ z)) _ (wpAny_pure q))))
 obtain⟨v0,vs',rfl⟩:∃v vs',vs=v::vs':=by
  cases vs with
  | nil=>simp at h2
  | cons v vs=>exact⟨v,vs,rfl⟩
 rw[keyKind'_eq,List.mapM_toArray]
 refine wpAny_bind (wpAny_bind (firsts _ ty _ (wpAny_pure ?_)))
 rw[if_neg (by simp),if_neg (by simp),oneTypeOnly'_eq,List.mapM_toArray]
 refine wpAny_bind (wpAny_bind (wpAny_bind (types _ ty _ (wpAny_pure ?_))))
 have hall:((List.map (λ_=>Value.type "list") (v0::vs')).toArray.all λx=>x==Value.type "list")=true:=by
  simp only[List.all_toArray,List.all_map,List.all_eq_true]
  intro _ _
  rfl
 have h0:(List.map (λ_=>Value.type "list") (v0::vs')).toArray[0]? = some (Value.type "list"):=by simp
 rw[h0]
 simp only[hall,if_true]
 exact wpAny_pure (wpAny_pure h)
end
def vOf:Value->V
 | .ref a=>.ref a
 | _=>.non
def lstI (ns:List Int):D:=.lst (ns.map D.int)
def leL (ns ms:List Int):Prop:=HT.lexLt ms ns=false
section
variable {X:Cx}(K:PySem.W.Frag)
def a1n (K:PySem.W.Frag):List V->Hp->VK->Prop:=λxs H Q=>∃(p:Addr) (us:List V) (nss:List (List Int)),xs=[.ref p]/\SqL K H p us/\RepDs K H us (nss.map lstI)/\nss.length<64/\(∀ns∈nss,ns.length<=100/\okL ns) /\
 ∀(us':List V) (nss':List (List Int)),us'.length=nss'.length->(us'.zip nss').Perm (us.zip nss)->nss'.Pairwise leL->∀l,H l=none->Q (.ref l) (upd H l (.lst us'))
theorem i1k {pins:List (Addr×Obj)}{σ:St}{H:Hp}{s:Shared}(I:Inv X pins σ H s){v:V}{u:Value}{ns:List Int}(rv:RelV v u)(h:RepD X.K H v (lstI ns)):∃a,v = .ref a/\u = .ref a/\LsAt s.heap a ns:=by
 unfold lstI RepD at h
 obtain⟨a,vs,rfl,st,rd⟩:=h
 rw[i0c]at rd
 subst rd
 obtain⟨_,its,n,r,e⟩:=(show e0s X.prog X.w H s.heap a (.lst (ns.map V.int))from I.hok a _ st)
 exact⟨a,rfl,rv,its,n,j0u r,e⟩
theorem w0d (hu:X.A.units+64<cLine)(hK:X.K=K:=by rfl):k0t X (.builtin "sorted") (a1n K):=by
 subst hK
 intro pins s σ H xs us Q I r h
 obtain⟨a,vs,nss,rfl,hq,rd,hl,hb,q1⟩:=h
 obtain⟨u1,rfl,ru⟩:=l0u r
 cases ru
 obtain⟨its,rv,pl,hz⟩:=I.list hq
 have l1:its.length=vs.length:=by have:=rv.length;omega
 have l2:vs.length=nss.length:=by have:=rd.length;rw[List.length_map]at this;omega
 have at':∀i (hi:i<its.length),∃b,its[i] = .ref b/\vs[i]'(by omega) = .ref b/\LsAt s.heap b (nss[i]'(by omega)):=λi hi=>by
  obtain⟨z,e1,e2⟩:=rv.get (i:=i) (x:=vs[i]'(by omega)) (List.getElem?_eq_getElem _)
  rw[List.getElem?_eq_getElem hi]at e1
  cases e1
  obtain⟨t,g1,g2⟩:=rd.get (i:=i) (d:=lstI (nss[i]'(by omega))) (by rw[List.getElem?_map,List.getElem?_eq_getElem (by omega)];rfl)
  rw[List.getElem?_eq_getElem (by omega)]at g1
  cases g1
  obtain⟨b,h1,h2,h3⟩:=i1k I e2 g2
  exact⟨b,h2,h1,h3⟩
 have hv:∀v∈its,∃b ns,v = .ref b/\LsAt s.heap b ns/\ns.length<=100/\okL ns:=λv hv=>by
  obtain⟨i,hi,rfl⟩:=List.getElem_of_mem hv
  obtain⟨b,h1,_,h3⟩:=at' i hi
  have:=hb _ (List.getElem_mem (by omega:i<nss.length))
  exact⟨b,_,h1,h3,this.1,this.2⟩
 have hu1:X.A.in1.in1.units<cLine:=by rw[g0y,g0y];omega
 refine y0k (κ:=oneType') (r:=λz=>rkL 100 (lsOf s.heap z.1)) (P:=λz=>∃a ns,z.1 = .ref a/\LsAt s.heap a ns/\ns.length<=100/\okL ns) pl.isList (by omega) hv (λh' kp Q q g=>?_) (λh' kp=>h1m (by omega) (j1h hu1 kp)) λks k2 k3=>?_
 ·refine t0g (s:={s with heap:=h'}) (λv hv'=>?_) (by omega) q
  obtain⟨b,ns,e1,e2,_⟩:=hv v hv'
  exact⟨b,ns,e1,e2.kept kp⟩
 ·obtain⟨e,he⟩:=sortedAll_at s.heap its (ks.map (·.2)).toArray
  have k4:∀k∈ks,k.1=k.2/\k.2∈its:=λk hk=>by
   obtain⟨v,h1,h2⟩:=List.mem_map.mp (k2.mem_iff.mp hk)
   subst h2;exact⟨rfl,h1⟩
  have pm:(ks.map (·.2)).Perm its:=by
   have:=k2.map (·.2)
   rw[List.map_map]at this
   exact this.trans (List.Perm.of_eq (List.map_id' _))
  have back:∀v∈its,RelV (vOf v) v:=λv hv'=>by
   obtain⟨b,ns,rfl,_⟩:=hv v hv'
   exact rfl
  have klen:ks.length=its.length:=by rw[<- List.length_map (f:=(·.2)),pm.length_eq]
  have hfr:=I.hok.fresh (P:=X.prog) (w:=X.w) (h:=s.heap) (a:=s.heap.objs.size+1) (Nat.le_succ _)
  refine⟨.ref (s.heap.objs.size+1),_,I.laid (t':=s.toks) (o:=.lst ((ks.map (·.2)).map vOf)) (λb o q=>sortedAll_old q) (Nat.le_succ _) ⟨?_,ks.map (·.2),e,?_,?_⟩,rfl,q1 ((ks.map (·.2)).map vOf) ((ks.map (·.2)).map (lsOf s.heap)) (by simp) ?_ ?_ _ hfr⟩
  ·rw[List.length_map,List.length_map,klen]
   exact Nat.le_trans (show its.length<=16777216 by omega) (Nat.le_of_eq sizeLine_eq.symm)
  ·have:∀l:List Value,(∀v∈l,RelV (vOf v) v)->Vals (l.map vOf) l:=by
    intro l
    induction l with
    | nil=>intro _;exact .nil
    | cons v l ih=>intro h;exact .cons (h v (List.mem_cons_self ..)) (ih λv' z=>h v' (List.mem_cons_of_mem _ z))
   exact this _ λv hv'=>back v (pm.mem_iff.mp hv')
  ·rw[he]
  ·have e1:its.map vOf=vs:=by
    refine List.ext_getElem (by simp;omega) λi h1 h2=>?_
    rw[List.getElem_map]
    obtain⟨b,g1,g2,_⟩:=at' i (by simpa using h1)
    rw[g1,g2];rfl
   have e2:its.map (lsOf s.heap)=nss:=by
    refine List.ext_getElem (by simp;omega) λi h1 h2=>?_
    rw[List.getElem_map]
    obtain⟨b,g1,g2,g3⟩:=at' i (by simpa using h1)
    rw[g1,o0b g3]
   have e3:∀l:List Value,(l.map vOf).zip (l.map (lsOf s.heap))=l.map λv=>(vOf v,lsOf s.heap v):=λl=>by
    induction l with
    | nil=>rfl
    | cons v l ih=>rw[List.map_cons,List.map_cons,List.map_cons,List.zip_cons_cons,ih]
   rw[<- e1,<- e2,e3,e3]
   exact pm.map _
  ·rw[List.map_map]
   refine List.pairwise_map.mpr (List.Pairwise.imp_of_mem (λ{x y} hx' hy' q=>?_) k3)
   dsimp only at q
   rw[(k4 x hx').1,(k4 y hy').1]at q
   obtain⟨b1,n1,f1,f2,f3,f4⟩:=hv x.2 (k4 x hx').2
   obtain⟨b2,n2,g1,g2,g3,g4⟩:=hv y.2 (k4 y hy').2
   show HT.lexLt (lsOf s.heap y.2) (lsOf s.heap x.2)=false
   rw[f1,g1,o0b f2,o0b g2]at q ⊢
   rw[a1k 100 n2 n1 g3 f3 g4 f4]
   exact decide_eq_false (by omega)
end
section
variable {K:PySem.W.Frag}
@[irreducible] def gSortLL:List R->AE:=λrs ρ q=>match rs with
 | [r]=>∃nss:List (List Int),view ρ r=some (.lst (nss.map lstI))/\nss.length<64/\(∀ns∈nss,ns.length<=100/\okL ns)/\∀nss':List (List Int),nss'.Perm nss->nss'.Pairwise leL->q (.f (nss'.map lstI)) ρ
 | _=>False
theorem s0p {H:Hp}:∀ {us:List V} {nss:List (List Int)},RepDs K H us (nss.map lstI)->∀z∈us.zip nss,RepD K H z.1 (lstI z.2)
 | [],_,_,z,h=>by simp at h
 | _::_,[],_,z,h=>by simp at h
 | u::us,ns::nss,r,z,h=>by
  rw[List.map_cons]at r
  unfold RepDs at r
  rw[List.zip_cons_cons]at h
  rcases List.mem_cons.mp h with rfl | h
  ·exact r.1
  ·exact s0p r.2 z h
theorem w0w {H:Hp}:∀ {us:List V} {nss:List (List Int)},us.length=nss.length->(∀z∈us.zip nss,RepD K H z.1 (lstI z.2))->RepDs K H us (nss.map lstI)
 | [],[],_,_=>by unfold RepDs;trivial
 | [],_::_,h,_=>by simp at h
 | _::_,[],h,_=>by simp at h
 | u::us,ns::nss,h,r=>by
  rw[List.map_cons]
  unfold RepDs
  exact⟨r (u,ns) (by simp),w0w (by simpa using h) λz hz=>r z (by simp[hz])⟩
theorem w0c:CbOk K (a1n K) gSortLL:=by
 intro F σ ρ H vs rs q Q a i h b
 unfold gSortLL at h
 split at h
 ·obtain⟨y,rfl,iy⟩:=i.one
  obtain⟨nss,hv,hl,hb,h1⟩:=h
  obtain⟨l,us,rfl,sq,rd⟩:=c0u a iy hv
  refine⟨l,us,nss,rfl,sq,rd.same d0c,hl,hb,λus' nss' el pm so p hp=>b.new a (h1 nss' ?_ so) (w0w el λz hz=>s0p rd z (pm.mem_iff.mp hz)) hp⟩
  have e1:=rd.length
  rw[List.length_map]at e1
  have:=pm.map Prod.snd
  rw[List.map_snd_zip (by omega),List.map_snd_zip (by omega)]at this
  exact this
 ·exact h.elim
theorem p0z {r:R}{ρ:En}{q:Ko}{nss:List (List Int)}(hv:view ρ r=some (.lst (nss.map lstI)))(hl:nss.length<64)(hb:∀ns∈nss,ns.length<=100/\okL ns)(h1:∀nss':List (List Int),nss'.Perm nss->nss'.Pairwise leL->q (.f (nss'.map lstI)) ρ):gSortLL [r] ρ q:=by
 unfold gSortLL
 exact⟨nss,hv,hl,hb,h1⟩
theorem x0n:∀ {xs ys:List Int},HT.lexLt xs ys=false->HT.lexLt ys xs=false->xs=ys
 | [],[],_,_=>rfl
 | [],_::_,h,_=>by rw[HT.lexLt_nil_cons]at h;cases h
 | _::_,[],_,h=>by rw[HT.lexLt_nil_cons]at h;cases h
 | x::xs,y::ys,h1,h2=>by
  rw[HT.lexLt_cons]at h1 h2
  by_cases e:x=y
  ·subst e
   rw[if_pos rfl]at h1 h2
   rw[x0n h1 h2]
  ·rw[if_neg e]at h1
   rw[if_neg (Ne.symm e)]at h2
   have:=of_decide_eq_false h1
   have:=of_decide_eq_false h2
   omega
theorem u0s {xs ys:List (List Int)}(p:xs.Perm ys)(h1:xs.Pairwise leL)(h2:ys.Pairwise leL):xs=ys :=
 List.Perm.eq_of_pairwise (le:=leL) (λa b _ _ q1 q2=>x0n q2 q1) h1 h2 p
end
end L2
namespace L2
open PySem PySem.Spec PyProof.Rows PySem.W
end L2
namespace L2
open PySem PySem.Spec PyProof.Rows Builtin
end L2
namespace L2
open PySem PySem.Spec PyProof.Rows
theorem t0u {prog:Program}{w:World}{A:Around}(hh:A.handled=none)(it l:Addr)(hne:l≠it)(xs:Array Value) :
  Draws prog w A it [it,l] xs.size (λi v=>xs[i]? = some v) (λi h=>h.IsTupleIter it l i/\h.IsTuple l xs) where
 live:=λ_ _ st=>let ⟨o,ho,_⟩:=st.1;⟨o,ho⟩
 frame:=λ_ _ _ st hk=>(r0q (prog:=prog) (w:=w) hne).keep _ _ _ st λb o hb e=>hk b hb o e
 item:=λi s Q E hi st hQ=>(r0q hne).item A i s xs[i] Q E st (by simp[hi]) λh' st' sb=>hQ _ h' s.toks (by simp[hi]) st' sb
 done:=λs Q E st hE=>(r0q hne).fin A xs.size s Q E hh st (by simp) hE
open AutoSeq1 (wpAny_loadPart') in
theorem v0m (l:Addr)(xs:Array Value) :
  Meets (Builtin.«enumerate.__new__» ⟨[.type "enumerate",.ref l],[]⟩) (λ_ R s=>s.heap.IsTuple l xs /\
   R (.ok (.ret (.ref (s.heap.push {cls:=.type "tuple_iterator",data:=.fields #[.ref l,.int 0 0]}).objs.size)))
    {s with heap:=(s.heap.push {cls:=.type "tuple_iterator",data:=.fields #[.ref l,.int 0 0]}).push {cls:=.type "enumerate",data:=.fields #[.none,.bool false,.ref s.heap.objs.size,rawInt 0,.none,.none]}}) :=
 .of_wp λprog w A R s h=>by
  obtain⟨hp,g,d,tk,os⟩:=s;obtain⟨hl,h⟩:=h
  have hsub:=sub_enumerate
  have hL:Heap.IsTuple (Shared.heap ⟨hp,g,d,tk,os⟩) l xs:=hl
  wp_walk
  refine wpAny_stack_any λst=>wpAny_pure ?_
  split
  ·rename_i c _ _ _ _ _
   cases (c==Value.type "enumerate")
   ·wp_walk using wpAny_pyIter_tuple hL
    exact⟨_,rfl,h⟩
   ·wp_walk using wpAny_pyIter_tuple hL
    exact⟨_,rfl,h⟩
  ·wp_walk using wpAny_pyIter_tuple hL
   exact⟨_,rfl,h⟩
theorem z0d {prog:Program}{w:World}{A:Around}{E:Value->Shared->Prop}{s:Shared}{l:Addr}{xs:Array Value}{Q:Value->Shared->Prop}(hL:s.heap.IsTuple l xs)
  (h:∀h',IsEnum h' (s.heap.objs.size+1) s.heap.objs.size 0 .none->h'.IsTupleIter s.heap.objs.size l 0->h'.objs.size=s.heap.objs.size+2 ->
   (∀b o,s.heap.get? b=some o->h'.get? b=some o)->Q (.ref (s.heap.objs.size+1)) {s with heap:=h'}) :
  wpAny (model prog w) A (call (.type "enumerate") [.ref l]) Q E s:=by
 refine callType_new F.called_enumerate (by decide) (F.typeCall_enumerate_1 _) (F.newCall_enumerate_1 _) (λobj=>F.args_object_init_2 obj _) F.entry_enumerate_new
  (v0m l xs) ⟨hL,?_⟩
 have hz:(s.heap.push {cls:=.type "tuple_iterator",data:=.fields #[.ref l,.int 0 0]}).objs.size=s.heap.objs.size+1:=Heap.size_push ..
 show _/\_
 rw[hz]
 have he:IsEnum ((s.heap.push {cls:=.type "tuple_iterator",data:=.fields #[.ref l,.int 0 0]}).push
   {cls:=.type "enumerate",data:=.fields #[.none,.bool false,.ref s.heap.objs.size,rawInt 0,.none,.none]}) (s.heap.objs.size+1) s.heap.objs.size 0 .none:=by
  have:=Heap.get?_push_size (s.heap.push {cls:=.type "tuple_iterator",data:=.fields #[.ref l,.int 0 0]})
   (o:={cls:=.type "enumerate",data:=.fields #[.none,.bool false,.ref s.heap.objs.size,rawInt 0,.none,.none]}) rfl
  rw[hz]at this;exact this
 refine⟨⟨_,he,rfl⟩,h _ he ⟨_,Heap.get?_push_of_some _ (Heap.get?_push_size _ rfl),rfl,rfl⟩ (by rw[Heap.size_push,hz]) λb o x=>Heap.get?_push_of_some _ (Heap.get?_push_of_some _ x)⟩
def Itf (K:PySem.W.Frag)(l:Addr)(n:Nat):It :=
 ⟨λi H=>∃xs x,SqT K H l xs/\xs.length=n/\xs[i]? = some x,λi H v H'=>∃p x,v = .ref p/\H p=none/\H'=upd H p (.tup [.int (i:Nat),x])/\∀xs,SqT K H l xs->xs[i]? = some x,
  λi H=>n<=i/\∃xs,SqT K H l xs/\xs.length=n⟩
theorem y0h {P:Program}{w:World}{K:PySem.W.Frag}{elts:List Expr}{x1}{tpos:Pos}{e it l:Addr}{n:Nat}(ne:e≠it)(nl:l≠it)(nel:e≠l) :
  Turn P w K (.Tuple elts x1 tpos) (Itf K l n) [e,it] e (λi h=>((∃old,IsEnum h e it (i:Nat) old)/\h.IsTupleIter it l i)/\i<=n) where
 mem:=by simp
 obj:=λi h st b hb=>by
  obtain⟨⟨⟨old,he⟩,⟨o1,e1,c1,d1⟩⟩,_⟩:=st
  simp only[List.mem_cons,List.not_mem_nil,or_false]at hb
  rcases hb with rfl | rfl
  ·exact⟨_,he,λv q=>by cases q⟩
  ·exact⟨o1,e1,λv q=>by rw[d1]at q;cases q⟩
 keep:=λi h h' st k=>by
  obtain⟨⟨⟨old,he⟩,h1⟩,hi⟩:=st
  exact⟨⟨⟨old,k e (by simp) _ he⟩,h1.at λo q=>k it (by simp) o q⟩,hi⟩
 item:=by
  intro X hP hw hK hc i pins s σ H E I hf st hg
  subst hP hw hK
  obtain⟨xs,x,q1,hln,hx⟩:=hg
  obtain⟨⟨⟨old,he⟩,h1⟩,hin⟩:=st
  obtain⟨its,rv,p1,_⟩:=I.tuple q1
  have hxi:=(List.getElem?_eq_some_iff.mp hx).1
  obtain⟨u,hu,ru⟩:=rv.get hx
  have hlt:i<its.toArray.size:=by rw[List.size_toArray];exact(List.getElem?_eq_some_iff.mp hu).1
  refine wpAny_pyNext_enum_itemD (t0u (show X.A.in1.handled=none from I.ok.hd hc) it l nl its.toArray) he ⟨h1,p1⟩ hlt ne (by simp[ne,nel]) λy h' tk hy a1 a2 a3 a4 hk=>?_
  have ey:y=u:=by
   have hy':its[i]? = some y:=by simpa using hy
   rw[hu]at hy';cases hy';rfl
  subst ey
  refine⟨_,rfl,wpAny_letOwnedTupleGo_enum (s:={s with heap:=h',toks:=tk+1}) a1 λh2' he' hs'=>?_⟩
  have hs2:Heap.SameBut e h' h2':=hs'
  have ls:∀ {b o},s.heap.get? b=some o->b≠s.heap.objs.size:=λe=>Nat.ne_of_lt (Heap.lt_size e)
  have es:e≠s.heap.objs.size:=ls he
  have up:∀b o,b∉[e,it]->s.heap.get? b=some o->h2'.get? b=some o:=λb o hb q=>by
   simp only[List.mem_cons,List.not_mem_nil,or_false,not_or]at hb
   exact(hs2.2 b hb.1).trans (hk b o hb.1 hb.2 q)
  have I1:Inv X pins σ H {s with heap:=h2',toks:=tk+1}:=I.turns (t':=tk+1) up hf
  have fp:FpOk X pins H s.heap.objs.size:=I.fpOk (Nat.le_refl _) (I.hok.fresh (Nat.le_refl _))
  have g:h2'.get? s.heap.objs.size=some {cls:=.type "tuple",data:=.seq #[.int i tk,y]}:=(hs2.2 _ (Ne.symm es)).trans a3
  have I2:=I1.trackO (o:=.tup [.int (i:Nat),x]) fp ⟨by show 2<=sizeLine;decide,[.int i tk,y],.cons ⟨_,rfl⟩ (.cons ru .nil),_,g,rfl,_,rfl⟩
  refine⟨.ref s.heap.objs.size,upd H s.heap.objs.size (.tup [.int (i:Nat),x]),I2,rfl,⟨_,x,rfl,fp.1,rfl,λzs hz=>by rw[I.tuple_inj hz q1];exact hx⟩,?_,λb hb=>?_⟩
  ·refine⟨⟨⟨y,by simpa using he'⟩,?_⟩,by omega⟩
   obtain⟨o,q,r⟩:=a2.1;exact⟨o,(hs2.2 it (Ne.symm ne)).trans q,r⟩
  ·have hb':=(hf b hb).1
   have ne':b≠s.heap.objs.size:=by
    obtain⟨o1,e1,_⟩:=h1
    simp only[List.mem_cons,List.not_mem_nil,or_false]at hb
    rcases hb with rfl | rfl
    ·exact ls he
    ·exact ls e1
   rw[b0l ne'];exact hb'
 done:=by
  intro X hP hw hK hc i pins s σ H E I hf st hg
  subst hP hw hK
  obtain⟨hni,xs,q1,hl⟩:=hg
  obtain⟨⟨⟨old,he⟩,h1⟩,hin⟩:=st
  obtain⟨its,rv,p1,_⟩:=I.tuple q1
  have l1:=rv.length
  have ei:i=its.toArray.size:=by rw[List.size_toArray];omega
  subst ei
  refine wpAny_pyNext_enum_endD (t0u (show X.A.in1.handled=none from I.ok.hd hc) it l nl its.toArray) he ⟨h1,p1⟩ λh' hk=>⟨rfl,I.turns (ch:=[e,it]) (t':=s.toks) (λb o hb q=>?_) hf⟩
  simp only[List.mem_cons,List.not_mem_nil,or_false,not_or]at hb
  exact hk b o hb.2 q
 self:=λ_ _ _ _ _ st h=>by obtain⟨⟨⟨old,he⟩,_⟩,_⟩:=st;exact wpAny_pyIter_enum he h
def g1i (K:PySem.W.Frag)(t:TA):TI:=λσ H R=>t σ H λvs H1=>∃l xs,vs=[.ref l]/\SqT K H1 l xs/\R (Itf K l xs.length) H1
theorem x0b (K:PySem.W.Frag){X:Cx}{elts:List Expr}{x1}{tpos:Pos}{a:Expr}{ta:TA}{p pos:Pos}(hg:Gl X "enumerate")(hm:X.mg "enumerate" = none)(ha:PA X [a] ta)(hK:X.K=K:=by rfl)(hs:starEach [a] X.env=[(false,eval a X.env)]:=by rfl) :
  PI X (.Tuple elts x1 tpos) (.Call (.Name "enumerate" p) [a] [] pos) (g1i K ta):=by
 subst hK
 intro pins s σ H R I h
 refine Call_ (j0d I hg hm m0t (PyProof.Rows.callWith_type1 (thn (ha pos pins s σ H _ I h) λus s1 ⟨vs,H1,I1,r1,q1⟩=>?_) hs rfl))
 obtain⟨l,xs,rfl,h1,q⟩:=q1
 obtain⟨u,rfl,ru⟩:=l0u r1
 cases ru
 obtain⟨its,_,p1,_⟩:=I1.tuple h1
 have lt:l<s1.heap.objs.size:=by obtain⟨o,e,_⟩:=id p1;exact Heap.lt_size e
 refine z0d p1 λh' he hi hsz hk=>?_
 refine wpAny_pyIter_enum he ?_
 refine⟨_,_,_,_,H1,rfl,I1.kept (t':=s1.toks) hk,y0h (show s1.heap.objs.size+1≠s1.heap.objs.size by omega) (Nat.ne_of_lt lt) (Ne.symm (Nat.ne_of_lt (Nat.lt_succ_of_lt lt))),⟨⟨⟨_,he⟩,hi⟩,Nat.zero_le _⟩,λb hb=>?_,q⟩
 have le:s1.heap.objs.size<=b:=by
  simp only[List.mem_cons,List.not_mem_nil,or_false]at hb
  rcases hb with rfl | rfl <;> omega
 exact I1.fpOk le (I1.hok.fresh le)
section
variable {K:PySem.W.Frag}{ts:TA}{as:AA}
theorem d1o {S:Addr->Prop}{H:Hp}{l:Addr}{vs:List V}{ds:List D}(al:∀a,S a->H a≠none)(h1:SqT K H l vs)(r1:RepDs K (hid H S) vs ds):WkAt K S H (Itf K l vs.length) (l0p 0 ds):=by
 intro k
 constructor
 ·intro d e
  obtain⟨x,ex,rfl⟩:=h0w e
  rw[Nat.zero_add]
  obtain⟨v,e1,rv⟩:=r1.get ex
  refine⟨⟨vs,v,h1,rfl,e1⟩,λz H' ⟨p,a,ez,hp,eH,ha⟩=>?_⟩
  have a1:=ha vs h1
  rw[e1]at a1
  cases a1
  subst eH ez
  have sm:Same H (upd H p (.tup [.int (k:Nat),v])):=(Same.refl H).new hp
  have sm':Same (hid H S) (hid (upd H p (.tup [.int (k:Nat),v])) S):=c0a λa o e n=>⟨sm a o e,n⟩
  refine⟨sm,?_⟩
  unfold RepD
  exact⟨p,[.int (k:Nat),v],rfl,(m0s (λz=>al p z hp) c0v),.cons (by unfold RepD;rfl) (.cons (rv.same sm') .nil)⟩
 ·intro z
  rw[h0v]at z
  exact⟨by rw[r1.length];exact z,vs,h1,rfl⟩
def m1m (as:AA):AI:=λρ q=>as ρ λrs ρ1=>match rs with
 | [.d (.tup ds)]=>q (l0p 0 ds) (λ_=>True) ρ1
 | _=>False
theorem p0m {pin:Nat->Bool}(h:TAok K ts as):TIok K pin (g1i K ts) (m1m as):=by
 intro F σ ρ H q Rk r ha k
 refine h F σ ρ H _ _ r ha λrs ρ1 vs H1 h1 r1 i1 k1=>?_
 split at h1
 ·rename_i ds
  obtain⟨x,rfl,ix⟩:=i1.one
  have rd:RepD K _ x (.tup ds):=ix
  unfold RepD at rd
  obtain⟨a,vs,rfl,sq,rd⟩:=rd
  refine⟨a,vs,rfl,d0c.seqT sq.sq,k _ _ _ _ _ h1 r1 k1 λσ2 ρ2 H2 sm sv pn al hc=>?_⟩
  exact d1o (λa z=>(al a z).1) (d0c.seqT (sm.seqT sq.sq)) (rd.same sm)
 ·exact h1.elim
end
end L2
namespace L2
open PySem PySem.Spec PyProof.Rows PySem.W
end L2
namespace L2
open PySem PySem.Spec PyProof.Rows PySem.W Builtin Builtin.ObjectAttr
end L2
namespace L2
open PySem PySem.Spec PyProof.Rows PySem.W
theorem tn3:∀k:Nat,k<10000000000000000000000000000000000000000000000000000000000000000000000->(toString (k:Int):Str).length<=70:=λk h=>toString_length_le (v:=(k:Int)) (k:=70) (by omega) (by decide) (by omega)
theorem n1f {k:Nat}(h:k<10000000000000000000000000000000000000000000000000000000000000000000000):(k:Int).natAbs.log2<1920:=by
 rw[Int.natAbs_natCast]
 by_cases h0:k=0
 ·subst h0;decide
 ·have:=(Nat.log2_lt h0).mpr (show k<2^233 by omega)
  omega
end L2
namespace L2
open PySem PySem.Spec PyProof.Rows
section
variable {P:Program}{w:World}{A:Around}{R:Result->Shared->Prop}{s:Shared}
theorem r0v (elt tg iter tg2 iter2:Expr)(ifs ifs2:List Expr)(scope:Scope)(pos:Pos)(it acc:Value)(env:Env) :
  compTurn (.ListComp elt [⟨tg,iter,ifs,0⟩,⟨tg2,iter2,ifs2,0⟩] scope pos) 0 it acc env=(do
   standAt iter.pos
   match <- pyNext it with
   | none=>pure (.done .next)
   | some v =>
    letOwnedTupleGo tg it v
    assign tg env v
    let mut ok:=true
    for c in ifs do
     if ok then ok <- isTrue c env (eval c env)
    if ok then
     let x <- eval iter2 env
     standAt iter2.pos
     let x <- foldedSetIterable iter2 env x
     let _ <- runOwn (.compStart (.ListComp elt [⟨tg,iter,ifs,0⟩,⟨tg2,iter2,ifs2,0⟩] scope pos) 1 (<- holding [x] (pyIter x)) acc env) env
    again (.compLoop (.ListComp elt [⟨tg,iter,ifs,0⟩,⟨tg2,iter2,ifs2,0⟩] scope pos) 0 it acc env)):=by rfl
theorem r0u (elt tg iter tg2 iter2:Expr)(ifs ifs2:List Expr)(scope:Scope)(pos:Pos)(it acc:Value)(env:Env) :
  compTurn (.ListComp elt [⟨tg,iter,ifs,0⟩,⟨tg2,iter2,ifs2,0⟩] scope pos) 1 it acc env=(do
   standAt iter2.pos
   match <- pyNext it with
   | none=>pure (.done .next)
   | some v =>
    letOwnedTupleGo tg2 it v
    assign tg2 env v
    let mut ok:=true
    for c in ifs2 do
     if ok then ok <- isTrue c env (eval c env)
    if ok then
     (do let _ <- call (.builtin "list.append") [acc,<- eval elt env])
    again (.compLoop (.ListComp elt [⟨tg,iter,ifs,0⟩,⟨tg2,iter2,ifs2,0⟩] scope pos) 1 it acc env)):=by rfl
abbrev k1b (M:Model)(A:Around)(ifs:List Expr)(env:Env)(Q:Bool->Shared->Prop)(s:Shared):Prop :=
 wpAny M A (forIn ifs true λc r=>if r=true then do let ok <- isTrue c env (eval c env);pure (ForInStep.yield ok)else pure (ForInStep.yield r)) Q (λ_ _=>False) s
theorem c1n {elt tg iter tg2 iter2:Expr}{ifs ifs2:List Expr}{scope:Scope}{pos:Pos}{it acc:Value}{env:Env}(J:Nat->Shared->Prop)
  (turn:∀n s,J n s->wpAny (model P w) A (pyNext it) (λr s1=>match r with
   | none=>R (.ok .next) s1
   | some v=>wpAny (model P w) A (letOwnedTupleGo tg2 it v) (λ_ s2=>wpAny (model P w) A (assign tg2 env v) (λ_ s3 =>
     k1b (model P w) A ifs2 env (λok s4 =>
      if ok=true then wpAny (model P w) A (eval elt env) (λx s5=>wpAny (model P w) A (call (.builtin "list.append") [acc,x]) (λ_ s6=>∃m,m<n/\J m s6) (λ_ _=>False) s5) (λ_ _=>False) s4
      else ∃m,m<n/\J m s4) s3) (λ_ _=>False) s2) (λ_ _=>False) s1) (λ_ _=>False) s)
  (n:Nat) (h:J n s):codeAny (model P w) A (.compLoop (.ListComp elt [⟨tg,iter,ifs,0⟩,⟨tg2,iter2,ifs2,0⟩] scope pos) 1 it acc env) R s:=by
 have no:∀ {α:Type} {t:Sem α} {Q Q':α->Shared->Prop} {E:Value->Shared->Prop} {s:Shared},wpAny (model P w) A t Q (λ_ _=>False) s->(∀a s,Q a s->Q' a s)->wpAny (model P w) A t Q' E s :=
  λh hq=>wpAny_mono h hq λ_ _ f=>f.elim
 refine codeAny_loop rfl J (λn s hJ=>?_) n h
 show wpAny _ A ((compTurn (.ListComp elt [⟨tg,iter,ifs,0⟩,⟨tg2,iter2,ifs2,0⟩] scope pos) 1 it acc env).onRaise (λx=>do noteFrame x env;theTreesLotGoes x)) _ _ s
 refine wpAny_noted ?_
 rw[r0u]
 refine wpAny_bind (wpAny_standAt (wpAny_bind (no (turn n s hJ) λr s1 h1=>?_)))
 cases r with
 | none=>exact wpAny_pure h1
 | some v =>
  refine wpAny_bind (no h1 λ_ s2 h2=>wpAny_bind (no h2 λ_ s3 h3=>wpAny_bind (no h3 λok s4 h4=>?_)))
  cases ok with
  | false=>exact wpAny_pure ⟨rfl,h4⟩
  | true=>exact wpAny_bind (wpAny_bind (no h4 λx s5 h5=>wpAny_bind (no h5 λ_ s6 h6=>wpAny_pure (wpAny_pure ⟨rfl,h6⟩))))
theorem c1o {elt tg iter tg2 iter2:Expr}{ifs ifs2:List Expr}{scope:Scope}{pos:Pos}{it acc:Value}{env:Env}(J:Nat->Shared->Prop)(hf:∀x,foldedSetIterable iter2 env x=pure x)
  (turn:∀n s,J n s->wpAny (model P w) A (pyNext it) (λr s1=>match r with
   | none=>R (.ok .next) s1
   | some v=>wpAny (model P w) A (letOwnedTupleGo tg it v) (λ_ s2=>wpAny (model P w) A (assign tg env v) (λ_ s3 =>
     k1b (model P w) A ifs env (λok s4 =>
      if ok=true then wpAny (model P w) A (eval iter2 env) (λx s5=>wpAny (model P w) A (pyIter x) (λitv s6 =>
       codeAny (model P w) A (.compStart (.ListComp elt [⟨tg,iter,ifs,0⟩,⟨tg2,iter2,ifs2,0⟩] scope pos) 1 itv acc env) (λr s7=>r = .ok .next/\∃m,m<n/\J m s7) s6) (λ_ _=>False) s5) (λ_ _=>False) s4
      else ∃m,m<n/\J m s4) s3) (λ_ _=>False) s2) (λ_ _=>False) s1) (λ_ _=>False) s)
  (n:Nat) (h:J n s):codeAny (model P w) A (.compLoop (.ListComp elt [⟨tg,iter,ifs,0⟩,⟨tg2,iter2,ifs2,0⟩] scope pos) 0 it acc env) R s:=by
 have no:∀ {α:Type} {t:Sem α} {Q Q':α->Shared->Prop} {E:Value->Shared->Prop} {s:Shared},wpAny (model P w) A t Q (λ_ _=>False) s->(∀a s,Q a s->Q' a s)->wpAny (model P w) A t Q' E s :=
  λh hq=>wpAny_mono h hq λ_ _ f=>f.elim
 refine codeAny_loop rfl J (λn s hJ=>?_) n h
 show wpAny _ A ((compTurn (.ListComp elt [⟨tg,iter,ifs,0⟩,⟨tg2,iter2,ifs2,0⟩] scope pos) 0 it acc env).onRaise (λx=>do noteFrame x env;theTreesLotGoes x)) _ _ s
 refine wpAny_noted ?_
 rw[r0v]
 refine wpAny_bind (wpAny_standAt (wpAny_bind (no (turn n s hJ) λr s1 h1=>?_)))
 cases r with
 | none=>exact wpAny_pure h1
 | some v =>
  refine wpAny_bind (no h1 λ_ s2 h2=>wpAny_bind (no h2 λ_ s3 h3=>wpAny_bind (no h3 λok s4 h4=>?_)))
  cases ok with
  | false=>exact wpAny_pure ⟨rfl,h4⟩
  | true =>
   refine wpAny_bind (no h4 λx s5 h5=>wpAny_bind (wpAny_standAt (wpAny_bind (wpAny_of_eq (hf x) (wpAny_bind (wpAny_holding (no h5 λitv s6 h6=>?_)))))))
   refine wpAny_bind (wpAny_runOwn (codeAny_mono h6 λr s7 h7=>?_))
   obtain⟨rfl,h7⟩:=h7
   exact wpAny_pure ⟨rfl,h7⟩
theorem p0j {elt tg iter tg2 iter2:Expr}{ifs ifs2:List Expr}{scope:Scope}{pos:Pos}{it acc:Value}{env:Env}
  (h0:codeAny (model P w) A (.compLoop (.ListComp elt [⟨tg,iter,ifs,0⟩,⟨tg2,iter2,ifs2,0⟩] scope pos) 1 it acc env) R s)
  (h:wpAny (model P w) A (pyIter it) (λit' s'=>codeAny (model P w) A (.compLoop (.ListComp elt [⟨tg,iter,ifs,0⟩,⟨tg2,iter2,ifs2,0⟩] scope pos) 1 it' acc env) R s') (notedBy (model P w) A env λx s'=>R (.error x) s') s) :
  codeAny (model P w) A (.compStart (.ListComp elt [⟨tg,iter,ifs,0⟩,⟨tg2,iter2,ifs2,0⟩] scope pos) 1 it acc env) R s:=by
 refine codeAny_of_tree ?_
 show wpAny _ _ ((compStart (.ListComp elt [⟨tg,iter,ifs,0⟩,⟨tg2,iter2,ifs2,0⟩] scope pos) 1 it acc env).onRaise (λx=>do noteFrame x env;standAt theWindowsPlace)) _ _ s
 refine wpAny_notedAt ?_
 unfold compStart
 show wpAny _ _ (ask>>=_) _ _ s
 refine wpAny_bind (wpAny_askSetting (wpAny_ite ?_))
 split
 ·first
   | exact wpAny_bind (wpAny_pure (wpAny_pure (And.intro rfl h0)))
   | exact wpAny_pure (And.intro rfl h0)
 ·first
   | exact wpAny_bind (wpAny_rule (wpAny_bind (wpAny_standAt (wpAny_bind (wpAny_mono h (λit' s' h'=>wpAny_pure (And.intro rfl h')) λ_ _ x=>x)))))
   | (refine wpAny_bind (wpAny_rule ?_);show wpAny _ _ (standAt iter2.pos>>=_) _ _ s;exact wpAny_bind (wpAny_standAt (wpAny_bind (wpAny_mono h (λit' s' h'=>wpAny_pure (And.intro rfl h')) λ_ _ x=>x))))
end
def j1r (J:It)(g:TG)(tc:TT)(te:TE)(N:List V->Hp->Prop)(σ:St)(ys0:List V)(H1:Hp):Prop:=∃W:Nat->Nat->List V->Hp->Prop,(∃m,W 0 m ys0 H1)/\∀i m ys H,W i m ys H ->
 (J.stop i H/\N ys H) ∨
 (J.go i H/\ys.length<sizeLine/\∃N2:List V->Hp->Prop,(∀zs H',N2 zs H'->∃m',m'<m/\W (i+1) m' zs H')/\∀x H',J.yld i H x H'->g x σ H' λσ2 H2=>(σ2.length=σ.length/\∀(j:Nat) v,σ[j]? = some (some v)->σ2[j]? = some (some v))/\tc σ2 H2 λb H3 =>
  if b=true then te σ2 H3 λv H4=>N2 (ys++[v]) H4 else N2 ys H3)
def g1v (J:It)(n:Nat)(js:List Nat)(g:TG)(tc:TT)(wi2:TI)(g2:TG)(tc2:TT)(te:TE)(Q:VK)(σ:St)(H1:Hp):Prop:=∃W:Nat->Nat->List V->Hp->Prop,(∃m,W 0 m [] H1)/\∀i m ys H,W i m ys H ->
 (J.stop i H/\ys.length<=sizeLine/\∀l,H l=none->Q (.ref l) (upd H l (.lst ys))) ∨
 (J.go i H/\∃N:List V->Hp->Prop,(∀zs H',N zs H'->∃m',m'<m/\W (i+1) m' zs H')/\∀x H',J.yld i H x H'->g x (bst n σ js) H' λσ2 H2=>σ2.drop n=capt σ js/\tc σ2 H2 λb H3 =>
  if b=true then wi2 σ2 H3 λJ2 H4=>j1r J2 g2 tc2 te N σ2 ys H4 else N ys H3)
def f1v (n:Nat)(js:List Nat)(wi:TI)(g:TG)(tc:TT)(wi2:TI)(g2:TG)(tc2:TT)(te:TE):TE:=λσ H Q=>wi σ H λJ H1=>g1v J n js g tc wi2 g2 tc2 te Q σ H1
section
variable {Y:Cx}
theorem y0x {elt tg iter tg2 iter2:Expr}{ifs ifs2:List Expr}{scope:Scope}{pos:Pos}{g2:TG}{tc2:TT}{te:TE}{N:List V->Hp->Prop}{D:Addr}{pl:List (Addr×Obj)}{σ:St}{itv:Value}{ys:List V}{its:List Value}{k:Nat}{s:Shared}
  {RR:Result->Shared->Prop} (xe:Y.xe=λ_ _=>False) (hc:Y.calm=true) (hg:PG Y tg2 g2) (ht:PTs Y ifs2 tc2) (he:PE Y elt te)
  (szD:Y.s₀.heap.objs.size<=D) (neDL:D≠Y.env.locals) (notFs:D∉Y.fs) (clB:∀x d,Y.env.cells.lookup x=some d->d≠D) (plD:∀p∈Y.pn++pl,p.1≠D)
  (h:PIE Y ((D,{cls:=.type "list",data:=.seq its.toArray k})::pl) σ tg2 (λJ H1=>j1r J g2 tc2 te N σ ys H1) itv s) (r0:Vals ys its)
  (hR:∀zs its' k' H' s',Inv Y pl σ H' s'->Vals zs its'->s'.heap.get? D=some {cls:=.type "list",data:=.seq its'.toArray k'}->H' D=none->N zs H'->RR (.ok .next) s') :
  codeAny (model Y.prog Y.w) Y.A (.compStart (.ListComp elt [⟨tg,iter,ifs,0⟩,⟨tg2,iter2,ifs2,0⟩] scope pos) 1 itv (.ref D) Y.env) RR s:=by
 obtain⟨it,fp,tn,J,H2,rfl,I2,T,st2,f2,W,⟨m0,w0⟩,turn⟩:=h
 have plN:∀p∈pl,p.1≠D:=λp hp=>plD p (List.mem_append_right _ hp)
 have fpD:∀b∈fp,b≠D:=λb hb=>((f2 b hb).2.2.2.2.2 (D,{cls:=.type "list",data:=.seq its.toArray k}) (List.mem_append_right _ (List.mem_cons_self ..))).symm
 have p0:=I2.pin (D,{cls:=.type "list",data:=.seq its.toArray k}) (List.mem_append_right _ (List.mem_cons_self ..))
 have f2':∀(its':List Value) (k':Nat) {H':Hp},(∀b∈fp,H' b=none)->∀b∈fp,FpOk Y ((D,{cls:=.type "list",data:=.seq its'.toArray k'})::pl) H' b:=λits' k' {H'} hn b hb=>by
  obtain⟨f0,f1,f3,f4,f5,f6⟩:=f2 b hb
  refine⟨hn b hb,f1,f3,f4,f5,λp hp=>?_⟩
  rcases List.mem_append.mp hp with z | z
  ·exact f6 p (List.mem_append_left _ z)
  ·rcases List.mem_cons.mp z with z | z
   ·rw[z];exact(fpD b hb).symm
   ·exact f6 p (List.mem_append_right _ (List.mem_cons_of_mem _ z))
 have loop:codeAny (model Y.prog Y.w) Y.A (.compLoop (.ListComp elt [⟨tg,iter,ifs,0⟩,⟨tg2,iter2,ifs2,0⟩] scope pos) 1 (.ref it) (.ref D) Y.env) RR s:=by
  refine c1n (λn s'=>∃(i:Nat) (ys:List V) (its:List Value) (k:Nat) (H':Hp),Inv Y pl σ H' s'/\tn i s'.heap/\(∀b∈fp,H' b=none)/\H' D=none/\Vals ys its /\
   s'.heap.get? D=some {cls:=.type "list",data:=.seq its.toArray k}/\W i n ys H') ?_ m0 ⟨0,ys,its,k,H2,I2.pins_of λp hp=>I2.pin p (List.mem_append_right _ (List.mem_cons_of_mem _ hp)),st2,λb hb=>(f2 b hb).1,p0.2.1,r0,p0.1,w0⟩
  rintro n s3 ⟨i,ys,its,k,H3,I3,st3,fr3,hD3,r3,g3,w3⟩
  have I3p:Inv Y ((D,{cls:=.type "list",data:=.seq its.toArray k})::pl) σ H3 s3:=I3.pins_of λp hp=>by
   rcases List.mem_cons.mp hp with z | z
   ·subst z
    exact⟨g3,hD3,neDL,notFs,λv z=>by cases z⟩
   ·exact I3.pin p (List.mem_append_right _ z)
  have f3:=f2' its k fr3
  rcases turn i n ys H3 w3 with⟨stop,qn⟩ | ⟨go,hz,N2,hN,step⟩
  ·refine thn (T.done Y rfl rfl rfl hc i _ s3 _ H3 (λ_ _=>False) I3p f3 st3 stop) λr s4 ⟨hr,I4⟩=>?_
   subst hr
   have g4:=I4.pin (D,{cls:=.type "list",data:=.seq its.toArray k}) (List.mem_append_right _ (List.mem_cons_self ..))
   exact hR ys its k H3 s4 (I4.pins_of λp hp=>I4.pin p (List.mem_append_right _ (List.mem_cons_of_mem _ hp))) r3 g4.1 hD3 qn
  ·refine thn (T.item Y rfl rfl rfl hc i _ s3 _ H3 (λ_ _=>False) I3p f3 st3 go) λr s4 ⟨u,hr,h4⟩=>?_
   subst hr
   refine thn h4 λ_ s5 ⟨x,H5,I5,r5,y5,st5,fr5⟩=>?_
   have I5':=I5.pinned (f2' its k fr5) (T.obj _ _ st5)
   refine thn (xe▸hg _ s5 _ H5 x u _ I5' r5 (step x H5 y5)) λ_ s6 ⟨σ6,H6,I6,⟨l6,d6⟩,q6⟩=>?_
   refine thn (xe▸ht _ s6 σ6 H6 _ I6 q6) λok s7 ⟨H7,I7,q7⟩=>?_
   have after:∀ {s8:Shared} {H8:Hp},Inv Y ((D,{cls:=.type "list",data:=.seq its.toArray k})::pl++i0y fp s5.heap) σ6 H8 s8 ->
     s8.heap.get? D=some {cls:=.type "list",data:=.seq its.toArray k}/\H8 D=none/\tn (i+1) s8.heap/\(∀b∈fp,H8 b=none)/\Inv Y pl σ H8 s8:=λ{s8 H8} I8=>by
    have p8:=I8.pin (D,{cls:=.type "list",data:=.seq its.toArray k}) (List.mem_append_right _ (List.mem_append_left _ (List.mem_cons_self ..)))
    refine⟨p8.1,p8.2.1,T.keep _ _ _ st5 λb hb o e=>(I8.pin (b,o) (List.mem_append_right _ (List.mem_append_right _ (d0l hb e)))).1,λb hb=>?_,?_⟩
    ·obtain⟨o,e,_⟩:=T.obj _ _ st5 b hb
     exact(I8.pin (b,o) (List.mem_append_right _ (List.mem_append_right _ (d0l hb e)))).2.1
    ·exact(I8.pins_of (pins':=pl) λp hp=>I8.pin p (List.mem_append_right _ (List.mem_append_left _ (List.mem_cons_of_mem _ hp)))).weak l6.symm d6
   cases ok with
   | false =>
    rw[if_neg Bool.false_ne_true]at q7 ⊢
    obtain⟨m',hm,w7⟩:=hN _ _ q7
    obtain⟨a1,a2,a3,a4,a5⟩:=after I7
    exact⟨m',hm,i+1,ys,its,k,H7,a5,a3,a4,a2,r3,a1,w7⟩
   | true =>
    rw[if_pos rfl]at q7 ⊢
    refine thn (xe▸he _ s7 σ6 H7 _ I7 q7) λu8 s8 ⟨v8,H8,I8,r8,n8⟩=>?_
    obtain⟨m',hm,w8⟩:=hN _ _ n8
    obtain⟨a1,a2,a3,a4,a5⟩:=after I8
    have hsz:its.toArray.size<sizeLine:=by rw[List.size_toArray,<- r3.length];exact hz
    refine call_meets F.slot_list_append ⟨_,a1,rfl⟩ F.entry_list_append (F.args_list_append_2 _ _) (PySem.list_append D its.toArray k u8 (Nat.le_of_lt hsz)) ⟨a1,?_⟩
    have q9:=PySem.IsL.update a1 (λxs=>xs.push u8)
    have sb:Heap.SameBut D s8.heap (s8.heap.update D (Obj.mapSeq λxs=>xs.push u8)):=Heap.SameBut.update ..
    have I9:=a5.young sb a2 szD neDL clB plD
    have fin:∃k',(s8.heap.update D (Obj.mapSeq λxs=>xs.push u8)).get? D=some {cls:=.type "list",data:=.seq (its++[u8]).toArray k'}:=⟨_,by
     rw[show(its++[u8]).toArray=its.toArray.push u8 by simp]
     exact q9⟩
    obtain⟨k',fin⟩:=fin
    exact⟨m',hm,i+1,ys++[v8],its++[u8],k',H8,I9,T.keep _ _ _ a3 (λb hb o e=>(sb.2 b (fpD b hb)).trans e),a4,a2,r3.append (.cons r8 .nil),fin,w8⟩
 exact p0j loop (T.self _ 0 _ _ _ st2 loop)
end
section
variable {X:Cx}
theorem w0a {elt tg iter tg2 iter2:Expr}{ifs ifs2:List Expr}{scope:Scope}{pos:Pos}{own:List Str}{js:List Nat}{g g2:TG}{tc tc2:TT}{wi2:TI}{te:TE}{Q:VK}{pins:List (Addr×Obj)}{σ:St}{s2:Shared}{itv:Value}{E:Value->Shared->Prop}
  {RR:Value->Addr->Result->Shared->Prop} (hc:X.calm=true) (B:Blk X scope own js) (hg:∀s H C fp,(own++capN X.N js).Nodup->PG (blk X scope (own++capN X.N js) s H C fp) tg g) (ht:∀s H C fp,PTs (blk X scope (own++capN X.N js) s H C fp) ifs tc)
  (hi2:∀s H C fp,PI (blk X scope (own++capN X.N js) s H C fp) tg2 iter2 wi2) (hg2:∀s H C fp,(own++capN X.N js).Nodup->PG (blk X scope (own++capN X.N js) s H C fp) tg2 g2) (ht2:∀s H C fp,PTs (blk X scope (own++capN X.N js) s H C fp) ifs2 tc2) (hs2:∀s H C fp x,foldedSetIterable iter2 (blk X scope (own++capN X.N js) s H C fp).env x=pure x)
  (he:∀s H C fp,PE (blk X scope (own++capN X.N js) s H C fp) elt te)
  (h:PIE X pins σ tg (λJ H1=>g1v J own.length js g tc wi2 g2 tc2 te Q σ H1) itv s2)
  (hR:∀C acc s',d1n X pins σ Q C acc s'->RR acc C (.ok .next) s') :
  wpAny (model X.prog X.w) X.A (newList []) (λacc s3=>wpAny (model X.prog X.w) X.A (newFunctionEnv scope X.env.globals (f0x scope X.env) [] X.env.qual none .none (some X.env)) (λcenv s4 =>
   codeAny (model X.prog X.w) X.A (.compStart (.ListComp elt [⟨tg,iter,ifs,0⟩,⟨tg2,iter2,ifs2,0⟩] scope pos) 0 itv acc {cenv with scope:=relabel scope X.env}) (RR acc cenv.locals) s4) E s3) E s2:=by
 obtain⟨it,fp,tn,J,H2,rfl,I2,T,st2,f2,W,⟨m0,w0⟩,turn⟩:=h
 refine wpAny_newObj_type (wpAny_newFunctionEnv B.nocell (by intro y hy;simp at hy) (λh1 hns1 hsb1=>?_) B.kind)
 generalize hPu:s2.heap.push {cls:=.type "list",dict:=none,data:=.seq ([]:List Value).toArray}=Pu at hns1 hsb1 ⊢
 dsimp only at hns1 hsb1 ⊢
 have hDC:Pu.objs.size=s2.heap.objs.size+1:=by rw[<- hPu,Heap.size_push]
 generalize hD:s2.heap.objs.size=D at hDC ⊢
 have gD:Pu.get? D=some {cls:=.type "list",dict:=none,data:=.seq ([]:List Value).toArray}:=by
  rw[<- hPu,<- hD];exact Heap.get?_push_size _ rfl
 generalize hC:Pu.objs.size=C at hns1 hsb1 hDC ⊢
 have ltDC:D<C:=by rw[hDC];exact Nat.lt_succ_self D
 have neDC:D≠C:=Nat.ne_of_lt ltDC
 have keep1:∀b o,s2.heap.get? b=some o->h1.get? b=some o:=λb o e=>by
  have hb:b<D:=by rw[<- hD];exact Heap.lt_size e
  have hb2:b≠C:=Nat.ne_of_lt (Nat.lt_trans hb ltDC)
  refine(hsb1.2 b hb2).trans (Heap.get?_push_of_some _ ?_)
  rw[<- hPu]
  exact Heap.get?_push_of_some _ e
 have gD1:h1.get? D=some {cls:=.type "list",dict:=none,data:=.seq ([]:List Value).toArray}:=(hsb1.2 D neDC).trans (Heap.get?_push_of_some _ gD)
 have szD:s2.heap.objs.size<=D:=Nat.le_of_eq hD
 have szC:s2.heap.objs.size<=C:=Nat.le_trans szD (Nat.le_of_lt ltDC)
 have old:∀ {b:Addr},b<s2.heap.objs.size->b≠D/\b≠C:=λhb=>⟨Nat.ne_of_lt (Nat.lt_of_lt_of_le hb szD),Nat.ne_of_lt (Nat.lt_of_lt_of_le hb szC)⟩
 have fpo:∀b∈fp,∃o,s2.heap.get? b=some o:=λb hb=>let ⟨o,e,_⟩:=T.obj 0 _ st2 b hb;⟨o,e⟩
 have fpD:∀b∈fp,b≠D/\b≠C:=λb hb=>by
  obtain⟨o,e⟩:=fpo b hb
  exact old (Heap.lt_size e)
 have clD:∀x d,X.env.cells.lookup x=some d->d≠D/\d≠C:=λx d e=>by
  obtain⟨v,o,ho,_⟩:=I2.cell x d e
  exact old (Heap.lt_size ho)
 have pinD:∀p∈X.pn++pins,p.1≠D/\p.1≠C:=λp hp=>by
  exact old (Heap.lt_size (I2.pin p hp).1)
 have locD:D≠X.env.locals/\C≠X.env.locals:=by
  exact⟨(old I2.lt).1.symm,(old I2.lt).2.symm⟩
 let Y:=blk X scope (own++capN X.N js) s2 H2 C fp
 have IB:Inv Y [] (bst own.length σ js) H2 {s2 with heap:=h1,toks:=s2.toks+([]:List (Str×Value)).length}:=c1x B I2 f2 fpo szC hns1 keep1
 have fpB:∀ {H':Hp} {pl:List (Addr×Obj)},(∀b∈fp,H' b=none)->(∀p∈pl,p.1=D)->∀b∈fp,FpOk Y pl H' b:=λ{H' pl} hn hp b hb=>by
  obtain⟨f0,f1,f3,f4,f5,f6⟩:=f2 b hb
  refine⟨hn b hb,(fpD b hb).2,λz=>?_,.inl hb,λx c e=>f5 x c (f0p e),λp q=>?_⟩
  ·rcases List.mem_cons.mp (I2.stkSub b z)with z | z
   ·exact f1 z
   ·exact f3 z
  ·have q':p∈pl:=by simpa [Y,blk] using q
   rw[hp p q']
   exact(fpD b hb).1.symm
 have clB:∀x d,Y.env.cells.lookup x=some d->d≠D:=λx d e=>(clD x d (f0p e)).1
 have notFs:D∉Y.fs:=λz=>by
  obtain⟨_,o,ho,_⟩:=IB.ok.funs.mem z
  exact(old (Heap.lt_size (show s2.heap.get? D=some o from ho))).1 rfl
 have loop:∀s3:Shared,s3={s2 with heap:=h1,toks:=s2.toks+([]:List (Str×Value)).length} ->
   codeAny (model X.prog X.w) X.A (.compLoop (.ListComp elt [⟨tg,iter,ifs,0⟩,⟨tg2,iter2,ifs2,0⟩] scope pos) 0 (.ref it) (.ref D) (compEnvC scope (f0x scope X.env) C X.env)) (RR (.ref D) C) s3:=by
  rintro s3 rfl
  refine c1o (λn s'=>∃(i:Nat) (ys:List V) (its:List Value) (k:Nat) (H':Hp),Inv Y [] (bst own.length σ js) H' s'/\tn i s'.heap/\(∀b∈fp,H' b=none)/\H' D=none/\Vals ys its /\
   s'.heap.get? D=some {cls:=.type "list",data:=.seq its.toArray k}/\W i n ys H') (hs2 s2 H2 C fp) ?_ m0 ⟨0,[],[],0,H2,IB,T.keep 0 _ _ st2 (λb hb o e=>keep1 b o e),λb hb=>(f2 b hb).1,I2.hok.fresh szD,.nil,gD1,w0⟩
  rintro n s3 ⟨i,ys,its,k,H3,I3,st3,fr3,hD3,r3,g3,w3⟩
  have I3p:Inv Y [(D,{cls:=.type "list",data:=.seq its.toArray k})] (bst own.length σ js) H3 s3:=I3.pins_of λp hp=>by
   have e:p=(D,{cls:=.type "list",data:=.seq its.toArray k}):=by simpa using hp
   subst e
   exact⟨g3,hD3,neDC,notFs,λv z=>by cases z⟩
  have f3:∀b∈fp,FpOk Y [(D,{cls:=.type "list",data:=.seq its.toArray k})] H3 b:=fpB fr3 λp hp=>by
   have e:p=(D,{cls:=.type "list",data:=.seq its.toArray k}):=by simpa using hp
   rw[e]
  rcases turn i n ys H3 w3 with⟨stop,hz,qn⟩ | ⟨go,N,hN,step⟩
  ·refine thn (T.done Y rfl rfl rfl hc i _ s3 _ H3 (λ_ _=>False) I3p f3 st3 stop) λr s4 ⟨hr,I4⟩=>?_
   subst hr
   refine hR C _ s4 ?_
   have g4:=(I4.pin (D,{cls:=.type "list",data:=.seq its.toArray k}) (by simp[Y,blk])).1
   obtain⟨m,hn4,_⟩:=id I4.loc
   have un:Un (frs X.stack) fp H2 H3 s2.heap s4.heap:=I4.base
   have I5:Inv X pins σ H3 s4:=I2.call' I4.os un I4.hok I4.bare λb hb=>let ⟨_,b1,_,b3,b4,b5⟩:=f2 b hb;⟨b3,b1,b4,b5⟩
   have I6:=I5.track (ys:=ys) (its:=its) (n:=k) hD3 (Nat.le_trans I2.sz szD) locD.1 (λx d e=>(clD x d e).1) (λp hp=>(pinD p hp).1) hz r3 g4
   refine⟨D,_,m,rfl,hn4,I6,?_,Nat.le_trans I2.sz szC,locD.2,λx d e=>(clD x d e).2,λp hp=>(pinD p hp).2,qn D hD3⟩
   rw[b0l (Ne.symm neDC)]
   exact I4.free
  ·refine thn (T.item Y rfl rfl rfl hc i _ s3 _ H3 (λ_ _=>False) I3p f3 st3 go) λr s4 ⟨u,hr,h4⟩=>?_
   subst hr
   refine thn h4 λ_ s5 ⟨x,H5,I5,r5,y5,st5,fr5⟩=>?_
   have f5:∀b∈fp,FpOk Y [(D,{cls:=.type "list",data:=.seq its.toArray k})] H5 b:=λb hb=>⟨fr5 b hb,(f3 b hb).2⟩
   have I5':=I5.pinned f5 (T.obj _ _ st5)
   refine thn (hg s2 H2 C fp B.nd _ s5 _ H5 x u _ I5' r5 (step x H5 y5)) λ_ s6 ⟨σ6,H6,I6,d6,q6⟩=>?_
   refine thn (ht s2 H2 C fp _ s6 σ6 H6 _ I6 q6) λok s7 ⟨H7,I7,q7⟩=>?_
   have after:∀ {s8:Shared} {H8:Hp} {its:List Value} {k:Nat},Inv Y ([(D,{cls:=.type "list",data:=.seq its.toArray k})]++i0y fp s5.heap) σ6 H8 s8 ->
     s8.heap.get? D=some {cls:=.type "list",data:=.seq its.toArray k}/\H8 D=none/\tn (i+1) s8.heap/\(∀b∈fp,H8 b=none)/\Inv Y [] (bst own.length σ js) H8 s8:=λ{s8 H8 its k} I8=>by
    have p8:=I8.pin (D,{cls:=.type "list",data:=.seq its.toArray k}) (by simp[Y,blk])
    refine⟨p8.1,p8.2.1,T.keep _ _ _ st5 λb hb o e=>(I8.pin (b,o) (List.mem_append_right _ (List.mem_append_right _ (d0l hb e)))).1,λb hb=>?_,?_⟩
    ·obtain⟨o,e,_⟩:=T.obj _ _ st5 b hb
     exact(I8.pin (b,o) (List.mem_append_right _ (List.mem_append_right _ (d0l hb e)))).2.1
    ·refine(I8.pins_of (pins':=[]) λp hp=>absurd hp (by simp[Y,blk])).weak ?_ λj v e=>?_
     ·rw[I8.len,k0q]
      show _=(own++capN X.N js).length
      unfold capN
      simp
     ·rcases Nat.lt_or_ge j own.length with z | z
      ·exfalso
       unfold bst at e
       rw[List.getElem?_append_left (by simpa using z),List.getElem?_replicate]at e
       split at e <;> cases e
      ·unfold bst at e
       rw[List.getElem?_append_right (by simpa using z),List.length_replicate,<- d6,List.getElem?_drop]at e
       rw[<- e]
       congr 1
       omega
   cases ok with
   | false =>
    rw[if_neg Bool.false_ne_true]at q7 ⊢
    obtain⟨m',hm,w7⟩:=hN _ _ q7
    obtain⟨a1,a2,a3,a4,a5⟩:=after I7
    exact⟨m',hm,i+1,ys,its,k,H7,a5,a3,a4,a2,r3,a1,w7⟩
   | true =>
    rw[if_pos rfl]at q7 ⊢
    refine thn (hi2 s2 H2 C fp _ s7 σ6 H7 _ I7 q7) λv8 s8 h8=>thn h8 λitv s9 h9=>?_
    refine y0x (Y:=Y) (pl:=i0y fp s5.heap) rfl hc (hg2 s2 H2 C fp B.nd) (ht2 s2 H2 C fp) (he s2 H2 C fp) szD neDC notFs clB (λp hp=>?_) h9 r3 λzs its' k' H' s' I' r' g' d' n'=>⟨rfl,?_⟩
    ·have hp':p∈i0y fp s5.heap:=by simpa [Y,blk] using hp
     exact(fpD p.1 (t0b hp').1).1
    ·obtain⟨m',hm,w8⟩:=hN _ _ n'
     have I'p:Inv Y ([(D,{cls:=.type "list",data:=.seq its'.toArray k'})]++i0y fp s5.heap) σ6 H' s':=I'.pins_of λp hp=>by
      rcases List.mem_append.mp hp with z | z
      ·have e:p=(D,{cls:=.type "list",data:=.seq its'.toArray k'}):=by simpa using z
       subst e
       exact⟨g',d',neDC,notFs,λv z=>by cases z⟩
      ·exact I'.pin p (List.mem_append_right _ z)
     obtain⟨a1,a2,a3,a4,a5⟩:=after I'p
     exact⟨m',hm,i+1,zs,its',k',H',a5,a3,a4,d',r',g',w8⟩
 exact codeAny_compStart_list (loop _ rfl) (T.self _ 0 _ _ _ (T.keep 0 _ _ st2 λb hb o e=>keep1 b o e) (loop _ rfl))
theorem e1i {elt tg iter tg2 iter2:Expr}{ifs ifs2:List Expr}{scope:Scope}{pos:Pos}(own:List Str)(js:List Nat){wi wi2:TI}{g g2:TG}{tc tc2:TT}{te:TE}(hc:X.calm=true)(B:Blk X scope own js)(hi:PI X tg iter wi)
  (hg:∀s H C fp,(own++capN X.N js).Nodup->PG (blk X scope (own++capN X.N js) s H C fp) tg g) (ht:∀s H C fp,PTs (blk X scope (own++capN X.N js) s H C fp) ifs tc)
  (hi2:∀s H C fp,PI (blk X scope (own++capN X.N js) s H C fp) tg2 iter2 wi2) (hg2:∀s H C fp,(own++capN X.N js).Nodup->PG (blk X scope (own++capN X.N js) s H C fp) tg2 g2) (ht2:∀s H C fp,PTs (blk X scope (own++capN X.N js) s H C fp) ifs2 tc2) (he:∀s H C fp,PE (blk X scope (own++capN X.N js) s H C fp) elt te)
  (hs:∀x,foldedSetIterable iter X.env x=pure x:=by intro _;rfl) (hs2:∀s H C fp x,foldedSetIterable iter2 (blk X scope (own++capN X.N js) s H C fp).env x=pure x:=by intros;rfl):PE X (.ListComp elt [⟨tg,iter,ifs,0⟩,⟨tg2,iter2,ifs2,0⟩] scope pos) (f1v own.length js wi g tc wi2 g2 tc2 te):=by
 intro pins s σ H Q I h
 have hcl:closureFor scope X.env=pure (f0x scope X.env):=g0o λx hx hf=>I.ok.has x.1 (B.free x hx hf)
 rw[eval_ListComp]
 refine wpAny_comprehension_free (use:=none) rfl hs hcl B.kind B.names (thn (hi pins s σ H _ I h) λv s1 h1=>thn h1 λitv s2 h2=>?_)
 refine w0a (RR:=λacc C=>compPost (model X.prog X.w) X.A X.xe none (EP X pins σ Q) acc C) hc B hg ht hi2 hg2 ht2 hs2 he h2 λC acc s' hb=>?_
 obtain⟨D,H',m,rfl,hn,I',c1,c2,c3,c4,c5,q⟩:=hb
 exact⟨m,hn,λh' hs'=>⟨.ref D,H',I'.young hs' c1 c2 c3 c4 c5,rfl,q⟩⟩
end
def l0r (n2:Nat)(c:En->Prop)(g:AG)(tc:AT)(te:AE)(k:List D->En->Prop):List D->List D->En->Prop
 | [],acc,ρ=>c ρ/\k acc ρ
 | d::ds,acc,ρ=>c ρ/\acc.length<=1000000/\g d ρ λρ1=>tc ρ1 λb ρ2=>if b=true then te ρ2 λr ρ3=>sto [r.frz] ρ3 λes ρ4=>l0r n2 c g tc te k ds (acc++es) (List.replicate n2 .un++ρ4.drop n2)else l0r n2 c g tc te k ds acc (List.replicate n2 .un++ρ2.drop n2)
def m0z (n2 n:Nat)(js:List Nat)(c:En->Prop)(g:AG)(tc:AT)(i2:AI)(g2:AG)(tc2:AT)(te:AE)(q:List D->En->Prop):List D->List D->En->Prop
 | [],acc,ρ=>c ρ/\acc.length<=1000000/\q acc ρ
 | d::ds,acc,ρ=>c ρ/\g d (blkE n js ρ) λρ1=>tc ρ1 λb ρ2=>if b=true then i2 ρ2 λds2 c2 ρ3=>l0r n2 c2 g2 tc2 te (λacc' ρ4=>m0z n2 n js c g tc i2 g2 tc2 te q ds acc' (back ρ (js.map R.o) (ρ4.drop n))) ds2 acc ρ3 else m0z n2 n js c g tc i2 g2 tc2 te q ds acc (back ρ (js.map R.o) (ρ2.drop n))
def m1n (n2 n:Nat)(js:List Nat)(i:AI)(g:AG)(tc:AT)(i2:AI)(g2:AG)(tc2:AT)(te:AE):AE:=λρ q=>i ρ λds c ρ1=>m0z n2 n js c g tc i2 g2 tc2 te (λacc ρ2=>q (.f acc) ρ2) ds [] ρ1
section
variable {K:PySem.W.Frag}
theorem z0p {n2:Nat}{g2:TG}{tc2:TT}{te:TE}{ag2:AG}{atc2:AT}{ate:AE}(hg:TGok K (λj=>decide (n2<=j)) g2 ag2)(hc:TTok K tc2 atc2)(he:TEok K te ate)
  {F:Fr} {σ:St} {ρ:En} {H:Hp} {J:It} {ds:List D} {c:En->Prop} {k:List D->En->Prop} {N:List V->Hp->Prop} {ys:List V} {acc:List D}
  (hpin:∀i a,F.pin i a->n2<=i) (hn:n2<=σ.length) (h0:σ=List.replicate n2 none++σ.drop n2) (r:Rel K F σ ρ H)
  (wk:∀ ρ2 H2,Same (hid H (hs F σ ρ)) (hid H2 (hs F σ ρ2))->(∀i,SvOk K (hid H2 (hs F σ ρ2)) H2 σ[i]? (gt ρ2 i))->(∀a,hs F σ ρ2 a->Nt H2 a)->c ρ2->WkAt K (hs F σ ρ2) H2 J ds)
  (rd:RepDs K (hid H (hs F σ ρ)) ys acc) (h:l0r n2 c ag2 atc2 ate k ds acc ρ)
  (kk:∀acc' ρ' ys' H',k acc' ρ'->Rel K F σ ρ' H'->Kp σ ρ ρ' H H'->RepDs K (hid H' (hs F σ ρ')) ys' acc'->N ys' H'):j1r J g2 tc2 te N σ ys H:=by
 refine⟨λi m ys H'=>∃ ρ' acc,m=ds.length - i/\i<=ds.length/\Rel K F σ ρ' H'/\Kp σ ρ ρ' H H'/\RepDs K (hid H' (hs F σ ρ')) ys acc/\l0r n2 c ag2 atc2 ate k (ds.drop i) acc ρ',⟨ds.length,ρ,acc,rfl,Nat.zero_le _,r,.refl,rd,h⟩,?_⟩
 rintro i m ys H' ⟨ρ',acc,rfl,hl,r',k',rd,h'⟩
 have w:c ρ'->WkAt K (hs F σ ρ') H' J ds:=λhc=>wk ρ' H' k'.vis r'.sl (λa z=>e1s r' z) hc
 rcases Nat.lt_or_ge i ds.length with lt | ge
 ·right
  rw[List.drop_eq_getElem_cons lt]at h'
  unfold l0r at h'
  obtain⟨hcc,hz,h'⟩:=h'
  obtain⟨go,yld⟩:=(w hcc i).1 ds[i] (List.getElem?_eq_getElem lt)
  have yl:ys.length=acc.length:=rd.length
  refine⟨go,a1e (by omega),λzs H2=>∃ ρ2 acc2,Rel K F σ ρ2 H2/\Kp σ ρ ρ2 H H2/\RepDs K (hid H2 (hs F σ ρ2)) zs acc2/\l0r n2 c ag2 atc2 ate k (ds.drop (i+1)) acc2 ρ2,
   λzs H2 ⟨ρ2,acc2,a1,a2,a3,a5⟩=>⟨ds.length - (i+1),by omega,ρ2,acc2,rfl,lt,a1,a2,a3,a5⟩,λx H2 hy=>?_⟩
  obtain⟨sm,rx⟩:=yld x H2 hy
  have k':Kp σ ρ ρ' H H2:=k'.trans ⟨λa o e _=>sm a o e,λ_ h=>h⟩
  have rd:RepDs K (hid H2 (hs F σ ρ')) ys acc:=rd.same (c0a λa o e n=>⟨sm a o e,n⟩)
  have r':=r'.grow sm
  refine hg F σ ρ' H2 x _ _ _ (λi a h=>decide_eq_true (hpin i a h)) r' rx h' λσ3 ρ3 h3 r3 l3 p3 o3=>?_
  have drop3:σ3.drop n2=σ.drop n2:=by
   apply List.ext_getElem?
   intro i
   rw[List.getElem?_drop,List.getElem?_drop]
   exact p3 (n2+i) (decide_eq_true (Nat.le_add_right ..))
  have ret:∀ ρ4 H4,Rel K F σ3 ρ4 H4->Kp σ3 ρ3 ρ4 H2 H4->Rel K F σ (List.replicate n2 .un++ρ4.drop n2) H4/\Kp σ ρ' (List.replicate n2 .un++ρ4.drop n2) H2 H4/\Same (hid H4 (hs F σ3 ρ4)) (hid H4 (hs F σ (List.replicate n2 .un++ρ4.drop n2))):=λρ4 H4 r4 k4=>by
   obtain⟨f1,f2⟩:=r4.forget (n:=n2) (by omega) hpin
   rw[drop3,<- h0]at f1 f2
   refine⟨f1,⟨λa o e n=>k4.st a o e λ⟨j,hj,ej⟩=>?_,λj hj=>?_⟩,f2⟩
   ·obtain⟨b1,b2⟩:=o3 j hj
    rw[b2]at ej
    exact n ⟨j,b1,ej⟩
   ·rw[t0m]at hj
    split at hj
    ·cases hj
    ·rename_i hnj
     rw[o0g,show n2+(j - n2)=j by omega]at hj
     exact(o3 j (k4.sb j hj)).1
  refine⟨⟨l3,λj v e=>?_⟩,hc F σ3 ρ3 H2 _ _ r3 h3 λb ρ4 H4 h4 r4 k4=>?_⟩
  ·rcases Nat.lt_or_ge j n2 with z | z
   ·exfalso
    rw[h0,List.getElem?_append_left (by simpa using z),List.getElem?_replicate]at e
    split at e <;> cases e
   ·rw[p3 j (decide_eq_true z)];exact e
  ·cases b with
   | false =>
    obtain⟨b1,b2,_⟩:=ret ρ4 H4 r4 k4
    exact⟨_,acc,b1,k'.trans b2,rd.same b2.vis,h4⟩
   | true =>
    refine he F σ3 ρ4 H4 _ _ r4 h4 λr5 ρ5 v H5 h5 o5=>?_
    obtain⟨r5',k5,i5⟩:=o5.inF
    obtain⟨d,ρ6,h6,r6,k6,rv⟩:=z0z r5' i5 h5
    obtain⟨b1,b2,b3⟩:=ret ρ6 H5 r6 (k4.trans (k5.trans k6))
    exact⟨_,acc++[d],b1,k'.trans b2,(rd.same b2.vis).append (.one (rv.same b3)),h6⟩
 ·left
  rw[List.drop_eq_nil_of_le ge]at h'
  unfold l0r at h'
  obtain⟨hcc,h'⟩:=h'
  exact⟨(w hcc i).2 ge,kk acc ρ' ys H' h' r' k' rd⟩
theorem z0q {n2 n:Nat}{js:List Nat}{wi wi2:TI}{g g2:TG}{tc tc2:TT}{te:TE}{ai ai2:AI}{ag ag2:AG}{atc atc2:AT}{ate:AE}(hi:TIok K (λ_=>true) wi ai)(hg:TGok K (λj=>decide (j<n2)||decide (n<=j)) g ag)(hc:TTok K tc atc)
  (hi2:TIok K (λ_=>true) wi2 ai2) (hg2:TGok K (λj=>decide (n2<=j)) g2 ag2) (hc2:TTok K tc2 atc2) (he:TEok K te ate)
  (hn:n2<=n:=by decide) (hd:dis (js.map R.o)=true:=by rfl):TEok K (f1v n js wi g tc wi2 g2 tc2 te) (m1n n2 n js ai ag atc ai2 ag2 atc2 ate):=by
 intro F σ ρ H q Q r h k
 refine hi F σ ρ H _ _ r h λds c ρ1 J H1 h1 r1 k1 wk=>?_
 have hd':dis (blkR n js)=true:=by rw[s0a];exact hd
 refine⟨λi m ys H'=>∃ ρ' acc,m=ds.length - i/\i<=ds.length/\Rel K F σ ρ' H'/\Kp σ ρ1 ρ' H1 H'/\RepDs K (hid H' (hs F σ ρ')) ys acc/\m0z n2 n js c ag atc ai2 ag2 atc2 ate (λacc ρ2=>q (.f acc) ρ2) (ds.drop i) acc ρ',⟨ds.length,ρ1,[],rfl,Nat.zero_le _,r1,.refl,.nil,h1⟩,?_⟩
 rintro i m ys H' ⟨ρ',acc,rfl,hl,r',k',rd,h'⟩
 have w:c ρ'->WkAt K (hs F σ ρ') H' J ds:=λhc=>wk σ ρ' H' k'.vis r'.sl (λ_ _ _ e=>e) (λa z=>e1s r' z) hc
 have yl:ys.length=acc.length:=rd.length
 rcases Nat.lt_or_ge i ds.length with lt | ge
 ·right
  rw[List.drop_eq_getElem_cons lt]at h'
  unfold m0z at h'
  obtain⟨hcc,h'⟩:=h'
  obtain⟨go,yld⟩:=(w hcc i).1 ds[i] (List.getElem?_eq_getElem lt)
  refine⟨go,λzs H2=>∃ ρ2 acc2,Rel K F σ ρ2 H2/\Kp σ ρ1 ρ2 H1 H2/\RepDs K (hid H2 (hs F σ ρ2)) zs acc2/\m0z n2 n js c ag atc ai2 ag2 atc2 ate (λacc ρ2=>q (.f acc) ρ2) (ds.drop (i+1)) acc2 ρ2,
   λzs H2 ⟨ρ2,acc2,a1,a2,a3,a5⟩=>⟨ds.length - (i+1),by omega,ρ2,acc2,rfl,lt,a1,a2,a3,a5⟩,λx H2 hy=>?_⟩
  obtain⟨sm,rx⟩:=yld x H2 hy
  have r0':=r'
  have k':Kp σ ρ1 ρ' H1 H2:=k'.trans ⟨λa o e _=>sm a o e,λ_ h=>h⟩
  have rd:RepDs K (hid H2 (hs F σ ρ')) ys acc:=rd.same (c0a λa o e n=>⟨sm a o e,n⟩)
  have r':=r0'.grow sm
  have src:=x0x (K:=K) (F:=F) (σ:=σ) (ρ:=ρ') (H:=H2) n js
  have rb:=r'.sub src hd'
  have hs2:=z0y r' src
  rw[f0e]at rb hs2
  have pin0:∀i a,(j0y F σ ρ' H2 (bst n σ js) (blkE n js ρ')).pin i a->n<=i:=λi a h=>by
   rcases h with h | h
   ·exact x0y h.1
   ·exact h.elim
  have hlen:(bst n σ js).length=n+js.length:=k0q
  have ret:∀ σ2 ρ2 H3,Rel K (j0y F σ ρ' H2 (bst n σ js) (blkE n js ρ')) σ2 ρ2 H3->σ2.length=(bst n σ js).length->σ2.drop n=capt σ js->(∀i,(gt ρ2 i).own=true->(gt (blkE n js ρ') i).own=true) ->
    Rel K F σ (back ρ' (js.map R.o) (ρ2.drop n)) H3/\Kp σ ρ' (back ρ' (js.map R.o) (ρ2.drop n)) H2 H3/\Same (hid H3 (hs (j0y F σ ρ' H2 (bst n σ js) (blkE n js ρ')) σ2 ρ2)) (hid H3 (hs F σ (back ρ' (js.map R.o) (ρ2.drop n)))):=λσ2 ρ2 H3 rr hlen2 hdrop hown=>by
   obtain⟨f1,f2⟩:=rr.forget (n:=n) (by omega) pin0
   rw[hdrop]at f1 f2
   have f1':Rel K (j0y F σ ρ' H2 (bst n σ js) ((blkR n js).map (g0g ρ'))) (bst n σ js) (List.replicate n .un++ρ2.drop n) H3:=by rw[f0e];exact f1
   have bk:=r'.back src hd' f1' λi hi=>by
    rw[f0e]
    rw[t0m]at hi
    split at hi
    ·cases hi
    ·rename_i hni
     rw[o0g,show n+(i - n)=i by omega]at hi
     exact hown i hi
   have ln:(List.replicate n Sv.un++ρ2.drop n).length=n+js.length:=by
    have:=rr.len
    simp;omega
   rw[u0f js ρ' n _ ln,List.drop_left' (by simp),f0e]at bk
   exact⟨bk.1,bk.2.1,f2.trans bk.2.2⟩
  refine hg _ (bst n σ js) (blkE n js ρ') H2 x _ _ _ (λi a h=>by simp[pin0 i a h]) rb (by rw[hs2];exact rx) h' λσ2 ρ2 h2 r2 l2 p2 o2=>?_
  have hdrop:σ2.drop n=capt σ js:=by
   have:σ2.drop n=(bst n σ js).drop n:=by
    apply List.ext_getElem?
    intro i
    rw[List.getElem?_drop,List.getElem?_drop]
    exact p2 (n+i) (by simp)
   rw[this]
   unfold bst
   rw[List.drop_left' (by simp)]
  have hin:σ2=List.replicate n2 none++σ2.drop n2:=by
   apply List.ext_getElem?
   intro j
   rcases Nat.lt_or_ge j n2 with z | z
   ·rw[p2 j (by simp[z]),List.getElem?_append_left (by simpa using z)]
    unfold bst
    rw[List.getElem?_append_left (by simp;omega),List.getElem?_replicate,List.getElem?_replicate,if_pos z,if_pos (by omega)]
   ·rw[List.getElem?_append_right (by simpa using z),List.length_replicate,List.getElem?_drop]
    congr 1;omega
  have rdb:RepDs K (hid H2 (hs (j0y F σ ρ' H2 (bst n σ js) (blkE n js ρ')) σ2 ρ2)) ys acc:=by
   rw[<- hs2]at rd
   refine rd.same (c0a λa o e nn=>⟨e,λz=>nn ?_⟩)
   rcases z with z | ⟨j,hj,ej⟩
   ·exact .inl z
   ·obtain⟨b1,b2⟩:=o2 j hj
    rw[b2]at ej
    exact .inr ⟨j,b1,ej⟩
  refine⟨hdrop,hc _ σ2 ρ2 H2 _ _ r2 h2 λb ρ3 H3 h3 r3 k3=>?_⟩
  cases b with
  | false =>
   obtain⟨b1,b2,_⟩:=ret σ2 ρ3 H3 r3 l2 hdrop λi hi=>(o2 i (k3.sb i hi)).1
   exact⟨_,acc,b1,k'.trans b2,rd.same b2.vis,h3⟩
  | true =>
   refine hi2 _ σ2 ρ3 H3 _ _ r3 h3 λds2 c2 ρ4 J2 H4 h4 r4 k4 wk2=>?_
   refine z0p hg2 hc2 he (λi a h=>Nat.le_trans hn (pin0 i a h)) (by omega) hin r4 (λρ5 H5 a1 a2 a3 a4=>wk2 σ2 ρ5 H5 a1 a2 (λ_ _ _ e=>e) a3 a4) (rdb.same (k3.trans k4).vis) h4 λacc' ρ5 ys' H5 h5 r5 k5 rd5=>?_
   obtain⟨b1,b2,b3⟩:=ret σ2 ρ5 H5 r5 l2 hdrop λi hi=>(o2 i (k3.sb i (k4.sb i (k5.sb i hi)))).1
   exact⟨_,acc',b1,k'.trans b2,rd5.same b3,h5⟩
 ·left
  rw[List.drop_eq_nil_of_le ge]at h'
  unfold m0z at h'
  obtain⟨hcc,hz,h'⟩:=h'
  refine⟨(w hcc i).2 ge,small (by omega),λl hl'=>?_⟩
  exact((k.after k1).after k').new r' h' rd hl'
end
section
variable {n2 n:Nat}{js:List Nat}{c:En->Prop}{g g2:AG}{tc tc2:AT}{i2:AI}{te:AE}
theorem t0y {α:Type}{q:List D->En->Prop}(h:α->D)(f:α->List D){xs:List α}{ρ:En}(hc:c ρ)
  (hs:∀x acc (N:List D->En->Prop),x∈xs->(∃ys:List α,ys.length<=xs.length/\acc=(ys.flatMap f)/\∀y∈ys,y∈xs)->N (acc++f x) ρ->g (h x) (blkE n js ρ) λρ1=>tc ρ1 λb ρ2=>if b=true then i2 ρ2 λds2 c2 ρ3=>l0r n2 c2 g2 tc2 te (λacc' ρ4=>N acc' (back ρ (js.map R.o) (ρ4.drop n))) ds2 acc ρ3 else N acc (back ρ (js.map R.o) (ρ2.drop n)))
  (hl:(xs.flatMap f).length<=1000000) (hd:q (xs.flatMap f) ρ):m0z n2 n js c g tc i2 g2 tc2 te q (xs.map h) [] ρ:=by
 have go:∀(zs ys:List α),ys++zs=xs->m0z n2 n js c g tc i2 g2 tc2 te q (zs.map h) (ys.flatMap f) ρ:=by
  intro zs
  induction zs with
  | nil =>
   intro ys e
   rw[List.append_nil]at e
   subst e
   rw[List.map_nil]
   unfold m0z
   exact⟨hc,hl,hd⟩
  | cons z zs ih =>
   intro ys e
   rw[List.map_cons]
   unfold m0z
   refine⟨hc,hs z _ (λacc' ρ'=>m0z n2 n js c g tc i2 g2 tc2 te q (zs.map h) acc' ρ') (by rw[<- e];simp) ⟨ys,by rw[<- e,List.length_append];omega,rfl,λy hy=>by rw[<- e];exact List.mem_append_left _ hy⟩ ?_⟩
   have:=ih (ys++[z]) (by rw[<- e,List.append_assoc];rfl)
   rw[List.flatMap_append,List.flatMap_cons,List.flatMap_nil,List.append_nil]at this
   exact this
 exact go xs [] rfl
end
end L2
namespace L2
end L2
namespace L2
open PySem PySem.Spec PyProof.Rows
def cntS (ns:List Int):Nat:=(PyProof.Rows.firstMet (λi=>ns.getD i 0) ns.length).length
def z0x (K:PySem.W.Frag)(ta:TA):TE:=λσ H Q=>ta σ H λvs H1=>∃(p:Addr) (ns:List Int),vs=[.ref p]/\SqL K H1 p (ns.map V.int)/\ns.length<=1000/\Q (.int (cntS ns:Nat)) H1
theorem s0r (K:PySem.W.Frag){X:Cx}{a:Expr}{ta:TA}{p p2 pos pos2:Pos}(hc:X.calm=true)(hg1:Gl X "len")(hm1:X.mg "len" = none)(hg:Gl X "set")(hm:X.mg "set" = none)(ha:PA X [a] ta)(hK:X.K=K:=by rfl)
  (ho:starEach [.Call (.Name "set" p2) [a] [] pos2] X.env=[(false,eval (.Call (.Name "set" p2) [a] [] pos2) X.env)]:=by rfl) (hs:starEach [a] X.env=[(false,eval a X.env)]:=by rfl) (hpl:(backTo pos (starEach [] X.env)).any (·.1)=false:=by rfl) :
  PE X (.Call (.Name "len" p) [.Call (.Name "set" p2) [a] [] pos2] [] pos) (z0x K ta):=by
 subst hK
 intro pins s σ H Q I h
 refine Call_ (j0d I hg1 hm1 c0q ?_)
 refine PyProof.Rows.callWith_builtin1 ?_ (by rw[ho];rfl) hpl
 rw[ho]
 show wpAny _ _ (spliced [(false,eval (.Call (.Name "set" p2) [a] [] pos2) X.env)]) _ _ s
 refine Calls.spliced_cons ?_
 refine Call_ (j0d I hg hm g1r (PyProof.Rows.callWith_type1 (thn (ha pos2 pins s σ H _ I h) λus s1 ⟨vs,H1,I1,r1,q1⟩=>?_) hs rfl))
 obtain⟨l,ns,rfl,hq,hn,q⟩:=q1
 obtain⟨u,rfl,ru⟩:=l0u r1
 cases ru
 obtain⟨its,rv,pl,hz⟩:=I1.list hq
 have hl:its.length=ns.length:=by have:=rv.length;rw[List.length_map]at this;omega
 refine call_set_list (I1.ok.hd hc) pl.isList (j0u rv) (by rw[List.size_toArray,hl];show _<4096;omega) λh' tk hS hk=>Calls.spliced_nil ?_
 obtain⟨o,es,ep,tt,ho',hex,hd,h1,h2,h3,h4,h5⟩:=hS
 refine call_len_set ho' hex hd (by assumption) ?_ ?_
 ·rw[h5]
  have:=PyProof.Rows.firstMet_length_le (λi=>ns.getD i 0) its.toArray.size
  rw[List.size_toArray,hl]at this
  rw[List.size_toArray,hl]
  omega
 ·have e:es.size=cntS ns:=by rw[h5,List.size_toArray,hl];rfl
  rw[e]
  exact⟨.int (cntS ns:Nat),H1,(I1.kept (t':=tk+1+1) λb o e=>hk b o (Heap.lt_size e) e),⟨_,rfl⟩,q⟩
theorem z0a {ns:List Int}(h:ns.Nodup):cntS ns=ns.length:=by
 have key:∀i,i<=ns.length->PyProof.Rows.firstMet (λi=>ns.getD i 0) i=ns.take i:=by
  intro i
  induction i with
  | zero=>intro _;rw[PyProof.Rows.firstMet_zero];rfl
  | succ i ih =>
   intro hi
   rw[PyProof.Rows.firstMet_succ,ih (by omega)]
   have lt:i<ns.length:=by omega
   have e:ns.getD i 0=ns[i]:=by rw[List.getD_eq_getElem?_getD,List.getElem?_eq_getElem lt];rfl
   have nn:¬((ns.take i).any (· == ns[i]))=true:=by
    intro z
    obtain⟨x,hx,ex⟩:=List.any_eq_true.mp z
    have ex':x=ns[i]:=by simpa using ex
    obtain⟨j,hj,ej⟩:=List.getElem_of_mem hx
    rw[List.getElem_take]at ej
    have hj':j<i:=by rw[List.length_take]at hj;omega
    have:j=i:=(List.getElem_inj h).mp (ej.trans ex')
    omega
   unfold PyProof.Rows.step_dedup
   rw[e,if_neg nn,List.take_add_one,List.getElem?_eq_getElem lt]
   rfl
 unfold cntS
 rw[key _ (Nat.le_refl _),List.take_length]
section
variable {K:PySem.W.Frag}{ts:TA}{as:AA}
@[irreducible] def r0m (r:R):AE:=λρ q=>match view ρ r with
 | some (.lst ds)=>(match g0f ds with | some ns=>ns.length<=1000/\q (.d (.int (cntS ns:Nat))) ρ | none=>False)
 | _=>False
def j1k (as:AA):AE:=λρ q=>as ρ λrs ρ1=>match rs with
 | [r]=>r0m r ρ1 q
 | _=>False
theorem p0l (h:TAok K ts as):TEok K (z0x K ts) (j1k as):=by
 intro F σ ρ H q Q r ha k
 refine h F σ ρ H _ _ r ha λrs ρ1 vs H1 h1 r1 i1 k1=>?_
 split at h1
 ·obtain⟨x,rfl,ix⟩:=i1.one
  unfold r0m at h1
  split at h1
  ·rename_i ds e
   split at h1
   ·rename_i ns e'
    obtain⟨l,us,rfl,sq,rd⟩:=c0u r1 ix e
    rw[h0t e',i0c]at rd
    rw[rd]at sq
    exact⟨l,ns,rfl,sq,h1.1,(k.after k1).int r1 h1.2⟩
   ·exact h1.elim
  ·exact h1.elim
 ·exact h1.elim
theorem q0a {r:R}{ρ:En}{q:Ko}{ns:List Int}(hv:view ρ r=some (.lst (ns.map D.int)))(hz:ns.length<=1000)(hq:q (.d (.int (cntS ns:Nat))) ρ):r0m r ρ q:=by
 unfold r0m
 simp only[hv,h0s]
 exact⟨hz,hq⟩
end
end L2
namespace L2
theorem t0x {n2:Nat}{c:En->Prop}{g:AG}{tc:AT}{te:AE}{k:List D->En->Prop}(I:Nat->List D->En->Prop){ds:List D}(hc:∀i acc ρ,i<=ds.length->I i acc ρ->c ρ/\acc.length<=1000000)
  (hs:∀(i:Nat) d acc ρ (N:List D->En->Prop),ds[i]? = some d->I i acc ρ->(∀acc' ρ',I (i+1) acc' ρ'->N acc' ρ') ->
   g d ρ λρ1=>tc ρ1 λb ρ2=>if b=true then te ρ2 λr ρ3=>sto [r.frz] ρ3 λes ρ4=>N (acc++es) (List.replicate n2 .un++ρ4.drop n2)else N acc (List.replicate n2 .un++ρ2.drop n2))
  (hd:∀acc ρ,I ds.length acc ρ->k acc ρ):∀acc ρ,I 0 acc ρ->l0r n2 c g tc te k ds acc ρ:=by
 have go:∀(es:List D) (i:Nat),ds.drop i=es->i<=ds.length->∀acc ρ,I i acc ρ->l0r n2 c g tc te k es acc ρ:=by
  intro es
  induction es with
  | nil =>
   intro i h hi acc ρ hI
   have:ds.length<=i:=List.drop_eq_nil_iff.mp h
   have:i=ds.length:=by omega
   subst this
   unfold l0r
   exact⟨(hc _ acc ρ (Nat.le_refl _) hI).1,hd acc ρ hI⟩
  | cons d es ih =>
   intro i h hi acc ρ hI
   have lt:i<ds.length:=by
    rcases Nat.lt_or_ge i ds.length with q | q
    ·exact q
    ·rw[List.drop_eq_nil_of_le q]at h;cases h
   rw[List.drop_eq_getElem_cons lt]at h
   injection h with h1 h2
   unfold l0r
   obtain⟨a,b⟩:=hc i acc ρ hi hI
   exact⟨a,b,hs i d acc ρ (λacc' ρ'=>l0r n2 c g tc te k es acc' ρ') (by rw[<- h1];exact List.getElem?_eq_getElem lt) hI (λacc' ρ' i'=>ih (i+1) h2 lt acc' ρ' i')⟩
 exact go ds 0 rfl (Nat.zero_le _)
end L2
namespace L2
open PySem PySem.Spec PyProof.Rows
mutual
def toPy:D->PyData
 | .non=>.none
 | .bl b=>.bool b
 | .int i=>.int i
 | .str x=>.str x
 | .tup ds=>.tuple (toPys ds)
 | .lst ds=>.list (toPys ds)
def toPys:List D->List PyData
 | []=>[]
 | d::ds=>toPy d::toPys ds
end
mutual
theorem g1o:∀d:D,(toPy d).depth<=d.depth+1
 | .non=>by simp[toPy,PyData.depth,D.depth]
 | .bl _=>by simp[toPy,PyData.depth,D.depth]
 | .int _=>by simp[toPy,PyData.depth,D.depth]
 | .str _=>by simp[toPy,PyData.depth,D.depth]
 | .tup ds=>by have:=dep_pys ds;simp only[toPy,PyData.depth,D.depth];omega
 | .lst ds=>by have:=dep_pys ds;simp only[toPy,PyData.depth,D.depth];omega
theorem dep_pys:∀ds:List D,PyData.depthAll (toPys ds)<=depths ds+1
 | []=>by simp[toPys,PyData.depthAll,depths]
 | d::ds=>by have:=g1o d;have:=dep_pys ds;simp only[toPys,PyData.depthAll,depths];omega
end
mutual
theorem t0c:∀d:D,(toPy d).hasDict=false
 | .non=>by simp[toPy,PyData.hasDict]
 | .bl _=>by simp[toPy,PyData.hasDict]
 | .int _=>by simp[toPy,PyData.hasDict]
 | .str _=>by simp[toPy,PyData.hasDict]
 | .tup ds=>by simp only[toPy,PyData.hasDict];exact nodict_pys ds
 | .lst ds=>by simp only[toPy,PyData.hasDict];exact nodict_pys ds
theorem nodict_pys:∀ds:List D,PyData.hasDictAll (toPys ds)=false
 | []=>by simp[toPys,PyData.hasDictAll]
 | d::ds=>by simp only[toPys,PyData.hasDictAll];rw[t0c d,nodict_pys ds];rfl
end
def shD (d:D):Str:=(toPy d).shown
def shOk (d:D):Prop:=d.depth<=50/\(toPy d).showable=true/\(shD d).length<=sizeLine
section
variable {X:Cx}{pins:List (Addr×Obj)}{σ:St}{H:Hp}{s:Shared}
mutual
theorem w0x (I:Inv X pins σ H s):∀ {d:D} {v:V} {u:Value},RelV v u->RepD X.K H v d->∃as,Reads s.heap u (toPy d) as
 | .non,v,u,r,h=>by unfold RepD at h;subst h;cases r;exact⟨_,by unfold toPy;exact .none⟩
 | .bl b,v,u,r,h=>by unfold RepD at h;subst h;cases r;exact⟨_,by unfold toPy;exact .bool _⟩
 | .int i,v,u,r,h=>by unfold RepD at h;subst h;obtain⟨t,rfl⟩:=r;exact⟨_,by unfold toPy;exact .int _ _⟩
 | .str x,v,u,r,h=>by unfold RepD at h;subst h;obtain⟨t,rfl⟩:=r;exact⟨_,by unfold toPy;exact .str _ _⟩
 | .tup ds,v,u,r,h=>by
  unfold RepD at h
  obtain⟨a,vs,rfl,g1,g2⟩:=h
  cases r
  obtain⟨its,rv,⟨o,e,c,n,dd⟩,_⟩:=I.tuple g1.sq
  obtain⟨as,ra⟩:=reads_ofs I rv g2
  exact⟨_,by unfold toPy;exact .tuple e c dd (by simpa using ra)⟩
 | .lst ds,v,u,r,h=>by
  unfold RepD at h
  obtain⟨a,vs,rfl,g1,g2⟩:=h
  cases r
  obtain⟨its,rv,⟨o,n,e,c,_,dd⟩,_⟩:=I.list (StL.sq g1)
  obtain⟨as,ra⟩:=reads_ofs I rv g2
  exact⟨_,by unfold toPy;exact .list e c dd (by simpa using ra)⟩
theorem reads_ofs (I:Inv X pins σ H s):∀ {ds:List D} {vs:List V} {us:List Value},Vals vs us->RepDs X.K H vs ds->∃as,ReadsAll s.heap us (toPys ds) as
 | [],[],us,r,h=>by cases r;exact⟨_,by unfold toPys;exact .nil⟩
 | d::ds,v::vs,us,r,h=>by
  unfold RepDs at h
  cases r with
  | cons r1 r2 =>
   obtain⟨as,a1⟩:=w0x I r1 h.1
   obtain⟨bs,b1⟩:=reads_ofs I r2 h.2
   exact⟨_,by unfold toPys;exact .cons a1 b1⟩
 | [],v::vs,us,r,h=>by unfold RepDs at h;exact h.elim
 | d::ds,[],us,r,h=>by unfold RepDs at h;exact h.elim
end
end
theorem c1t:bootBuiltins "repr" = some (.builtin "repr"):=by decide +kernel
section
variable {X:Cx}(K:PySem.W.Frag)
def k1s (K:PySem.W.Frag):List V->Hp->VK->Prop:=λxs H Q=>∃(v:V) (d:D),xs=[v]/\RepD K H v d/\shOk d/\Q (.str (shD d)) H
theorem u0c (hu:X.A.units+64<cLine)(hg:X.A.guards=some [])(hK:X.K=K:=by rfl):k0t X (.builtin "repr") (k1s K):=by
 subst hK
 intro pins s σ H xs us Q I r h
 obtain⟨v,d,rfl,hd,⟨h1,h2,h3⟩,q⟩:=h
 obtain⟨u,rfl,ru⟩:=l0u r
 obtain⟨as,rd⟩:=w0x I ru hd
 have dp:=g1o d
 have gen:∀(h':Heap) (t:Tok) (tk:Tok),(∀b o,s.heap.get? b=some o->h'.get? b=some o)->EP X pins σ Q (.str (shD d) t) {s with heap:=h',toks:=tk}:=λh' t tk hk=>⟨.str (shD d),H,I.kept hk,⟨_,rfl⟩,q⟩
 have big:∀a,u = .ref a->wpAny (model X.prog X.w) X.A (call (.builtin "repr") [u]) (EP X pins σ Q) X.xe s:=by
  rintro a rfl
  exact repr_of_reads' rd h2 (PyData.noDict_hsm (t0c d)) hg (by omega) (λ_ _ e=>e) (λh' u tk hk=>gen h' u tk hk) h3
 cases d with
 | non=>unfold RepD at hd;subst hd;cases ru;exact P.repr_of_none (gen s.heap _ _ λ_ _ e=>e)
 | bl b=>unfold RepD at hd;subst hd;cases ru;exact P.repr_of_bool (gen s.heap _ _ λ_ _ e=>e)
 | int i=>unfold RepD at hd;subst hd;obtain⟨t,rfl⟩:=ru;exact P.repr_of_int (of_decide_eq_true h2) (gen s.heap _ _ λ_ _ e=>e)
 | str x=>unfold RepD at hd;subst hd;obtain⟨t,rfl⟩:=ru;exact P.repr_of_str (gen s.heap _ _ λ_ _ e=>e) h3
 | tup ds=>unfold RepD at hd;obtain⟨a,_,rfl,_⟩:=hd;cases ru;exact big _ rfl
 | lst ds=>unfold RepD at hd;obtain⟨a,_,rfl,_⟩:=hd;cases ru;exact big _ rfl
end
section
variable {K:PySem.W.Frag}
@[irreducible] def gRepr:List R->AE:=λrs ρ q=>match rs with
 | [r]=>(match view ρ r with
  | some d=>shOk d/\q (.d (.str (shD d))) ρ
  | none=>False)
 | _=>False
theorem u0a:CbOk K (k1s K) gRepr:=by
 intro F σ ρ H vs rs q Q a i h b
 unfold gRepr at h
 split at h
 ·obtain⟨x,rfl,i1⟩:=i.one
  split at h
  ·rename_i d e
   exact⟨x,d,rfl,f0f a i1 e,h.1,b.str a h.2⟩
  ·exact h.elim
 ·exact h.elim
theorem r0k {r:R}{ρ:En}{q:Ko}{d:D}(hv:view ρ r=some d)(h1:shOk d)(hq:q (.d (.str (shD d))) ρ):gRepr [r] ρ q:=by
 unfold gRepr
 simp only[hv]
 exact⟨h1,hq⟩
end
end L2
set_option maxHeartbeats 2000000
namespace L2
open PySem PySem.Spec PyProof.Rows
end L2
namespace L2
open PySem
def Ris (xs:Array Nat):Prop:=xs.toList.Pairwise (· < ·)
theorem Ris.lt {xs:Array Nat}(h:Ris xs){i k:Nat}(hk:k<xs.size)(hi:i<k):xs[i]'(by omega)<xs[k]:=by
 have:=List.pairwise_iff_getElem.mp h i k (by simp;omega) (by simpa using hk) hi
 simpa using this
theorem s0b {xs:Array Nat}{j:Nat}(hr:Ris xs):∀(f lo hi:Nat),hi - lo<=f->lo<=hi->hi<=xs.size->(∀k (h:k<xs.size),k<lo->xs[k]<j)->(∀k (h:k<xs.size),hi<=k->j<=xs[k]) ->
  SetTable.below.go xs j f lo hi<=xs.size/\(∀k (h:k<xs.size),k<SetTable.below.go xs j f lo hi->xs[k]<j)/\(∀k (h:k<xs.size),SetTable.below.go xs j f lo hi<=k->j<=xs[k])
 | 0,lo,hi,hf,hl,hz,h1,h2=>by
  have:hi=lo:=by omega
  subst this
  exact⟨hz,h1,h2⟩
 | f+1,lo,hi,hf,hl,hz,h1,h2=>by
  unfold SetTable.below.go
  by_cases hlt:lo<hi
  ·rw[if_pos hlt]
   dsimp only
   have hm:(lo+hi) / 2<xs.size:=by omega
   have eg:xs.getD ((lo+hi) / 2) j=xs[(lo+hi) / 2]:=by simp[Array.getD,hm]
   rw[eg]
   by_cases hc:xs[(lo+hi) / 2]<j
   ·rw[if_pos hc]
    refine s0b hr f _ hi (by omega) (by omega) hz (λk hk h=>?_) h2
    by_cases e:k=(lo+hi) / 2
    ·subst e;exact hc
    ·exact Nat.lt_trans (hr.lt hm (by omega)) hc
   ·rw[if_neg hc]
    refine s0b hr f lo _ (by omega) (by omega) (by omega) h1 (λk hk h=>?_)
    by_cases e:k=(lo+hi) / 2
    ·subst e;omega
    ·have:=hr.lt hk (show(lo+hi) / 2<k by omega)
     omega
  ·rw[if_neg hlt]
   have:hi=lo:=by omega
   subst this
   exact⟨hz,h1,h2⟩
theorem n0k {xs:Array Nat}{j:Nat}(hr:Ris xs):SetTable.below xs j<=xs.size/\(∀k (h:k<xs.size),k<SetTable.below xs j->xs[k]<j)/\(∀k (h:k<xs.size),SetTable.below xs j<=k->j<=xs[k]) :=
 s0b hr xs.size 0 xs.size (by omega) (Nat.zero_le _) (Nat.le_refl _) (λk _ h=>absurd h (Nat.not_lt_zero _)) λk h h'=>absurd h (by omega)
theorem f1h {xs:Array Nat}(hr:Ris xs){k:Nat}(hk:k<xs.size):SetTable.below xs xs[k]=k:=by
 obtain⟨h0,h1,h2⟩:=n0k (j:=xs[k]) hr
 rcases Nat.lt_trichotomy (SetTable.below xs xs[k]) k with h | h | h
 ·have a:=h2 (SetTable.below xs xs[k]) (by omega) (Nat.le_refl _)
  have b:=hr.lt hk h
  omega
 ·exact h
 ·have:=h1 k hk h
  omega
theorem z0f {xs:Array Nat}(hr:Ris xs){k:Nat}(hk:k<xs.size):SetTable.below xs (xs[k]+1)=k+1:=by
 obtain⟨h0,h1,h2⟩:=n0k (j:=xs[k]+1) hr
 rcases Nat.lt_trichotomy (SetTable.below xs (xs[k]+1)) (k+1)with h | h | h
 ·have:=h2 k hk (by omega)
  omega
 ·exact h
 ·have a:=h1 (k+1) (by omega) h
  have b:=hr.lt (show k+1<xs.size by omega) (show k<k+1 by omega)
  omega
theorem z0e {xs:Array Nat}(hr:Ris xs):SetTable.below xs 0=0:=by
 obtain⟨h0,h1,h2⟩:=n0k (j:=0) hr
 rcases Nat.eq_zero_or_pos (SetTable.below xs 0)with h | h
 ·exact h
 ·have:=h1 0 (by omega) h
  omega
theorem h1t {xs:Array Nat}{j:Nat}(hr:Ris xs)(hj:j∉xs.toList):Ris (SetTable.insertAt xs (SetTable.below xs j) j):=by
 obtain⟨h0,h1,h2⟩:=n0k (j:=j) hr
 unfold Ris
 rw[SetTable.toList_insertAt]
 have sp:(xs.toList.take (SetTable.below xs j)++xs.toList.drop (SetTable.below xs j)).Pairwise (· < ·):=by rw[List.take_append_drop];exact hr
 obtain⟨p1,p2,p3⟩:=List.pairwise_append.mp sp
 have lo:∀a∈xs.toList.take (SetTable.below xs j),a<j:=λa ha=>by
  obtain⟨i,hi,rfl⟩:=List.getElem_of_mem ha
  rw[List.length_take,Array.length_toList]at hi
  rw[List.getElem_take,Array.getElem_toList]
  exact h1 i (by omega) (by omega)
 have up:∀a∈xs.toList.drop (SetTable.below xs j),j<a:=λa ha=>by
  have hm:=List.mem_of_mem_drop ha
  obtain⟨i,hi,rfl⟩:=List.getElem_of_mem ha
  rw[List.length_drop,Array.length_toList]at hi
  rw[List.getElem_drop,Array.getElem_toList]at hm ⊢
  have:=h2 (SetTable.below xs j+i) (by omega) (by omega)
  rcases Nat.lt_or_eq_of_le this with h | h
  ·exact h
  ·exact absurd (h▸hm) hj
 refine List.pairwise_append.mpr ⟨p1,List.pairwise_cons.mpr ⟨up,p2⟩,λa ha b hb=>?_⟩
 rcases List.mem_cons.mp hb with rfl | hb
 ·exact lo a ha
 ·exact p3 a ha b hb
def Open (t:SetTable)(j:Nat):Prop:=∀i,t.slot j ≠ .live i
theorem e1k {t:SetTable}{j:Nat}(hr:Ris t.place)(h:Open t j):j∉t.place.toList:=by
 intro hm
 obtain⟨k,hk,e⟩:=List.getElem_of_mem hm
 rw[Array.length_toList]at hk
 rw[Array.getElem_toList]at e
 refine h k ?_
 unfold SetTable.slot
 dsimp only
 rw[<- e,f1h hr hk,if_pos (by simp[hk])]
theorem u0l (t:SetTable)(p:SetTable.Probe):(t.advance p).dummy=p.dummy:=by
 unfold SetTable.advance;split <;> rfl
theorem v0r {t:SetTable}{f:Nat->Int}{h:Int}:∀(n:Nat) (p:SetTable.Probe) (j:Nat) (d:Option Nat),SetTable.probe.go t f h n p=some (.empty j d)->(∀x,p.dummy=some x->Open t x)->Open t j/\∀x,d=some x->Open t x
 | 0,p,j,d,e,_=>by cases e
 | n+1,p,j,d,e,hd=>by
  unfold SetTable.probe.go at e
  cases es:t.slot p.j with
  | empty =>
   rw[es]at e
   dsimp only at e
   simp only[Option.some.injEq,SetTable.Met.empty.injEq]at e
   obtain⟨rfl,rfl⟩:=e
   exact⟨λi z=>(by rw[es]at z;cases z),hd⟩
  | dummy =>
   rw[es]at e
   refine v0r n _ j d e λx hx=>?_
   rw[u0l]at hx
   cases hx
   exact λi z=>by rw[es]at z;cases z
  | live i =>
   rw[es]at e
   dsimp only at e
   split at e
   ·cases e
   ·refine v0r n _ j d e λx hx=>?_
    rw[u0l]at hx
    exact hd x hx
theorem c1c {t:SetTable}{h:Int}{j:Nat}{b:Bool}(e:t.freeSlot h=some (j,b)):Open t j:=by
 unfold SetTable.freeSlot at e
 split at e
 ·rename_i j' d hp
  simp only[Option.some.injEq,Prod.mk.injEq]at e
  obtain⟨rfl,_⟩:=e
  unfold SetTable.probe at hp
  obtain⟨a,b⟩:=v0r _ _ _ _ hp λx hx=>by cases hx
  cases d with
  | none=>exact a
  | some x=>exact b x rfl
 ·cases e
def Led (t:SetTable):Prop:=t.led=true/\Ris t.place
theorem a1l (n:Nat):Ris (Array.range n):=by
 unfold Ris
 rw[Array.toList_range]
 exact List.pairwise_lt_range
theorem l0h {t:SetTable}(h:t.led=true)(n:Nat):Led (t.standIn n):=⟨h,a1l n⟩
theorem l1g {t:SetTable}(h:Led t)(n:Nat):Led (t.orStandIn n):=by
 unfold SetTable.orStandIn
 split
 ·exact h
 ·exact l0h h.1 n
theorem i1l {t:SetTable}(h:Led t)(es:Array (Int×Value))(k:Int)(x:Value):Led (layNew t es k x).2.1:=by
 unfold layNew
 split
 ·rename_i j b e
  have l2:Led (t.put j).1:=⟨h.1,h1t h.2 (e1k h.2 (c1c e))⟩
  exact l1g l2 _
 ·exact l0h h.1 _
theorem j1a {α:Type}(f:Nat->Option α)(n:Nat):(((List.range n).filterMap λj=>(f j).map (j,·)).map (·.1)).Sublist (List.range n):=by
 rw[List.map_filterMap]
 have:(λx=>Option.map (λy:Nat×α=>y.1) ((f x).map (x,·)))=λx=>if(f x).isSome then some x else none:=by
  funext x;cases f x <;> rfl
 rw[this]
 have e:(List.range n).filterMap (λx=>if(f x).isSome=true then some x else none)=(List.range n).filter λx=>(f x).isSome:=by
  induction List.range n with
  | nil=>rfl
  | cons a l ih =>
   rw[List.filterMap_cons,List.filter_cons]
   cases (f a).isSome <;> simp[ih]
 rw[e]
 exact List.filter_sublist
theorem y0u {t t':SetTable}{hs:Array Int}{k:Nat}{o:Array Nat}(h:t.led=true)(e:t.relaid hs k=some (t',o)):Led t':=by
 unfold SetTable.relaid SetTable.laid at e
 cases ho:SetTable.layClean (SetTable.sizeAbove k - 1) hs with
 | none=>rw[ho]at e;cases e
 | some ow =>
  rw[ho]at e
  simp only[Option.bind_eq_bind,Option.bind_some,Option.pure_def,Option.some.injEq,Prod.mk.injEq]at e
  obtain⟨rfl,_⟩:=e
  refine⟨h,?_⟩
  unfold Ris
  dsimp only
  exact List.Pairwise.sublist (j1a (λj=>ow.getD j none) _) List.pairwise_lt_range
theorem i1m {t:SetTable}(h:t.led=true)(es:Array (Int×Value))(k:Nat):Led (relayAll t es k).2.1:=by
 unfold relayAll
 split
 ·rename_i t' o e
  dsimp only
  split
  ·exact y0u h e
  ·exact l0h h _
 ·exact l0h h _
end L2
namespace L2
open PySem PySem.Spec PyProof.Rows
def byT (w:World):Bool:=w.params.followText "set-order"
def SetI (P:Program)(w:World)(h:Heap)(a:Addr)(ks:List Int):Prop :=
 ∃o es ep t,h.get? a=some o/\o.ExactSet/\o.data = .set es ep t/\ElemsOf (intKind P w) es.toList/\(∀k,k∈ks↔∃e∈es.toList,(intKind P w).is k e.2=true)/\es.size<scanBound/\t.fits es.size=true/\es.size=ks.length/\(byT w=false->Led t)
section
variable {P:Program}{w:World}{A:Around}{E:Value->Shared->Prop}{s:Shared}
theorem SetI.kept {h h':Heap}{a:Addr}{ks:List Int}(hS:SetI P w h a ks)(k:∀o,h.get? a=some o->h'.get? a=some o):SetI P w h' a ks:=by
 obtain⟨o,es,ep,t,ho,r⟩:=hS
 exact⟨o,es,ep,t,k o ho,r⟩
theorem SetI.store {h:Heap}{a:Addr}{o:Obj}{es es':Array (Int×Value)}{ep:Nat}{t t':SetTable}{ks:List Int}(e:h.get? a=some o)(x:o.ExactSet)(d:o.data = .set es ep t)
  (h1:ElemsOf (intKind P w) es'.toList) (h2:∀k,k∈ks↔∃e∈es'.toList,(intKind P w).is k e.2=true) (h3:es'.size<scanBound) (h4:t'.fits es'.size=true) (h5:es'.size=ks.length) (h6:byT w=false->Led t') :
  (h.update a (Obj.putSet es' t')).get? a=some {o with data:=.set es' (ep+1) t'}/\SetI P w (h.update a (Obj.putSet es' t')) a ks:=by
 have g:(h.update a (Obj.putSet es' t')).get? a=some {o with data:=.set es' (ep+1) t'}:=by
  rw[Heap.get?_update_self (Obj.putSet es' t') e (by rw[putSet_of es' t' d];rfl),putSet_of es' t' d]
 exact⟨g,{o with data:=.set es' (ep+1) t'},es',ep+1,t',g,x,rfl,h1,h2,h3,h4,h5,h6⟩
theorem d1d {g:Bool->Sem Unit}(hg:∀(b:Bool) (z:Shared) (q:Unit->Shared->Prop),q () z->wpAny (model P w) A (g b) q E z){a:Addr}{o:Obj}{es e1:Array (Int×Value)}{ep:Nat}{t t2:SetTable}{ks:List Int}
  (e:s.heap.get? a=some o) (x:o.ExactSet) (d:o.data = .set es ep t)
  (h1:ElemsOf (intKind P w) e1.toList) (h2:∀k,k∈ks↔∃e∈e1.toList,(intKind P w).is k e.2=true) (h3:e1.size<scanBound) (h4:t2.fits e1.size=true) (h5:e1.size=ks.length) (h6:byT w=false->Led t2)
  {dm:Bool} {R:Option Bool->Shared->Prop} (h:∀h',Heap.SameBut a s.heap h'->SetI P w h' a ks->R (some true) {s with heap:=h'}) :
  wpAny (model P w) A (do
   storeSet a e1 t2
   if(!dm&&t2.tooFull)=true then do
    g (relayAll t2 e1 (SetTable.grown e1.size)).2.2
    storeSet a (relayAll t2 e1 (SetTable.grown e1.size)).1 (relayAll t2 e1 (SetTable.grown e1.size)).2.1
    pure (some true)
   else pure (some true)) R E s:=by
 refine wpAny_bind (wpAny_storeSet_of e d ?_ (fits_of_scanBound h3))
 obtain⟨g1,S1⟩:=SetI.store (P:=P) (w:=w) e x d h1 h2 h3 h4 h5 h6
 have b1:=Heap.SameBut.update s.heap a (Obj.putSet e1 t2)
 split
 ·have p:=relayAll_perm t2 e1 (SetTable.grown e1.size)
  have f:=relayAll_fits t2 e1 (SetTable.grown e1.size)
  have l:byT w=false->Led (relayAll t2 e1 (SetTable.grown e1.size)).2.1:=λz=>i1m (h6 z).1 _ _
  generalize relayAll t2 e1 (SetTable.grown e1.size)=R2 at p f l ⊢
  obtain⟨e2,t3,g2⟩:=R2
  dsimp only at p f l ⊢
  have n2:e2.size=e1.size:=by have:=p.length_eq;simpa using this
  refine wpAny_bind (hg _ _ _ ?_)
  refine wpAny_bind (wpAny_storeSet_of g1 rfl ?_ (fits_of_scanBound (by omega)))
  obtain⟨_,S2⟩:=SetI.store (P:=P) (w:=w) (ks:=ks) g1 x rfl (ElemsOf.perm h1 p) (λk=>(h2 k).trans ⟨λ⟨y,hy,z⟩=>⟨y,p.mem_iff.mpr hy,z⟩,λ⟨y,hy,z⟩=>⟨y,p.mem_iff.mp hy,z⟩⟩) (by omega) f (by omega) l
  exact wpAny_pure (h _ (b1.trans (Heap.SameBut.update _ a _)) S2)
 ·exact wpAny_pure (h _ b1 S1)
theorem m1e (ks:List Int)(k j:Int):j∈step_dedup ks k↔j∈ks∨j=k:=by
 unfold step_dedup
 split
 ·rename_i h
  rw[List.any_eq_true]at h
  obtain⟨y,hy,e⟩:=h
  have:y=k:=by simpa using e
  subst this
  exact⟨.inl,λz=>z.elim id λe=>e▸hy⟩
 ·simp
theorem m1f {ks:List Int}{k:Int}(h:k∈ks):step_dedup ks k=ks:=by
 unfold step_dedup
 rw[if_pos (List.any_eq_true.mpr ⟨k,h,by simp⟩)]
theorem g1p {ks:List Int}{k:Int}(h:k∉ks):step_dedup ks k=ks++[k]:=by
 unfold step_dedup
 rw[if_neg (λz=>by obtain⟨y,hy,e⟩:=List.any_eq_true.mp z;exact h ((by simpa using e:y=k)▸hy))]
theorem n1n {a:Addr}{ks:List Int}{k:Int}{x:Value}{Q:Bool->Shared->Prop}(hk:(intKind P w).is k x=true)(hx:x.scannable=true)(hS:SetI P w s.heap a ks)(hr:ks.length+1<scanBound)
  (h:∀h' b,Heap.SameBut a s.heap h'->SetI P w h' a (step_dedup ks k)->Q b {s with heap:=h'}):wpAny (model P w) A (setAddHashed a x ((intKind P w).hash k)) Q E s:=by
 obtain⟨o,es,ep,t,ho,ex,d,el,me,bd,fi,le,ld⟩:=hS
 unfold setAddHashed setAddHashedIn
 refine wpAny_holding (wpAny_bind (wpAny_setState_of ho d fi ?_));dsimp only
 rw[byScan_of hx bd el];simp only[if_true]
 unfold setAddByScan
 refine wpAny_bind (wpAny_bind (wpAny_rule (wpAny_bind (wpAny_setScan_of hk ho d fi el ?_))))
 cases hf:List.findIdx? (λe=>(intKind P w).is k e.2) es.toList with
 | some j =>
  dsimp only
  obtain⟨lj,pj,_⟩:=List.findIdx?_eq_some_iff_getElem.mp hf
  have kin:k∈ks:=(me k).mpr ⟨_,List.getElem_mem lj,pj⟩
  refine wpAny_pure (wpAny_pure ?_)
  have:=h s.heap false (Heap.SameBut.refl a s.heap) (by rw[m1f kin];exact⟨o,es,ep,t,ho,ex,d,el,me,bd,fi,le,ld⟩)
  exact this
 | none =>
  dsimp only
  have kout:k∉ks:=λz=>by
   obtain⟨y,hy,q⟩:=(me k).mp z
   have:=List.findIdx?_eq_none_iff.mp hf y hy
   rw[q]at this;cases this
  have gw:∀(b:Bool) {z:Shared} {q:Unit->Shared->Prop},q () z->wpAny (model P w) A (match b with | true=>rule "set.scan.the-table-gave-way" | false=>pure ()) q E z:=λb z q hq=>by
   cases b
   ·exact wpAny_pure hq
   ·exact wpAny_rule hq
  have pe:=layNew_perm t es ((intKind P w).hash k) x
  have fe:=layNew_fits t es ((intKind P w).hash k) x
  have lf:byT w=false->Led (layNew t es ((intKind P w).hash k) x).2.1:=λz=>i1l (ld z) _ _ _
  generalize layNew t es ((intKind P w).hash k) x=L at pe fe lf ⊢
  obtain⟨e1,t1,dm,gv⟩:=L
  dsimp only at pe fe lf ⊢
  rw[Array.toList_push]at pe
  have el1:ElemsOf (intKind P w) e1.toList:=(ElemsOf.push el hk hx).perm pe
  have n1:e1.size=ks.length+1:=by have:=pe.length_eq;simp at this;omega
  have me1:∀j,j∈ks++[k]↔∃e∈e1.toList,(intKind P w).is j e.2=true:=λj=>by
   rw[List.mem_append,me j,List.mem_singleton]
   constructor
   ·rintro(⟨y,hy,q⟩ | rfl)
    ·exact⟨y,pe.mem_iff.mpr (List.mem_append_left _ hy),q⟩
    ·exact⟨_,pe.mem_iff.mpr (List.mem_append_right _ (List.mem_singleton.mpr rfl)),hk⟩
   ·rintro⟨y,hy,q⟩
    rcases List.mem_append.mp (pe.mem_iff.mp hy)with hy | hy
    ·exact .inl ⟨y,hy,q⟩
    ·rw[List.mem_singleton.mp hy]at q
     exact .inr ((intKind P w).inj x j k q hk)
  refine wpAny_bind (gw _ ?_)
  have fin:∀h',Heap.SameBut a s.heap h'->SetI P w h' a (ks++[k])->Q true {s with heap:=h'}:=λh' b z=>h h' true b (by rw[g1p kout];exact z)
  split
  ·refine wpAny_bind ?_
   rw[hashByValue_scannable 8 hx]
   refine wpAny_pure ?_
   refine d1d ?_ ho ex d el1 me1 (by omega) ?_ (by rw[List.length_append];simpa using n1) ?_ ?_
   ·intro b z q hq
    cases b
    ·exact wpAny_pure hq
    ·exact wpAny_rule hq
   ·split
    ·exact fe
    ·exact SetTable.fits_plain_off fe
   ·intro z
    split
    ·exact lf z
    ·exact lf z
   ·intro h' b z
    exact wpAny_pure (fin h' b z)
  ·refine wpAny_bind (wpAny_pure ?_)
   simp only[if_true]
   refine d1d ?_ ho ex d el1 me1 (by omega) fe (by rw[List.length_append];simpa using n1) lf ?_
   ·intro b z q hq
    cases b
    ·exact wpAny_pure hq
    ·exact wpAny_rule hq
   ·intro h' b z
    exact wpAny_pure (fin h' b z)
end
end L2
set_option maxHeartbeats 3200000
namespace L2
open PySem PySem.Spec PyProof.Rows
def setO (w:World):Obj:={cls:=.type "set",dict:=none,data:=.set #[] 0 (.fresh 0 0 (!byT w))}
section
variable {P:Program}{w:World}{A:Around}{E:Value->Shared->Prop}{s:Shared}
theorem n1e (a:Value){q:Value->Shared->Prop}(h:q (.ref s.heap.objs.size) {s with heap:=s.heap.push (setO w)}) :
  codeAny (model P w) A (.call (.builtin "set.__new__") ⟨[.type "set",a],[]⟩) (wants q E) s:=by
 refine codeAny_of_tree (show wpAny _ A.in1 (do checkBuiltinCall "set.__new__" ⟨[.type "set",a],[]⟩;again (.builtin "set.__new__" ⟨[.type "set",a],[]⟩)) _ _ s from ?_)
 refine wpAny_bind (wpAny_of_eq (PySem.F.newCall_set_1 a) (wpAny_pure ⟨plainId_quiet PySem.F.plain_set_new _,codeAny_builtin PySem.F.entry_set_new ?_⟩))
 rw[Around.under_plainId PySem.F.plain_set_new _];unfold Builtin.«set.__new__» Builtin.Frozenset.newClass
 have su:=sub_set_self
 obtain⟨hp,g,d,tk,os⟩:=s
 dsimp only
 wp_walk
 refine wpAny_askSetting (wpAny_pure ?_)
 dsimp only;simp only[newObj]
 exact wpAny_bind (wpAny_alloc (wpAny_pure (wpAny_pure h)))
theorem e1a (h:Heap):SetI P w (h.push (setO w)) h.objs.size [] :=
 ⟨setO w,#[],0,_,Heap.get?_push_size _ rfl,⟨rfl,rfl,rfl⟩,rfl,λe he=>by simp at he,λk=>by simp,by decide,by rfl,rfl,λz=>⟨by simp[SetTable.fresh,z],by simp[Ris,SetTable.fresh]⟩⟩
variable {R:Result->Shared->Prop}{I:Addr}{fp wr:List Addr}{G:Array GenState->Array GenState->Prop}{n:Nat}{p:Nat->Value->Prop}{St:Nat->Shared->Prop}
theorem m1t (W:WalksS P w A.in1 I fp wr G n p St)(S:Addr)(hf:S∉fp)(f:Nat->Int)(hv:∀i v,p i v->∃t,v = .int (f i) t)(hb:n+1<scanBound) :
  ∀(k i:Nat) (z:Shared),n - i=k->i<=n->St i z->SetI P w z.heap S (firstMet f i) ->
   (∀z',Moved (S::wr) G z z'->SetI P w z'.heap S (firstMet f n)->R (.ok (.ret .none)) z')->codeAny (model P w) A (.builtin "set.update.loop" ⟨[.ref S,.ref I],[]⟩) R z:=by
 have hw:S∉wr:=λq=>hf (W.sub _ q)
 have sb:∀b∈wr,b∈S::wr:=λb q=>List.mem_cons_of_mem _ q
 intro k
 induction k with
 | zero =>
  intro i z hk hi st hS hR
  obtain rfl:i=n:=by omega
  refine codeAny_builtin PyProof.Rows.F.entry_set_update_loop ?_
  rw[Around.under_plainId PyProof.Rows.F.plain_set_update_loop _]
  refine(show wpAny _ A.in1 (pyNext (.ref I)>>=_) _ _ z from wpAny_bind (W.done z _ _ st λz' m=>?_))
  exact(show wpAny _ A.in1 (ret Value.none) _ _ z' from wpAny_pure (hR z' (m.mono sb) (hS.kept λo e=>m.heap S _ hw e)))
 | succ k ih =>
  intro i z hk hi st hS hR
  have lt:i<n:=by omega
  refine codeAny_builtin PyProof.Rows.F.entry_set_update_loop ?_
  rw[Around.under_plainId PyProof.Rows.F.plain_set_update_loop _]
  refine(show wpAny _ A.in1 (pyNext (.ref I)>>=_) _ _ z from wpAny_bind (W.item i z _ _ lt st λv z' hp st' m=>?_))
  obtain⟨t,rfl⟩:=hv i v hp
  have hS':SetI P w z'.heap S (firstMet f i):=hS.kept λo e=>m.heap S _ hw e
  refine(show wpAny _ A.in1 (holding [Value.int (f i) t] (setAdd S (.int (f i) t))>>=_) _ _ z' from wpAny_bind (wpAny_holding ?_))
  unfold setAdd
  refine wpAny_holding (wpAny_bind ((intKind P w).pyHash (k:=f i) (intKind_is _ _ _ _) ?_))
  have rm:(firstMet f i).length+1<scanBound:=by have:=firstMet_length_le f i;omega
  refine n1n (s:={z' with toks:=z'.toks+1}) (intKind_is _ _ _ _) rfl hS' rm λh' b hs hS2=>?_
  rw[<- firstMet_succ]at hS2
  refine wpAny_pure ⟨plainId_quiet PyProof.Rows.F.plain_set_update_loop _,ih (i+1) _ (by omega) lt (W.frame _ z' _ _ st' (Nat.le_succ _) λb hb o e=>?_) hS2 λz2 m2 hS3=>?_⟩
  ·rw[hs.2 b (λq:b=S=>hf (q▸hb))];exact e
  ·refine hR z2 (Moved.trans W.gtrans ((m.mono sb).then_heap (Nat.le_succ _) λb o hb e=>?_) m2) hS3
   rw[hs.2 b (λq:b=S=>hb (by rw[q];exact List.mem_cons_self))];exact e
end
section
variable {P:Program}{w:World}{A:Around}{E:Value->Shared->Prop}{s:Shared}
theorem m1y {l:Addr}{its:Array Value}{ns:List Int}{Q:Value->Shared->Prop}(hh:A.handled=none)(hl:s.heap.IsList l its)(hi:IntsAre its.toList ns)(hb:its.size+1<scanBound)
  (h:∀(h':Heap) (tk:Nat),SetI P w h' s.heap.objs.size (firstMet (λi=>ns.getD i 0) its.size)->(∀b o,s.heap.get? b=some o->h'.get? b=some o)->Q (.ref s.heap.objs.size) {s with heap:=h',toks:=tk}) :
  wpAny (model P w) A (call (.type "set") [.ref l]) Q E s:=by
 obtain⟨c,tl,mro⟩:=PySem.F.called_set.mro
 have md:=PySem.F.called_set.made
 have sb:=PySem.F.called_set.sub
 refine wpAny_call (codeAny_of_tree (show wpAny _ _ (callAny (.type "set") _) _ _ _ from ?_))
 refine wpAny_pure ⟨Code.quiet_builtin _ (by decide +kernel),codeAny_builtin PySem.F.entry_type_call ?_⟩
 rw[Around.under_plain (weight_type_call_type "set" [.ref l] []) rfl]
 have n1:=PySem.F.called_set.notType
 have n2:=PySem.F.called_set.canCreate
 have n3:=PySem.F.typeCall_set_1 (.ref l)
 repeat (any_goals (first | assumption | wp_step))
 refine codeAny_mono (n1e (.ref l) (E:=E) (q:=λob z=>ob = .ref s.heap.objs.size/\z={s with heap:=s.heap.push (setO w)}) ⟨rfl,rfl⟩) λr z hr=>?_
 cases r with
 | error e=>exact hr
 | ok fl =>
  cases fl with
  | ret ob =>
   obtain⟨rfl,rfl⟩:=hr
   have gS:(s.heap.push (setO w)).get? s.heap.objs.size=some (setO w):=Heap.get?_push_size _ rfl
   have tS:Shared.TypeIs {s with heap:=s.heap.push (setO w)} (.ref s.heap.objs.size) "set" := ⟨_,gS,rfl⟩
   have i1:=PySem.F.called_set.init.lookup
   have i2:=PySem.F.called_set.init.bind (.ref s.heap.objs.size)
   repeat (any_goals (first | assumption | wp_step))
   refine codeAny_mono (codeAny_call_builtin (R:=wants (λr z=>r = .none/\∃h' tk,z={s with heap:=h',toks:=tk}/\SetI P w h' s.heap.objs.size (firstMet (λi=>ns.getD i 0) its.size)/\(∀b o,s.heap.get? b=some o->h'.get? b=some o)) E) PySem.F.called_set.init.plain PySem.F.entry_set_init (check_set_init_1 tS ?_)) λr2 z2 hr2=>?_
   ·obtain⟨⟨oc,od,oda,osl⟩,ol,hc,nl,hd⟩:=hl
    simp only at hc hd;subst hc;subst hd
    have ol':(s.heap.push (setO w)).get? l=some {cls:=.type "list",dict:=od,data:=.seq its nl,slots:=osl}:=Heap.get?_push_of_some _ ol
    have s1:=PySem.F.sub_list_set
    have s2:=PySem.F.sub_list_frozenset
    have ne:(Value.type "list" == Value.type "dict")=false:=by decide
    have l1:(s.heap.push (setO w)).IsList l its:=⟨_,ol',rfl,nl,rfl⟩
    unfold Builtin.«set.__init__» noKeywords Builtin.Frozenset.updateFrom
    generalize hp:pyIter=pI
    wp_walk
    subst hp
    refine wpAny_pyIter_list l1 (wpAny_bind (wpAny_runValue ?_))
    have ll:l<s.heap.objs.size:=Heap.lt_size ol
    have h3:A.in1.in1.in1.handled=none:=by simp[hh]
    have nI:l≠(s.heap.push (setO w)).objs.size:=by rw[Heap.size_push];exact Nat.ne_of_lt (Nat.lt_succ_of_lt ll)
    have nf:s.heap.objs.size∉[(s.heap.push (setO w)).objs.size,l]:=by
     rw[Heap.size_push];simp only[List.mem_cons,List.not_mem_nil,or_false,not_or]
     exact⟨Nat.ne_of_lt (Nat.lt_succ_self _),Nat.ne_of_gt ll⟩
    have hv:∀(i:Nat) (v:Value),its[i]? = some v->∃t,v = .int ((λi=>ns.getD i 0) i) t:=λi v q=>IntsAre.int_at hi i v (by rw[Array.getElem?_toList];exact q)
    refine m1t ((Walks.list h3 _ l nI its).toS) s.heap.objs.size nf (λi=>ns.getD i 0) hv hb (its.size - 0) 0 _ (by omega) (Nat.zero_le _) ⟨⟨_,Heap.get?_push_size _ rfl,rfl,rfl⟩,(l1.push _)⟩ ?st ?fin
    case st=>exact(e1a s.heap).kept λo e=>Heap.get?_push_of_some _ e
    case fin =>
     intro z' m hS
     obtain⟨h',g',d',tk',os'⟩:=z'
     obtain rfl:g'=s.gens:=m.gens
     obtain rfl:d'=s.drawn:=m.drawn
     obtain rfl:os'=s.os:=m.os
     refine(show wpAny _ _ _ _ _ _ from wpAny_pure ?_)
     refine(show wpAny _ _ (ret Value.none) _ _ _ from wpAny_pure ⟨rfl,h',tk',rfl,hS,λb o e=>?_⟩)
     have lb:=Heap.lt_size e
     refine m.heap b o ?_ (Heap.get?_push_of_some _ (Heap.get?_push_of_some _ e))
     rw[Heap.size_push];simp only[List.mem_cons,List.not_mem_nil,or_false,not_or]
     exact⟨Nat.ne_of_lt lb,Nat.ne_of_lt (Nat.lt_succ_of_lt lb)⟩
   ·cases r2 with
    | error e=>exact hr2
    | ok f2 =>
     cases f2 with
     | ret r =>
      obtain⟨rfl,h',tk,rfl,hS,hk⟩:=hr2
      repeat (any_goals (first | assumption | wp_step))
      exact h _ _ hS hk
     | _=>exact hr2.elim
  | _=>exact hr.elim
end
end L2
set_option maxHeartbeats 1000000
namespace L2
open PySem PySem.Spec PyProof.Rows
theorem f0a:Slot "set_iterator" "__next__" "set_iterator.__next__" :=
 .of (owner := "set_iterator") (n := "__next__") (by rw[typeLookup_type,builtinLookup_eq_fast];kernel_rfl) (by decide +kernel) (by decide +kernel) (by decide +kernel) (by first | exact .inl (by decide +kernel) | exact .inr (by decide +kernel)) (by rw[isSubtype_type];kernel_rfl)
theorem l0q:entryFor table "set_iterator.__next__" = some Builtin.«set_iterator.__next__»:=entryFor_of_tree (by kernel_rfl)
theorem m0h:Slot "set_iterator" "__iter__" "set_iterator.__iter__" :=
 .of (owner := "set_iterator") (n := "__iter__") (by rw[typeLookup_type,builtinLookup_eq_fast];kernel_rfl) (by decide +kernel) (by decide +kernel) (by decide +kernel) (by first | exact .inl (by decide +kernel) | exact .inr (by decide +kernel)) (by rw[isSubtype_type];kernel_rfl)
theorem t0t:entryFor table "set.__iter__" = some Builtin.«frozenset.__iter__»:=entryFor_alias (id' := "frozenset.__iter__") (by kernel_rfl) rfl (by decide +kernel) (by kernel_rfl)
theorem m0a {α:Type}:∀(l:List α) (i:Nat) (h:i<l.length),(l[i]::l.eraseIdx i).Perm l
 | a::l,0,_=>.refl _
 | a::l,i+1,h=>(List.Perm.swap _ _ _).trans (List.Perm.cons a (m0a l i (by simpa using h)))
theorem a1t {α:Type}(f:Nat->Nat):∀(n k:Nat) (l:List α) (o:Array α),l.length=n->List.Perm (pickOrder.go f n k l o).toList (o.toList++l)
 | 0,k,l,o,h=>by
  obtain rfl:l=[]:=List.eq_nil_of_length_eq_zero h
  unfold pickOrder.go;simp
 | n+1,k,l,o,h=>by
  unfold pickOrder.go
  have lt:f k % l.length<l.length:=Nat.mod_lt _ (by omega)
  rw[List.getElem?_eq_getElem lt]
  dsimp only
  refine(a1t f n (k+1) _ _ (by rw[List.length_eraseIdx_of_lt lt];omega)).trans ?_
  rw[Array.toList_push,List.append_assoc]
  exact List.Perm.append_left _ (m0a l _ lt)
theorem a1s {α:Type}(f:Nat->Nat)(xs:Array α):List.Perm (pickOrder f xs).toList xs.toList:=by
 have:=a1t f xs.size 0 xs.toList #[] (by simp)
 simpa [pickOrder] using this
theorem p0p:∀ {ks ms:List Int},ks.Nodup->(∀k∈ks,k∈ms)->ms.length=ks.length->ms.Perm ks
 | [],ms,_,_,h=>by rw[List.eq_nil_of_length_eq_zero h]
 | k::ks,ms,hn,hm,h=>by
  obtain⟨h1,h2⟩:=List.nodup_cons.mp hn
  have hk:=hm k (.head _)
  have p:=List.perm_cons_erase hk
  refine p.trans (List.Perm.cons k (p0p h2 (λj hj=>?_) ?_))
  ·have ne:j≠k:=λe=>h1 (by rw[<- e];exact hj)
   exact(List.mem_erase_of_ne ne).mpr (hm j (.tail _ hj))
  ·rw[List.length_erase_of_mem hk,h];simp
section
variable {P:Program}{w:World}{A:Around}{E:Value->Shared->Prop}{s:Shared}
theorem z0k {src:Source}{n:Nat}{Q:Nat->Shared->Prop}(hn:n≠0)(h:∀i d,i<n->Q i {s with drawn:=d}):wpAny (model P w) A (choose src n) Q E s:=by
 intro Γ p hΓ
 unfold choose
 simp only[Sem.wp]
 exact⟨hn,h _ _ (Nat.mod_lt _ (Nat.pos_of_ne_zero hn))⟩
theorem w0n {α:Type}:∀(n:Nat) (xs:List α) {s:Shared} {Q:List α->Shared->Prop},xs.length=n->(∀ys d,ys.Perm xs->Q ys {s with drawn:=d})->wpAny (model P w) A (drawOrder n xs) Q E s
 | 0,xs,s,Q,hl,h=>by
  obtain rfl:xs=[]:=List.eq_nil_of_length_eq_zero hl
  unfold drawOrder
  exact wpAny_pure (h [] s.drawn (.refl _))
 | n+1,x::xs,s,Q,hl,h=>by
  unfold drawOrder
  refine wpAny_bind (z0k (by simp) λi d hi=>?_)
  rw[List.getElem?_eq_getElem hi]
  refine wpAny_bind (w0n n _ (by rw[List.length_eraseIdx_of_lt hi,hl];rfl) λys d' hp=>?_)
  exact wpAny_pure (h _ d' ((List.Perm.cons _ hp).trans (m0a _ i hi)))
theorem f1x {s:Shared}{Q:Value->Shared->Prop}{R:Value->Shared->Prop}{α:Type}{q:α->Shared->Prop}(hh:A.handled=none)(h:∀x h',(∀b o,s.heap.get? b=some o->h'.get? b=some o)->({s with heap:=h'}:Shared).TypeIs x "StopIteration" -> R x {s with heap:=h'}) :
  wpAny (model P w) A (newExc (.type "StopIteration") []>>=λx=>(raiseNew x:Sem α)) q R s:=by
 have ho:∃n,n<=10/\(ownMembersOf (Value.type "StopIteration") []).size=n:=by
  first
  | exact⟨_,by decide,rfl⟩
  | exact⟨(ownMembersOf (Value.type "StopIteration") []).size,by decide +kernel,rfl⟩
 obtain⟨no,hno,eno⟩:=ho
 refine wpAny_bind (wpAny_bind (wpAny_newObj_type (wpAny_bind (wpAny_of_eq rfl (wpAny_newObj_type ?_ (by first | trivial | (unfold sizeOk;trivial) | (simp[sizeOk,sizeLine_eq,eno];omega) | (simp only[sizeOk,Array.size_append,eno,sizeLine_eq];simp;omega))))) (by show 0<=sizeLine;decide)))
 refine wpAny_bind (wpAny_handled ?_)
 rw[hh]
 refine wpAny_bind (wpAny_pure (wpAny_throw (h _ _ (λb o q=>Heap.get?_push_of_some _ (Heap.get?_push_of_some _ q)) ?_)))
 exact⟨_,Heap.get?_push_size _ rfl,rfl⟩
def itO (f:Value)(i:Nat)(S:Addr)(n ep:Nat):Obj:={cls:=.type "set_iterator",data:=.fields #[f,rawInt (i:Nat),.ref S,rawInt (n:Nat),rawInt (ep:Nat)]}
variable {I S:Addr}{o:Obj}{es:Array (Int×Value)}{ep:Nat}{t:SetTable}
theorem x0k {f i:Nat}{r:Option (Value×Nat)}{Q:Option Value->Shared->Prop}(hh:A.handled=none)(hI:s.heap.get? I=some (itO (rawInt (f:Nat)) i S es.size ep))(hS:s.heap.get? S=some o)(hd:o.data = .set es ep t)(hf:t.fits es.size=true)
  (hn:∀(A:Around) (E:Value->Shared->Prop) (q:Option (Value×Nat)->Shared->Prop),q r s->wpAny (model P w) A (setNext S f i ep) q E s)
  (hq:∀x k h',r=some (x,k)->h'.get? I=some (itO (rawInt (k:Nat)) (i+1) S es.size ep)->(∀b o,b≠I->s.heap.get? b=some o->h'.get? b=some o)->Q (some x) {s with heap:=h'})
  (he:∀h',r=none->(∀b o,b≠I->s.heap.get? b=some o->h'.get? b=some o)->Q none {s with heap:=h'}):wpAny (model P w) A (pyNext (.ref I)) Q E s:=by
 have hT:s.TypeIs (.ref I) "set_iterator" := by
  first
  | exact⟨_,hI,rfl⟩
  | exact⟨_,_,hI,rfl⟩
 refine wpAny_bind (wpAny_attempt (wpAny_callSpecial?_slot hT f0a (wpAny_call_entry f0a hT l0q (wpAny_bind (wpAny_pure (wpAny_bind (wpAny_fieldsOf hI rfl ?_)))))))
 show wpAny _ _ (setEntries S>>=_) _ _ _
 refine wpAny_bind (wpAny_setEntries_of hS hd hf ?_)
 show wpAny _ _ (ite (((es.size:Int) != (es.size:Int))=true) _ _) _ _ _
 rw[if_neg (by simp)]
 show wpAny _ _ (setNext S f i ep>>=_) _ _ _
 refine wpAny_bind (hn _ _ _ ?_)
 cases r with
 | some p =>
  obtain⟨x,k⟩:=p
  refine wpAny_bind (wpAny_setField_rec hI (by show 0<5;decide) λh1 g1 sb1=>?_)
  refine wpAny_bind (wpAny_setField_rec g1 (by show 1<5;decide) λh2 g2 sb2=>?_)
  exact wpAny_pure ⟨_,rfl,wpAny_pure (hq x k h2 rfl g2 λb o hb q=>(sb2.2 b hb).trans ((sb1.2 b hb).trans q))⟩
 | none =>
  refine wpAny_bind (wpAny_setField_rec hI (by show 2<5;decide) λh1 g1 sb1=>?_)
  refine f1x (Q:=λ_ _=>True) (by exact hh) λx h' hk hx=>?_
  refine wpAny_bind (wpAny_isInstance (T := "StopIteration") hx isSubtype_stop (wpAny_pure (he h' rfl λb o hb q=>hk b o ((sb1.2 b hb).trans q))))
theorem p0v {T:Addr}{i:Nat}{ps:List Nat}{Q:Option Value->Shared->Prop}(hh:A.handled=none)(hI:s.heap.get? I=some (itO (.ref T) i S es.size ep))(hT2:s.heap.get? T=some {cls:=.type "tuple",data:=.seq (ps.map λp=>rawInt (p:Nat)).toArray})(hS:s.heap.get? S=some o)(hd:o.data = .set es ep t)(hf:t.fits es.size=true)
  (hq:∀p e h',ps[i]? = some p->es[p]? = some e->h'.get? I=some (itO (.ref T) (i+1) S es.size ep)->(∀b o,b≠I->s.heap.get? b=some o->h'.get? b=some o)->Q (some e.2) {s with heap:=h'}) (hp:∀p∈ps,p<es.size)
  (he:∀h',ps[i]? = none->(∀b o,b≠I->s.heap.get? b=some o->h'.get? b=some o)->Q none {s with heap:=h'}):wpAny (model P w) A (pyNext (.ref I)) Q E s:=by
 have hT:s.TypeIs (.ref I) "set_iterator" := by
  first
  | exact⟨_,hI,rfl⟩
  | exact⟨_,_,hI,rfl⟩
 refine wpAny_bind (wpAny_attempt (wpAny_callSpecial?_slot hT f0a (wpAny_call_entry f0a hT l0q (wpAny_bind (wpAny_pure (wpAny_bind (wpAny_fieldsOf hI rfl ?_)))))))
 show wpAny _ _ (setEntries S>>=_) _ _ _
 refine wpAny_bind (wpAny_setEntries_of hS hd hf ?_)
 show wpAny _ _ (ite (((es.size:Int) != (es.size:Int))=true) _ _) _ _ _
 rw[if_neg (by simp)]
 show wpAny _ _ (seqItems? (.ref T)>>=_) _ _ _
 refine wpAny_bind (wpAny_seqItems hT2 rfl ?_)
 dsimp only
 rw[List.getElem?_toArray,Int.toNat_natCast,List.getElem?_map]
 cases hx:ps[i]? with
 | some p =>
  have lp:=hp p (List.mem_of_getElem? hx)
  have ge:es[p]? = some es[p]:=Array.getElem?_eq_getElem lp
  show wpAny _ _ (setNextDrawn S p ep>>=_) _ _ _
  refine wpAny_bind ?_
  unfold setNextDrawn
  refine wpAny_bind (wpAny_setState_of hS hd hf ?_)
  show wpAny _ _ (ite ((ep != ep)=true) _ _) _ _ _
  rw[if_neg (by simp)]
  show wpAny _ _ (match es[p]? with | some (_,x)=>pure x | _=>_) _ _ _
  rw[ge]
  refine wpAny_pure ?_
  refine wpAny_bind (wpAny_setField_rec hI (by show 1<5;decide) λh1 g1 sb1=>?_)
  exact wpAny_pure ⟨_,rfl,wpAny_pure (hq p es[p] h1 hx ge g1 λb o hb q=>(sb1.2 b hb).trans q)⟩
 | none =>
  show wpAny _ _ (setField (.ref I) 0 (rawInt 0)>>=_) _ _ _
  refine wpAny_bind (wpAny_setField_rec hI (by show 0<5;decide) λh1 g1 sb1=>?_)
  refine wpAny_bind (wpAny_setField_rec g1 (by show 2<5;decide) λh2 g2 sb2=>?_)
  refine f1x (Q:=λ_ _=>True) (by exact hh) λx h' hk hx'=>?_
  exact wpAny_bind (wpAny_isInstance (T := "StopIteration") hx' isSubtype_stop (wpAny_pure (he h' hx λb o hb q=>hk b o ((sb2.2 b hb).trans ((sb1.2 b hb).trans q)))))
theorem h1o {f i:Nat}{Q:Option (Value×Nat)->Shared->Prop}(hb:byT w=true)(hS:s.heap.get? S=some o)(hd:o.data = .set es ep t)(hf:t.fits es.size=true)
  (h:Q (((pickOrder (w.params.setOrder S ep) es)[i]?).map λe=>(e.2,f)) s):wpAny (model P w) A (setNext S f i ep) Q E s:=by
 unfold byT at hb
 unfold setNext setsByText
 refine wpAny_bind (wpAny_setState_of hS hd hf ?_)
 refine wpAny_bind (wpAny_bind (wpAny_askSetting (wpAny_pure ?_)))
 show wpAny _ _ (ite (w.params.followText "set-order" = true) _ _) _ _ _
 rw[if_pos hb]
 show wpAny _ _ (ite ((ep != ep)=true) _ _) _ _ _
 rw[if_neg (by simp)]
 unfold setWalk setsByText
 refine wpAny_bind (wpAny_bind (wpAny_setState_of hS hd hf ?_))
 refine wpAny_bind (wpAny_bind (wpAny_askSetting (wpAny_pure ?_)))
 show wpAny _ _ (ite (w.params.followText "set-order" = true) _ _) _ _ _
 rw[if_pos hb]
 exact wpAny_bind (wpAny_askSetting (wpAny_pure (wpAny_pure h)))
theorem h1p {f i:Nat}{Q:Option (Value×Nat)->Shared->Prop}(hb:byT w=false)(hp:(!t.plain&&decide (es.size > 1))=false)(hl:t.led=true)(hS:s.heap.get? S=some o)(hd:o.data = .set es ep t)(hf:t.fits es.size=true)
  (h:Q (match es[SetTable.below t.place f]?,t.place[SetTable.below t.place f]? with | some (_,x),some j=>some (x,j+1) | _,_=>none) s):wpAny (model P w) A (setNext S f i ep) Q E s:=by
 unfold byT at hb
 unfold setNext setsByText
 refine wpAny_bind (wpAny_setState_of hS hd hf ?_)
 refine wpAny_bind (wpAny_bind (wpAny_askSetting (wpAny_pure ?_)))
 show wpAny _ _ (ite (w.params.followText "set-order" = true) _ _) _ _ _
 rw[if_neg (by rw[hb];simp)]
 show wpAny _ _ (ite ((!t.plain&&decide (es.size > 1))=true) _ _) _ _ _
 rw[if_neg (by rw[hp];simp)]
 show wpAny _ _ (ite ((!t.led && !es.isEmpty)=true) _ (pure ())>>=_) _ _ _
 rw[if_neg (by rw[hl];simp)]
 exact wpAny_bind (wpAny_pure (wpAny_pure h))
end
theorem r0s:entryFor table "set_iterator.__iter__" = some Builtin.«dict_keyiterator.__iter__»:=entryFor_alias (id' := "dict_keyiterator.__iter__") (by kernel_rfl) rfl (by decide +kernel) (by kernel_rfl)
theorem c1e {α:Type}{es:Array α}:∀(ps:List Nat),(∀p∈ps,p<es.size)->(ps.filterMap λp=>es[p]?).length=ps.length
 | [],_=>rfl
 | p::ps,h=>by
  rw[List.filterMap_cons,Array.getElem?_eq_getElem (h p (.head _))]
  simp[c1e ps λq hq=>h q (.tail _ hq)]
theorem m1a {α:Type}{es:Array α}:∀(ps:List Nat),(∀p∈ps,p<es.size)->∀i:Nat,(ps.filterMap λp=>es[p]?)[i]? = (ps[i]?).bind λp=>es[p]?
 | [],_,i=>by simp
 | p::ps,h,i=>by
  rw[List.filterMap_cons,Array.getElem?_eq_getElem (h p (.head _))]
  cases i with
  | zero=>simp[h p (.head _)]
  | succ i=>simpa using m1a ps (λq hq=>h q (.tail _ hq)) i
section
variable {P:Program}{w:World}{A:Around}{E:Value->Shared->Prop}{s:Shared}{I S:Addr}{o:Obj}{es:Array (Int×Value)}{ep:Nat}{t:SetTable}
theorem a1f {f:Value}{i n:Nat}{Q:Value->Shared->Prop}(hI:s.heap.get? I=some (itO f i S n ep))(h:Q (.ref I) s):wpAny (model P w) A (pyIter (.ref I)) Q E s:=by
 have hT:s.TypeIs (.ref I) "set_iterator" := by
  first
  | exact⟨_,hI,rfl⟩
  | exact⟨_,_,hI,rfl⟩
 refine wpAny_pyIter_slot hT m0h (wpAny_call_entry m0h hT r0s ?_)
 exact(show wpAny _ _ (ret (.ref I)) _ _ s from wpAny_pure ⟨_,rfl, "set_iterator",_,hT,f0a.lookup,h⟩)
theorem w0o (hh:A.handled=none)(hne:S≠I)(hd:o.data = .set es ep t)(hf:t.fits es.size=true)(vs:List Value)(nx:Nat->Nat)
  (hs:∀i (s:Shared),i<=vs.length->s.heap.get? S=some o->∀(A:Around) (E:Value->Shared->Prop) (q:Option (Value×Nat)->Shared->Prop),q ((vs[i]?).map λx=>(x,nx (i+1))) s->wpAny (model P w) A (setNext S (nx i) i ep) q E s) :
  Walks P w A I [I,S] [I] vs.length (λi v=>vs[i]? = some v) (λi h=>h.get? I=some (itO (rawInt (nx i:Nat)) i S es.size ep)/\h.get? S=some o) where
 sub:=λb hb=>by simp at hb;simp[hb]
 frame:=λ_ _ _ st hk=>⟨hk I (by simp) _ st.1,hk S (by simp) _ st.2⟩
 item:=λi s Q E hi st hQ=>by
  have gv:vs[i]? = some vs[i]:=List.getElem?_eq_getElem hi
  refine x0k hh st.1 st.2 hd hf (hs i s (by omega) st.2) (λx k h' e g kp=>?_) (λh' e=>?_)
  ·rw[gv]at e
   simp only[Option.map_some,Option.some.injEq,Prod.mk.injEq]at e
   obtain⟨rfl,rfl⟩:=e
   exact hQ _ h' s.toks gv ⟨g,kp S _ hne st.2⟩ λb o hb q=>kp b o (λz=>hb (by simp[z])) q
  ·rw[gv]at e;cases e
 done:=λs Q E st hQ=>by
  have gn:vs[vs.length]? = none:=by simp
  refine x0k hh st.1 st.2 hd hf (hs vs.length s (Nat.le_refl _) st.2) (λx k h' e g kp=>?_) (λh' e kp=>?_)
  ·rw[gn]at e;cases e
  ·exact hQ h' s.toks λb o hb q=>kp b o (λz=>hb (by simp[z])) q
 self:=λ_ _ _ _ st hQ=>a1f st.1 hQ
theorem y0c {T:Addr}(hh:A.handled=none)(hne:S≠I)(hn2:T≠I)(hd:o.data = .set es ep t)(hf:t.fits es.size=true)(ps:List Nat)(hp:∀p∈ps,p<es.size)(hl:ps.length=es.size) :
  Walks P w A I [I,S,T] [I] (ps.filterMap λp=>es[p]?).length (λi v=>(((ps.filterMap λp=>es[p]?).map (·.2))[i]? = some v)) (λi h=>h.get? I=some (itO (.ref T) i S es.size ep)/\h.get? S=some o/\h.get? T=some {cls:=.type "tuple",data:=.seq (ps.map λp=>rawInt (p:Nat)).toArray}) where
 sub:=λb hb=>by simp at hb;simp[hb]
 frame:=λ_ _ _ st hk=>⟨hk I (by simp) _ st.1,hk S (by simp) _ st.2.1,hk T (by simp) _ st.2.2⟩
 item:=λi s Q E hi st hQ=>by
  have fm:=m1a ps hp
  refine p0v hh st.1 st.2.2 st.2.1 hd hf (λp e h' e1 e2 g kp=>?_) hp (λh' e=>?_)
  ·refine hQ _ h' s.toks ?_ ⟨g,kp S _ hne st.2.1,kp T _ hn2 st.2.2⟩ λb o hb q=>kp b o (λz=>hb (by simp[z])) q
   rw[List.getElem?_map,fm,e1]
   simp[e2]
  ·have:ps.length<=i:=List.getElem?_eq_none_iff.mp e
   rw[c1e ps hp]at hi
   omega
 done:=λs Q E st hQ=>by
  refine p0v hh st.1 st.2.2 st.2.1 hd hf (λp e h' e1 e2 g kp=>?_) hp (λh' e kp=>?_)
  ·rw[c1e ps hp]at e1
   simp at e1
  ·exact hQ h' s.toks λb o hb q=>kp b o (λz=>hb (by simp[z])) q
 self:=λ_ _ _ _ st hQ=>a1f st.1 hQ
end
def nxS (t:SetTable):Nat->Nat
 | 0=>0
 | k+1=>t.place.getD k 0+1
section
variable {P:Program}{w:World}{A:Around}{E:Value->Shared->Prop}{s:Shared}{I S:Addr}{o:Obj}{es:Array (Int×Value)}{ep:Nat}{t:SetTable}
theorem v0n:∀ {l:List (Int×Value)},ElemsOf (intKind P w) l->∃ms,IntsAre (l.map (·.2)) ms/\∀k,k∈ms↔∃e∈l,(intKind P w).is k e.2=true
 | [],_=>⟨[],.nil,λk=>by simp⟩
 | e::l,h=>by
  obtain⟨ms,h1,h2⟩:=v0n h.tail
  obtain⟨⟨k,hk,_⟩,_⟩:=h.head
  obtain⟨tk,ev⟩:=Value.isInt_shape hk
  refine⟨k::ms,by rw[List.map_cons,ev];exact .cons k tk h1,λj=>?_⟩
  rw[List.mem_cons,h2 j]
  constructor
  ·rintro(rfl | ⟨y,hy,q⟩)
   ·exact⟨e,.head _,hk⟩
   ·exact⟨y,.tail _ hy,q⟩
  ·rintro⟨y,hy,q⟩
   rcases List.mem_cons.mp hy with rfl | hy
   ·exact .inl ((intKind P w).inj _ j k q hk)
   ·exact .inr ⟨y,hy,q⟩
theorem l1p {ks:List Int}{Q:Value->Shared->Prop}(hh:A.handled=none)(hS:SetI P w s.heap S ks)(hk:ks.Nodup)
  (h:∀h' d I fp vs ms St,(∀b o,s.heap.get? b=some o->h'.get? b=some o)->IntsAre vs ms->ms.Perm ks->Walks P w A I fp [I] vs.length (λi v=>vs[i]? = some v) St->St 0 h'->(∀b∈fp,b=S∨s.heap.objs.size<=b)->s.heap.objs.size<=I->Q (.ref I) {s with heap:=h',drawn:=d}) :
  wpAny (model P w) A (pyIter (.ref S)) Q E s:=by
 obtain⟨o,es,ep,t,ho,ex,d,el,me,bd,fi,le,ld⟩:=hS
 obtain⟨⟨oc,od,oda,osl⟩,ho,ex,d⟩:∃o:Obj,s.heap.get? S=some o/\o.ExactSet/\o.data = .set es ep t:=⟨o,ho,ex,d⟩
 have hT:s.TypeIs (.ref S) "set" := ⟨_,ho,ex.1⟩
 have hlt:S<s.heap.objs.size:=Heap.lt_size ho
 obtain⟨ms,m1,m2⟩:=v0n el
 have mp:∀ {l:List (Int×Value)},l.Perm es.toList->∃ms',IntsAre (l.map (·.2)) ms'/\ms'.Perm ks:=λ{l} q=>by
  obtain⟨ms',a1,a2⟩:=v0n (el.perm q)
  have hl:ms'.length=ks.length:=by
   have:=IntsAre.length a1
   rw[List.length_map,q.length_eq,Array.length_toList]at this
   omega
  refine⟨ms',a1,p0p hk (λk kk=>?_) hl⟩
  obtain⟨e,he,z⟩:=(me k).mp kk
  exact(a2 k).mpr ⟨e,q.mem_iff.mpr he,z⟩
 refine wpAny_pyIter_slot hT PySem.F.slot_set_iter (wpAny_call_entry PySem.F.slot_set_iter hT t0t ?_)
 unfold Builtin.«frozenset.__iter__» Builtin.Frozenset.slot0
 refine wpAny_bind (wpAny_bind (wpAny_pure (wpAny_pure ?_)))
 unfold Builtin.Frozenset.sizeOf
 refine wpAny_bind (wpAny_bind (wpAny_setEntries_of ho d fi (wpAny_pure ?_)))
 unfold setDrawn setsByText
 refine wpAny_bind (wpAny_bind (wpAny_setState_of ho d fi (wpAny_bind (wpAny_bind (wpAny_askSetting (wpAny_pure (wpAny_pure ?_)))))))
 show wpAny _ _ (ite ((!byT w&&(!t.plain&&decide (es.size > 1)))=true) (drawOrder es.size (List.range es.size)>>=_) _) _ _ _
 have hz:es.size<=sizeLine:=fits_of_scanBound bd
 have fin:∀(f:Value) (h1:Heap) (dr:Drawn) (fp:List Addr) (vs:List Value) (ms:List Int) (St:Nat->Heap->Prop),(∀b o,s.heap.get? b=some o->h1.get? b=some o)->s.heap.objs.size<=h1.objs.size->IntsAre vs ms->ms.Perm ks ->
   Walks P w A h1.objs.size fp [h1.objs.size] vs.length (λi v=>vs[i]? = some v) St->St 0 (h1.push (itO f 0 S es.size ep))->(∀b∈fp,b=S∨s.heap.objs.size<=b) ->
   wpAny (model P w) A.in1 (do let e <- setEpoch S;let x <- newFields "set_iterator" [f,rawInt 0,Value.ref S,rawInt (es.size:Nat),rawInt (e:Nat)];ret x) (λfin s'=>∃v,fin=Fin.done (Flow.ret v)/\∃T' r,s'.TypeIs v T'/\typeLookup (Value.type T') (Str.ofString "__next__")=pure (some r)/\Q v s') E {s with heap:=h1,drawn:=dr}:=by
  intro f h1 dr fp vs ms St k1 k2 a1 a2 W st hb
  refine wpAny_bind (wpAny_setEpoch_of (s:={s with heap:=h1,drawn:=dr}) (k1 _ _ ho) d fi ?_)
  unfold newFields
  refine wpAny_bind (wpAny_newObj_type (wpAny_pure ⟨_,rfl, "set_iterator",_,⟨_,Heap.get?_push_size _ rfl,rfl⟩,f0a.lookup,?_⟩) (by show 5<=sizeLine+2;decide))
  exact h _ dr _ fp vs ms St (λb o q=>Heap.get?_push_of_some _ (k1 b o q)) a1 a2 W st hb k2
 by_cases hdr:(!byT w&&(!t.plain&&decide (es.size > 1)))=true
 ·rw[if_pos hdr]
  refine wpAny_bind (w0n _ _ (by simp) λps dr hp=>?_)
  have lp:∀p∈ps,p<es.size:=λp q=>List.mem_range.mp (hp.mem_iff.mp q)
  have ll:ps.length=es.size:=by rw[hp.length_eq];simp
  refine wpAny_bind (wpAny_newTuple ?_ (by rw[List.length_map,ll];exact hz))
  have pp:(ps.filterMap λp=>es[p]?).Perm es.toList:=(hp.filterMap _).trans (by rw[filterMap_getElem?_range])
  obtain⟨ms',a1,a2⟩:=mp pp
  have nT:s.heap.objs.size≠(s.heap.push {cls:=.type "tuple",data:=.seq (ps.map λi=>rawInt (i:Nat)).toArray}).objs.size:=by rw[Heap.size_push];exact Nat.ne_of_lt (Nat.lt_succ_self _)
  have nS:S≠(s.heap.push {cls:=.type "tuple",data:=.seq (ps.map λi=>rawInt (i:Nat)).toArray}).objs.size:=by rw[Heap.size_push];exact Nat.ne_of_lt (Nat.lt_succ_of_lt hlt)
  have W:=y0c (P:=P) (w:=w) (A:=A) hh nS nT d fi ps lp ll
  have el2:(ps.filterMap λp=>es[p]?).length=((ps.filterMap λp=>es[p]?).map (·.2)).length:=by rw[List.length_map]
  rw[el2]at W
  refine fin (.ref s.heap.objs.size) _ dr [_,S,s.heap.objs.size] ((ps.filterMap λp=>es[p]?).map (·.2)) ms' _ (λb o q=>Heap.get?_push_of_some _ q) (by rw[Heap.size_push];exact Nat.le_succ _) a1 a2 W ⟨Heap.get?_push_size _ rfl,Heap.get?_push_of_some _ (Heap.get?_push_of_some _ ho),Heap.get?_push_of_some _ (Heap.get?_push_size _ rfl)⟩ λb hb=>?_
  rcases List.mem_cons.mp hb with rfl | hb
  ·exact .inr (by rw[Heap.size_push];exact Nat.le_succ _)
  ·rcases List.mem_cons.mp hb with rfl | hb
   ·exact .inl rfl
   ·rw[List.mem_singleton.mp hb];exact .inr (Nat.le_refl _)
 ·rw[if_neg hdr]
  refine wpAny_bind (wpAny_pure ?_)
  have nS:S≠s.heap.objs.size:=Nat.ne_of_lt hlt
  have hfp:∀b∈[s.heap.objs.size,S],b=S∨s.heap.objs.size<=b:=λb hb=>by
   rcases List.mem_cons.mp hb with rfl | hb
   ·exact .inr (Nat.le_refl _)
   ·exact .inl (List.mem_singleton.mp hb)
  cases hb:byT w with
  | true =>
   have pp:=a1s (w.params.setOrder S ep) es
   obtain⟨ms',a1,a2⟩:=mp pp
   refine fin (rawInt 0) s.heap s.drawn [s.heap.objs.size,S] _ ms' _ (λb o q=>q) (Nat.le_refl _) a1 a2 (w0o hh nS d fi _ (λ_=>0) λi z hi hz' A' E' q hq=>h1o hb hz' d fi ?_) ⟨Heap.get?_push_size _ rfl,Heap.get?_push_of_some _ ho⟩ hfp
   rw[List.getElem?_map,Array.getElem?_toList,Option.map_map]at hq
   exact hq
  | false =>
   obtain⟨l1,l2⟩:=ld hb
   rw[hb]at hdr
   have hpl:(!t.plain&&decide (es.size > 1))=false:=by
    cases z:(!t.plain&&decide (es.size > 1))with
    | false=>rfl
    | true=>rw[z]at hdr;exact absurd rfl hdr
   have sz:t.place.size=es.size:=by
    simp only[SetTable.fits,Bool.and_eq_true,beq_iff_eq]at fi
    exact fi.1
   obtain⟨ms',a1,a2⟩:=mp (l:=es.toList) (.refl _)
   refine fin (rawInt 0) s.heap s.drawn [s.heap.objs.size,S] _ ms' _ (λb o q=>q) (Nat.le_refl _) a1 a2 (w0o hh nS d fi _ (nxS t) λi z hi hz' A' E' q hq=>h1p hb hpl l1 hz' d fi ?_) ⟨Heap.get?_push_size _ rfl,Heap.get?_push_of_some _ ho⟩ hfp
   rw[List.length_map,Array.length_toList]at hi
   have hbl:SetTable.below t.place (nxS t i)=i:=by
    cases i with
    | zero=>exact z0e l2
    | succ k =>
     have lk:k<t.place.size:=by omega
     have:=z0f l2 lk
     simpa [nxS,Array.getD,lk] using this
   rw[hbl]
   rw[List.getElem?_map,Array.getElem?_toList]at hq
   by_cases hi':i<es.size
   ·have g1:es[i]? = some es[i]:=Array.getElem?_eq_getElem hi'
    have g2:t.place[i]? = some t.place[i]:=Array.getElem?_eq_getElem (by omega)
    rw[g1]at hq ⊢
    rw[g2]
    have e3:t.place.getD i 0=t.place[i]:=by simp[Array.getD,show i<t.place.size by omega]
    simp only[Option.map_some,nxS,e3]at hq
    exact hq
   ·have g1:es[i]? = none:=Array.getElem?_eq_none (by omega)
    rw[g1]at hq ⊢
    exact hq
end
section
variable {P:Program}{w:World}{A:Around}{E:Value->Shared->Prop}{s:Shared}{S:Addr}
theorem e1u {Q:Bool->Shared->Prop}(hT:s.TypeIs (.ref S) "set")(h:Q false s):wpAny (model P w) A (Builtin.List.listLengthHint (.ref S)) Q E s:=by
 unfold Builtin.List.listLengthHint
 refine wpAny_bind (wpAny_specialOf hT PySem.F.slot_set_len.lookup ?_)
 generalize hid:("set.__len__" : String)=id0
 wp_delta
 rw[show splitId id0=some ("set", "__len__")from by subst hid;decide +kernel]
 subst hid
 refine wpAny_bind (wpAny_isInstance (T := "set") (b:=true) hT (by rw[isSubtype_type];kernel_rfl) ?_)
 refine wpAny_ite_split (λz=>absurd z (by decide)) (λ_=>wpAny_ite_split (λ_=>wpAny_bind (wpAny_typeOf hT (wpAny_pure h))) (λz=>absurd (by decide +kernel) z))
theorem n1i {ks:List Int}{R:Result->Shared->Prop}(hh:A.handled=none)(hS:SetI P w s.heap S ks)(hk:ks.Nodup)(hz:ks.length<4096)(L:Addr)(hL:L≠S)(res:Value)(c:Nat)(gL:s.heap.get? L=some {cls:=.type "list",data:=.seq #[] c})
  (hR:∀h' tk dr acc c' ms,(∀b o,b≠L->s.heap.get? b=some o->h'.get? b=some o)->h'.get? L=some {cls:=.type "list",dict:=none,data:=.seq acc c',slots:=#[]}->IntsAre acc.toList ms->ms.Perm ks->R (.ok (.ret res)) {s with heap:=h',toks:=tk,drawn:=dr}) :
  wpAny (model P w) A.in1 (Builtin.List.listExtendWith (.ref L) (.ref S) res)
   (λfin s'=>match fin with | .done f=>R (.ok f) s' | .again c'=>c'.quiet=true/\codeAny (model P w) A c' R s') (λe s'=>R (.error e) s') s:=by
 have hT:s.TypeIs (.ref S) "set" := by
  obtain⟨o,_,_,_,ho,ex,_⟩:=hS
  exact⟨_,ho,ex.1⟩
 have lL:=Heap.lt_size gL
 unfold Builtin.List.listExtendWith
 refine wpAny_bind (wpAny_typeOf (T := "set") hT ?_)
 have h1:Builtin.List.listSameRef (.ref L) (.ref S)=false:=by simp[Builtin.List.listSameRef,hL]
 have h2:(Value.type "set" == Value.type "list")=false:=by decide
 have h3:(Value.type "set" == Value.type "tuple")=false:=by decide
 simp only[h1,h2,h3,Bool.or_false,Bool.false_eq_true,if_false]
 refine wpAny_bind (l1p (A:=A.in1) hh hS hk λh' dr I fp vs ms St kp a1 a2 W st hb hI=>?_)
 have nf:L∉fp:=λq=>by
  rcases hb L q with e | e
  ·exact hL e
  ·exact absurd lL (Nat.not_lt.mpr e)
 have vl:vs.length<=sizeLine:=by
  have:=IntsAre.length a1
  have:=a2.length_eq
  exact fits_of_scanBound (show vs.length<scanBound by unfold scanBound;omega)
 have key:∀(h:Heap) (c1:Nat),St 0 h->(∀b o,b≠L->s.heap.get? b=some o->h.get? b=some o)->h.get? L=some {cls:=.type "list",data:=.seq #[] c1} ->
   codeAny (model P w) A (.builtin "list.extend.loop" ⟨[.ref L,.ref I,res],[]⟩) R {s with heap:=h,drawn:=dr}:=by
  intro h c1 st' hk' gL'
  refine codeAny_extend_loopS W.toS vl L nf res vs.length 0 _ #[] c1 rfl (Nat.zero_le _) st' gL' (ItemsOf.nil _) λz acc c2 hm gz ha=>?_
  rw[Moved.eq_with hm]
  refine hR z.heap z.toks dr acc c2 ms (λb o hb' e=>hm.heap b o (λq=>?_) (hk' b o hb' e)) gz ?_ a2
  ·rcases List.mem_cons.mp q with e' | q
   ·exact hb' e'
   ·have:=Heap.lt_size e
    rw[List.mem_singleton.mp q]at this
    exact absurd this (Nat.not_lt.mpr hI)
  ·have:acc.toList=vs:=by
    refine List.ext_getElem? λj=>?_
    rw[Array.getElem?_toList]
    by_cases hj:j<acc.size
    ·have g:acc[j]? = some acc[j]:=Array.getElem?_eq_getElem hj
     rw[g];exact(ha.2 j _ g).symm
    ·have l2:=ha.1
     rw[Array.getElem?_eq_none (by omega),List.getElem?_eq_none (by omega)]
   rw[this];exact a1
 have g1:=kp _ _ gL
 refine wpAny_bind (wpAny_holding (e1u (s:={s with heap:=h',drawn:=dr}) (by obtain⟨o,ho,ec⟩:=hT;exact⟨o,kp _ _ ho,ec⟩) ?_))
 refine wpAny_ite_split (λ_=>?_) (λ_=>wpAny_pure ⟨plainId_quiet PySem.F.plain_extend_loop _,key _ c st (λb o _ e=>kp b o e) g1⟩)
 refine wpAny_bind (wpAny_rule (wpAny_bind ?_))
 show wpAny _ _ (updateSeq L (·.push .none)>>=λ_=>updateSeq L (·.pop)) _ _ _
 refine wpAny_bind (wpAny_updateSeq g1 rfl ?_)
 have g2:=Heap.get?_update_self (Obj.mapSeq (·.push Value.none)) g1 rfl
 refine wpAny_updateSeq (hz:=by seq_fits) g2 rfl ?_
 have g3:=Heap.get?_update_self (Obj.mapSeq (·.pop)) g2 rfl
 refine wpAny_pure ⟨plainId_quiet PySem.F.plain_extend_loop _,key _ _ (W.frame 0 _ _ st λb hb o e=>?_) (λb o hb e=>?_) g3⟩
 ·have nb:L≠b:=λz=>nf (z▸hb)
  exact(Heap.get?_update_other _ _ nb).trans ((Heap.get?_update_other _ _ nb).trans e)
 ·exact(Heap.get?_update_other _ _ (Ne.symm hb)).trans ((Heap.get?_update_other _ _ (Ne.symm hb)).trans (kp _ _ e))
theorem c1p {ks:List Int}{R:List Value->Shared->Prop}(hh:A.handled=none)(hS:SetI P w s.heap S ks)(hk:ks.Nodup)(hz:ks.length<4096)
  (h:∀h' tk dr vs ms,(∀b o,s.heap.get? b=some o->h'.get? b=some o)->s.heap.objs.size<=h'.objs.size->IntsAre vs ms->ms.Perm ks->R vs {s with heap:=h',toks:=tk,drawn:=dr}):wpAny (model P w) A (collect (.ref S)) R E s:=by
 have lS:S<s.heap.objs.size:=by obtain⟨o,_,_,_,ho,_⟩:=hS;exact Heap.lt_size ho
 unfold collect
 refine wpAny_bind (wpAny_runValue (codeAny_builtin entry_proto_collect' ?_))
 rw[Around.under_plainId PySem.F.plain_proto_collect _]
 refine(show wpAny _ A.in1 (newList []>>=λl=>again (.builtin "list.__iadd__" ⟨[l,.ref S],[]⟩)) _ _ s from wpAny_bind (wpAny_newObj_type (wpAny_pure ⟨plainId_quiet PySem.F.plain_list_iadd _,codeAny_builtin entry_list_iadd' ?_⟩)))
 rw[Around.under_plainId PySem.F.plain_list_iadd _]
 have gL:(s.heap.push {cls:=.type "list",data:=.seq ([]:List Value).toArray}).get? s.heap.objs.size=some {cls:=.type "list",data:=.seq #[]}:=Heap.get?_push_size _ rfl
 show wpAny _ A.in1 (Builtin.List.listExtendWith (.ref s.heap.objs.size) (.ref S) (.ref s.heap.objs.size)) _ _ _
 have key:=n1i (A:=A) (s:={s with heap:=s.heap.push {cls:=.type "list",data:=.seq ([]:List Value).toArray}})
  (R:=λ(q:Result) (z:Shared)=>∃(h':Heap) (tk:Nat) (dr:Drawn) (acc:Array Value) (c':Nat) (ms:List Int),q = .ok (.ret (.ref s.heap.objs.size))/\z={s with heap:=h',toks:=tk,drawn:=dr}/\(∀b o,s.heap.get? b=some o->h'.get? b=some o)/\h'.get? s.heap.objs.size=some {cls:=.type "list",dict:=none,data:=.seq acc c',slots:=#[]}/\IntsAre acc.toList ms/\ms.Perm ks)
  hh (hS.kept λo e=>Heap.get?_push_of_some _ e) hk hz s.heap.objs.size (Nat.ne_of_gt lS) (.ref s.heap.objs.size) 0 gL
  (λh' tk dr acc c' ms k1 g a1 a2=>⟨h',tk,dr,acc,c',ms,rfl,rfl,λb o e=>k1 b o (Nat.ne_of_lt (Heap.lt_size e)) (Heap.get?_push_of_some _ e),g,a1,a2⟩)
 refine wpAny_mono key (λfin z x=>?_) λe z x=>?_
 ·cases fin with
  | done f =>
   obtain⟨h',tk,dr,acc,c',ms,e,rfl,k1,g,a1,a2⟩:=x
   cases e
   exact(show wpAny _ A (load s.heap.objs.size>>=_) _ _ _ from wpAny_bind (wpAny_load g (wpAny_pure (h h' tk dr _ ms k1 (Nat.le_of_lt (Heap.lt_size g)) a1 a2))))
  | again c1 =>
   refine⟨x.1,codeAny_mono x.2 λq z2 y=>?_⟩
   obtain⟨h',tk,dr,acc,c',ms,rfl,rfl,k1,g,a1,a2⟩:=y
   exact(show wpAny _ A (load s.heap.objs.size>>=_) _ _ _ from wpAny_bind (wpAny_load g (wpAny_pure (h h' tk dr _ ms k1 (Nat.le_of_lt (Heap.lt_size g)) a1 a2))))
 ·obtain⟨_,_,_,_,_,_,e',_⟩:=x
  cases e'
theorem k1i {ks:List Int}{Q:Value->Shared->Prop}(hh:A.handled=none)(hS:SetI P w s.heap S ks)(hk:ks.Nodup)(h64:ks.length<64)
  (h:∀h' tk dr D out e ns',(∀b o,s.heap.get? b=some o->h'.get? b=some o)->s.heap.objs.size<=D->h'.get? D=some (seqObj "list" out e)->IntsAre out.toList ns'->ns'.Perm ks->ns'.Pairwise (· <= ·)->Q (.ref D) {s with heap:=h',toks:=tk,drawn:=dr}) :
  wpAny (model P w) A (call (.builtin "sorted") [.ref S]) Q E s:=by
 refine Calls.call_function_entry kind_sorted plain_sorted entry_sorted (args_sorted1 _) ?_
 unfold Builtin.«sorted»
 refine wpAny_bind (m:=checkCount "sorted" 1 1 _) (wpAny_pure ?_)
 refine wpAny_bind (c1p (A:=A.in1) hh hS hk (by omega) λh' tk dr vs ms k1 sz a1 a2=>?_)
 have l1:vs.length<64:=by
  have:=IntsAre.length a1
  have:=a2.length_eq
  omega
 refine wpAny_bind (wpAny_newList ?_ (fits_of_scanBound (by unfold scanBound;omega)))
 have gD:(h'.push (seqObj "list" vs.toArray 0)).get? h'.objs.size=some (seqObj "list" vs.toArray 0):=Heap.get?_push_size _ rfl
 refine wpAny_bind (wpAny_holding (wpAny_call_entry slot_list_sort ⟨_,gD,rfl⟩ entry_list_sort (list_sort_tree (s:={s with heap:=h'.push (seqObj "list" vs.toArray 0),toks:=tk,drawn:=dr}) gD a1 l1 λout ns' b1 b2 b3=>⟨_,rfl,?_⟩) (args_list_sort _)))
 obtain⟨e,ge⟩:=sortedHeap_at (out:=out) gD
 refine wpAny_pure ⟨_,rfl,h _ tk dr h'.objs.size out e ns' (λb o q=>?_) sz ge b1 (b2.trans a2) b3⟩
 have lb:=Heap.lt_size (k1 b o q)
 rw[sortedHeap_old (Nat.ne_of_lt lb) (by rw[size_push'];exact Nat.lt_succ_of_lt lb)]
 exact Heap.get?_push_of_some _ (k1 b o q)
end
theorem Inv.drawn {X:Cx}{pins:List (Addr×Obj)}{σ:List (Option V)}{H:Hp}{s:Shared}(I:Inv X pins σ H s)(d:Drawn):Inv X pins σ H {s with drawn:=d} :=
 ⟨I.ok,I.os,I.bare,I.base,I.loc,I.cell,I.free,I.freeC,I.pin,I.hok,I.len⟩
theorem b1g (f:Nat->Int):∀(n:Nat) (k:Int),k∈firstMet f n↔∃i,i<n/\f i=k
 | 0,k=>by simp[firstMet_zero]
 | n+1,k=>by
  rw[firstMet_succ,m1e,b1g f n k]
  constructor
  ·rintro(⟨i,h,e⟩ | rfl)
   ·exact⟨i,by omega,e⟩
   ·exact⟨n,by omega,rfl⟩
  ·rintro⟨i,h,e⟩
   by_cases z:i=n
   ·subst z;exact .inr e.symm
   ·exact .inl ⟨i,by omega,e⟩
theorem l0d (f:Nat->Int):∀n,(firstMet f n).Nodup
 | 0=>by simp[firstMet_zero]
 | n+1=>by
  rw[firstMet_succ]
  by_cases h:f n∈firstMet f n
  ·rw[m1f h];exact l0d f n
  ·rw[g1p h,List.nodup_append]
   refine⟨l0d f n,by simp,λa ha b hb e=>h ?_⟩
   rw[List.mem_singleton.mp hb]at e
   exact e▸ha
theorem i1i (ns:List Int)(k:Int):k∈firstMet (λi=>ns.getD i 0) ns.length↔k∈ns:=by
 rw[b1g]
 constructor
 ·rintro⟨i,h,e⟩
  rw[List.getD_eq_getElem?_getD,List.getElem?_eq_getElem h]at e
  rw[<- e];exact List.getElem_mem h
 ·intro h
  obtain⟨i,hi,e⟩:=List.getElem_of_mem h
  exact⟨i,hi,by rw[List.getD_eq_getElem?_getD,List.getElem?_eq_getElem hi];exact e⟩
def w0r (K:PySem.W.Frag)(ta:TA):TE:=λσ H Q=>ta σ H λvs H1=>∃(p:Addr) (ns:List Int),vs=[.ref p]/\SqL K H1 p (ns.map V.int)/\ns.length<64/\∀ns':List Int,ns'.Pairwise (· < ·)->(∀x,x∈ns'↔x∈ns)->∀l,H1 l=none->Q (.ref l) (upd H1 l (.lst (ns'.map V.int)))
theorem y0n (K:PySem.W.Frag){X:Cx}{a:Expr}{ta:TA}{p p2 pos pos2:Pos}(hc:X.calm=true)(hg1:Gl X "sorted")(hm1:X.mg "sorted" = none)(hg:Gl X "set")(hm:X.mg "set" = none)(ha:PA X [a] ta)(hK:X.K=K:=by rfl)
  (ho:starEach [.Call (.Name "set" p2) [a] [] pos2] X.env=[(false,eval (.Call (.Name "set" p2) [a] [] pos2) X.env)]:=by rfl) (hs:starEach [a] X.env=[(false,eval a X.env)]:=by rfl) (hpl:(backTo pos (starEach [] X.env)).any (·.1)=false:=by rfl) :
  PE X (.Call (.Name "sorted" p) [.Call (.Name "set" p2) [a] [] pos2] [] pos) (w0r K ta):=by
 subst hK
 intro pins s σ H Q I h
 refine Call_ (j0d I hg1 hm1 h0x ?_)
 refine PyProof.Rows.callWith_builtin1 ?_ (by rw[ho];rfl) hpl
 rw[ho]
 show wpAny _ _ (spliced [(false,eval (.Call (.Name "set" p2) [a] [] pos2) X.env)]) _ _ s
 refine Calls.spliced_cons ?_
 refine Call_ (j0d I hg hm g1r (PyProof.Rows.callWith_type1 (thn (ha pos2 pins s σ H _ I h) λus s1 ⟨vs,H1,I1,r1,q1⟩=>?_) hs rfl))
 obtain⟨l,ns,rfl,hq,hn,q⟩:=q1
 obtain⟨u,rfl,ru⟩:=l0u r1
 cases ru
 obtain⟨its,rv,pl,hz⟩:=I1.list hq
 have hl:its.length=ns.length:=by have:=rv.length;rw[List.length_map]at this;omega
 refine m1y (I1.ok.hd hc) pl.isList (j0u rv) (by rw[List.size_toArray,hl];show _<4096;omega) λh' tk hS hk=>Calls.spliced_nil ?_
 rw[show its.toArray.size=ns.length by rw[List.size_toArray,hl]]at hS
 have hle:=firstMet_length_le (λi=>ns.getD i 0) ns.length
 refine k1i (s:={s1 with heap:=h',toks:=tk}) (by exact I1.ok.hd hc) hS (l0d _ _) (by omega) λh2 tk2 dr D out e ns' k2 sz ge b1 b2 b3=>?_
 have hlen:ns'.length<64:=by rw[b2.length_eq];omega
 have I2:Inv X pins σ H1 {s1 with heap:=h',toks:=tk}:=I1.kept (t':=tk) hk
 have hst:ns'.Pairwise (· < ·):=by
  have nd:ns'.Nodup:=b2.nodup_iff.mpr (l0d _ _)
  exact(List.Pairwise.and b3 nd).imp λ{a b} z=>by have h1:=z.1;have h2:=z.2;omega
 have hm':∀x,x∈ns'↔x∈ns:=λx=>by rw[b2.mem_iff];exact i1i ns x
 have I3:=(I2.laid (t':=tk2) (o:=.lst (ns'.map V.int)) k2 sz ⟨by rw[List.length_map];exact Nat.le_of_lt (h0k (n:=ns'.length) (by omega)),out.toList,e,k0u b1,by rw[ge]⟩).drawn dr
 exact⟨.ref D,_,I3,rfl,q ns' hst hm' D (I2.hok.fresh sz)⟩
section
variable {K:PySem.W.Frag}{ts:TA}{as:AA}
@[irreducible] def n0j (r:R):AE:=λρ q=>match view ρ r with
 | some (.lst ds)=>(match g0f ds with | some ns=>ns.length<64/\(∀ns':List Int,ns'.Pairwise (· < ·)->(∀x,x∈ns'↔x∈ns)->q (.f (ns'.map D.int)) ρ) | none=>False)
 | _=>False
def f1k (as:AA):AE:=λρ q=>as ρ λrs ρ1=>match rs with
 | [r]=>n0j r ρ1 q
 | _=>False
theorem u0p (h:TAok K ts as):TEok K (w0r K ts) (f1k as):=by
 intro F σ ρ H q Q r ha k
 refine h F σ ρ H _ _ r ha λrs ρ1 vs H1 h1 r1 i1 k1=>?_
 split at h1
 ·obtain⟨x,rfl,ix⟩:=i1.one
  unfold n0j at h1
  split at h1
  ·rename_i ds e
   split at h1
   ·rename_i ns e'
    obtain⟨l,us,rfl,sq,rd⟩:=c0u r1 ix e
    rw[h0t e',i0c]at rd
    rw[rd]at sq
    exact⟨l,ns,rfl,sq,h1.1,λns' a1 a2 p hp=>(k.after k1).new r1 (h1.2 ns' a1 a2) (i0c.mpr rfl) hp⟩
   ·exact h1.elim
  ·exact h1.elim
 ·exact h1.elim
theorem v0u {r:R}{ρ:En}{q:Ko}{ns:List Int}(hv:view ρ r=some (.lst (ns.map D.int)))(h64:ns.length<64)(h1:∀ns':List Int,ns'.Pairwise (· < ·)->(∀x,x∈ns'↔x∈ns)->q (.f (ns'.map D.int)) ρ):n0j r ρ q:=by
 unfold n0j
 simp only[hv,h0s]
 exact⟨h64,h1⟩
theorem s0o:∀ {xs ys:List Int},xs.Pairwise (· < ·)->ys.Pairwise (· < ·)->(∀x,x∈xs↔x∈ys)->xs=ys
 | [],[],_,_,_=>rfl
 | [],y::ys,_,_,h=>absurd ((h y).mpr (.head _)) (by simp)
 | x::xs,[],_,_,h=>absurd ((h x).mp (.head _)) (by simp)
 | x::xs,y::ys,h1,h2,h=>by
  obtain⟨a1,b1⟩:=List.pairwise_cons.mp h1
  obtain⟨a2,b2⟩:=List.pairwise_cons.mp h2
  have e:x=y:=by
   rcases List.mem_cons.mp ((h x).mp (.head _))with e | e
   ·exact e
   ·rcases List.mem_cons.mp ((h y).mpr (.head _))with e' | e'
    ·exact e'.symm
    ·have:=a2 x e
     have:=a1 y e'
     omega
  subst e
  congr 1
  refine s0o b1 b2 λz=>?_
  constructor
  ·intro hz
   rcases List.mem_cons.mp ((h z).mp (.tail _ hz))with e | e
   ·have:=a1 z hz;omega
   ·exact e
  ·intro hz
   rcases List.mem_cons.mp ((h z).mpr (.tail _ hz))with e | e
   ·have:=a2 z hz;omega
   ·exact e
end
end L2
namespace L2
open PySem PySem.Spec PyProof.Rows PySem.W
end L2
namespace L2
open PySem PySem.Spec PyProof.Rows
section
variable {X:Cx}{K:PySem.W.Frag}
open Classical in
noncomputable def eqW (K:PySem.W.Frag)(H:Hp)(d:D)(w:Value):Bool:=decide (∃t e,RelV t w/\RepD K H t e/\eqD e d=true)
open Classical in
theorem g1l {pins:List (Addr×Obj)}{σ:St}{s:Shared}{H:Hp}{d e:D}{t:V}{w:Value}(I:Inv X pins σ H s)(r:RelV t w)(h:RepD X.K H t e):eqW X.K H d w=eqD e d:=by
 unfold eqW
 cases q:eqD e d with
 | true=>exact decide_eq_true ⟨t,e,r,h,q⟩
 | false =>
  refine decide_eq_false ?_
  rintro⟨t',e',r',h',q'⟩
  have:=r'.inj r
  subst this
  rw[n0e I h' h]at q'
  rw[q]at q';cases q'
theorem c1f {pins:List (Addr×Obj)}{σ:St}{s:Shared}{H:Hp}{d:D}(I:Inv X pins σ H s):∀ {xs:List V} {us:List Value} {ds:List D},Vals xs us->RepDs X.K H xs ds->us.any (eqW X.K H d)=ds.any λe=>eqD e d
 | [],_,[],.nil,_=>rfl
 | v::xs,_,e::ds,.cons h t,r=>by
  unfold RepDs at r
  rw[List.any_cons,List.any_cons,c1f I t r.2,g1l I h r.1]
 | [],_,e::ds,.nil,r=>by unfold RepDs at r;exact r.elim
 | v::xs,_,[],.cons h t,r=>by unfold RepDs at r;exact r.elim
end
section
variable {X:Cx}{K:PySem.W.Frag}
def rInL (neg:Bool)(K:PySem.W.Frag):R2:=λx y H Q=>∃p xs d ds,y = .ref p/\SqL K H p xs/\RepD K H x d/\RepDs K H xs ds/\(∀e∈ds,e.depth<=60)/\Q (.bl (if neg then !(ds.any λe=>eqD e d)else ds.any λe=>eqD e d)) H
theorem l1q {pins:List (Addr×Obj)}{σ:St}{s:Shared}{H:Hp}(hu:X.A.units+64<cLine)(I:Inv X pins σ H s){x:V}{v:Value}{xs:List V}{its:List Value}{d:D}{ds:List D}(r:Vals xs its)(rx:RelV x v)(rd:RepD X.K H x d)(rds:RepDs X.K H xs ds)(ha:∀e∈ds,e.depth<=60) :
  ∀y,y∈its.toArray->SeqAt.EqAt X.A.in1 s y v (eqW X.K H d y):=λw hw=>by
 have hw':w∈its:=by simpa using hw
 obtain⟨j,hj,rfl⟩:=List.getElem_of_mem hw'
 have hl:=r.length
 have hl2:=rds.length
 obtain⟨z,e1,e2⟩:=r.get (i:=j) (x:=xs[j]'(by omega)) (List.getElem?_eq_getElem _)
 rw[List.getElem?_eq_getElem hj]at e1
 cases e1
 obtain⟨t,g1,g2⟩:=rds.get (i:=j) (d:=ds[j]'(by omega)) (List.getElem?_eq_getElem _)
 rw[List.getElem?_eq_getElem (by omega)]at g1
 cases g1
 rw[g1l I e2 g2]
 exact(w0y I 60 (ha ds[j] (List.getElem_mem _)) (by rw[g0y];omega) e2 rx g2 rd).2
theorem s0t (K:PySem.W.Frag)(hu:X.A.units+64<cLine)(hK:X.K=K:=by rfl):OpR X (compareOp .NotIn) (rInL true K):=by
 subst hK
 intro pins s σ H x y v u Q I rx ry h
 obtain⟨p,xs,d,ds,rfl,hq,rd,rds,ha,q⟩:=h
 cases ry
 obtain⟨its,r,pl,hz⟩:=I.list hq
 refine SeqAt.notIn_listAt (eqW X.K H d) pl.isList (l1q hu I r rx rd rds ha) ⟨.bl _,H,I,?_,q⟩
 show RelV _ (Value.bool (!its.toArray.any (eqW X.K H d)))
 rw[List.any_toArray,c1f I r rds]
 rfl
end
section
variable {K:PySem.W.Frag}
@[irreducible] def gInL (neg:Bool):R->R->AE:=λr1 r2 ρ q=>match view ρ r1,view ρ r2 with
 | some d,some (.lst ds)=>(∀e∈ds,e.depth<=60)/\q (.d (.bl (if neg then !(ds.any λe=>eqD e d)else ds.any λe=>eqD e d))) ρ
 | _,_=>False
theorem r0n {neg:Bool}{r1 r2:R}{ρ:En}{q:Ko}{d:D}{ds:List D}{b:Bool}(h1:view ρ r1=some d)(h2:view ρ r2=some (.lst ds))(hd:∀e∈ds,e.depth<=60)(hb:(ds.any λe=>eqD e d)=b)(hq:q (.d (.bl (if neg then !b else b))) ρ):gInL neg r1 r2 ρ q:=by
 unfold gInL
 rw[h1,h2]
 subst hb
 exact⟨hd,hq⟩
theorem b1a (neg:Bool):OpOk K (rInL neg K) (gInL neg):=by
 intro F σ ρ H x y r1 r2 q Q a h1 h2 h b
 unfold gInL at h
 split at h
 ·rename_i d ds e1 e2
  obtain⟨l,vs,rfl,sq,rd⟩:=c0u a h2 e2
  exact⟨l,vs,d,ds,rfl,sq,f0f a h1 e1,rd.same d0c,h.1,b.bl a h.2⟩
 ·exact h.elim
end
section
variable {K:PySem.W.Frag}{td:TE}{ad:AE}
def iOr (a b:TI):TI:=λσ H R=>a σ H R∨b σ H R
theorem n1a {X:Cx}{tg o:Expr}{a b:TI}(ha:PI X tg o a)(hb:PI X tg o b):PI X tg o (iOr a b):=λpins s σ H R I h=>by
 rcases h with h | h
 ·exact ha pins s σ H R I h
 ·exact hb pins s σ H R I h
def aOrI (a b:AI):AI:=λρ q=>a ρ q∨b ρ q
theorem h1f {pin:Nat->Bool}{wa wb:TI}{aa ab:AI}(ha:TIok K pin wa aa)(hb:TIok K pin wb ab):TIok K pin (iOr wa wb) (aOrI aa ab):=λF σ ρ H q Rk r h k=>by
 rcases h with h | h
 ·exact .inl (ha F σ ρ H q Rk r h k)
 ·exact .inr (hb F σ ρ H q Rk r h k)
end
end L2
namespace L2
open PySem PySem.Spec PyProof.Rows PySem.W
end L2
namespace K68
open PySem PySem.Spec PyProof.Rows L2
def top (i:Nat):Stmt:=PySem.Challenge.pw_fewjoins_k68_bounds_shown.main.body.getD i (.Pass ⟨0,0,0,0⟩)
abbrev n0c:Stmt:=top 1
abbrev b1d:List Str:=["row"]
theorem a1i:b0j b1d ["row"] (a0m n0c):=⟨rfl,rfl,rfl,by decide +kernel,rfl,by decide +kernel,by decide +kernel⟩
abbrev g0v:Stmt:=top 2
abbrev m0n:List Str:=["row"]
theorem s0m:b0j m0n ["row"] (a0m g0v):=⟨rfl,rfl,rfl,by decide +kernel,rfl,by decide +kernel,by decide +kernel⟩
abbrev q0t:Stmt:=top 4
abbrev e1n:List Str:=["wish", "many", "rows", "classes", "hang", "places", "unlike"]
theorem i0a:b0j e1n ["wish"] (a0m q0t):=⟨rfl,rfl,rfl,by decide +kernel,rfl,by decide +kernel,by decide +kernel⟩
abbrev e0p:Stmt:=top 5
abbrev j0c:List Str:=["rows"]
theorem n0r:b0j j0c ["rows"] (a0m e0p):=⟨rfl,rfl,rfl,by decide +kernel,rfl,by decide +kernel,by decide +kernel⟩
abbrev e0b:Stmt:=top 6
abbrev g0k:List Str:=["rows", "classes", "place", "row", "met"]
theorem e0f:b0j g0k ["rows"] (a0m e0b):=⟨rfl,rfl,rfl,by decide +kernel,rfl,by decide +kernel,by decide +kernel⟩
abbrev i0b:Stmt:=top 7
abbrev t0d:List Str:=["rows", "places", "givens", "place"]
theorem h0d:b0j t0d ["rows", "places"] (a0m i0b):=⟨rfl,rfl,rfl,by decide +kernel,rfl,by decide +kernel,by decide +kernel⟩
abbrev d0z:Stmt:=top 8
abbrev i0r:List Str:=["rows", "places"]
theorem m0u:b0j i0r ["rows", "places"] (a0m d0z):=⟨rfl,rfl,rfl,by decide +kernel,rfl,by decide +kernel,by decide +kernel⟩
abbrev f0g:Stmt:=top 9
abbrev k0e:List Str:=["rows", "classes"]
theorem o0y:b0j k0e ["rows", "classes"] (a0m f0g):=⟨rfl,rfl,rfl,by decide +kernel,rfl,by decide +kernel,by decide +kernel⟩
abbrev j0r:Stmt:=top 11
abbrev v0i:List Str:=["thing", "least", "most"]
theorem u0v:b0j v0i ["thing", "least", "most"] (a0m j0r):=⟨rfl,rfl,rfl,by decide +kernel,rfl,by decide +kernel,by decide +kernel⟩
abbrev j0s:Stmt:=top 12
abbrev v0j:List Str:=["thing", "least", "most"]
theorem u0w:b0j v0j ["thing", "least", "most"] (a0m j0s):=⟨rfl,rfl,rfl,by decide +kernel,rfl,by decide +kernel,by decide +kernel⟩
abbrev g0i:Stmt:=top 14
abbrev p0f:List Str:=["wish", "number", "paper", "many", "rows", "word", "parts"]
theorem e0n:b0j p0f ["wish", "number", "paper"] (a0m g0i):=⟨rfl,rfl,rfl,by decide +kernel,rfl,by decide +kernel,by decide +kernel⟩
abbrev f0v:Stmt:=top 15
abbrev l0c:List Str:=["rows", "thing"]
theorem q0s:b0j l0c ["rows", "thing"] (a0m f0v):=⟨rfl,rfl,rfl,by decide +kernel,rfl,by decide +kernel,by decide +kernel⟩
abbrev f0c:Stmt:=top 16
abbrev i0h:List Str:=["rows", "thing", "told"]
theorem k0v:b0j i0h ["rows", "thing"] (a0m f0c):=⟨rfl,rfl,rfl,by decide +kernel,rfl,by decide +kernel,by decide +kernel⟩
abbrev g0j:Stmt:=top 17
abbrev p0g:List Str:=["rows", "thing", "taken", "places", "givens"]
theorem e0o:b0j p0g ["rows", "thing"] (a0m g0j):=⟨rfl,rfl,rfl,by decide +kernel,rfl,by decide +kernel,by decide +kernel⟩
abbrev e0a:Stmt:=top 18
abbrev i0s:List Str:=["rows", "places"]
theorem m0v:b0j i0s ["rows", "places"] (a0m e0a):=⟨rfl,rfl,rfl,by decide +kernel,rfl,by decide +kernel,by decide +kernel⟩
abbrev j0o:Stmt:=top 20
abbrev v0f:List Str:=["_law_script"]
theorem u0t:b0j v0f ["_law_script"] (a0m j0o):=⟨rfl,rfl,rfl,by decide +kernel,rfl,by decide +kernel,by decide +kernel⟩
abbrev j0p:Stmt:=top 21
abbrev v0g:List Str:=["_law_tape_here", "_law_many", "_law_found", "_law_spot", "_law_cells", "_law_cell", "_law_seed"]
theorem e0w:b0j v0g ["_law_tape_here", "_law_many"] (a0m j0p):=⟨rfl,rfl,rfl,by decide +kernel,rfl,by decide +kernel,by decide +kernel⟩
abbrev f0u:Stmt:=top 22
abbrev l0a:List Str:=["_law_row"]
theorem q0q:b0j l0a ["_law_row"] (a0m f0u):=⟨rfl,rfl,rfl,by decide +kernel,rfl,by decide +kernel,by decide +kernel⟩
abbrev h0l:Stmt:=top 23
abbrev n0y:List Str:=["_law_tape_here", "_law_many", "_law_way", "_law_groups", "_law_rows", "_law_turn", "_law_row", "_law_group"]
theorem c0d:b0j n0y ["_law_tape_here"] (a0m h0l):=⟨rfl,rfl,rfl,by decide +kernel,rfl,by decide +kernel,by decide +kernel⟩
abbrev g0s:Stmt:=top 24
abbrev m0k:List Str:=["_law_rows", "_law_places_here", "_law_found", "_law_more", "_law_meeting"]
theorem h0b:b0j m0k ["_law_rows", "_law_places_here"] (a0m g0s):=⟨rfl,rfl,rfl,by decide +kernel,rfl,by decide +kernel,by decide +kernel⟩
abbrev g0h:Stmt:=top 25
abbrev p0e:List Str:=["_law_rows", "_law_found", "_law_place", "_law_here", "_law_wider_here"]
theorem c0z:b0j p0e ["_law_rows"] (a0m g0h):=⟨rfl,rfl,rfl,by decide +kernel,rfl,by decide +kernel,by decide +kernel⟩
abbrev n0d:Stmt:=top 26
abbrev b1e:List Str:=["_law_thing_here", "_law_low", "_law_beyond"]
theorem a1j:b0j b1e ["_law_thing_here", "_law_low", "_law_beyond"] (a0m n0d):=⟨rfl,rfl,rfl,by decide +kernel,rfl,by decide +kernel,by decide +kernel⟩
abbrev f0b:Stmt:=top 27
abbrev i0g:List Str:=["_law_thing_here", "_law_many"]
theorem q0r:b0j i0g ["_law_thing_here", "_law_many"] (a0m f0b):=⟨rfl,rfl,rfl,by decide +kernel,rfl,by decide +kernel,by decide +kernel⟩
abbrev g0u:Stmt:=top 28
abbrev m0m:List Str:=["_law_rows", "_law_places_here", "_law_here", "_law_turn", "_law_met", "_law_one"]
theorem d0y:b0j m0m ["_law_rows", "_law_places_here"] (a0m g0u):=⟨rfl,rfl,rfl,by decide +kernel,rfl,by decide +kernel,by decide +kernel⟩
abbrev c0j:Stmt:=top 29
abbrev e0h:List Str:=["_law_wish_here", "_law_paper_here", "_law_rows", "_law_there", "_law_met", "_law_number_here", "_law_places_here", "_law_givens"]
theorem c0h:b0j e0h ["_law_wish_here", "_law_paper_here"] (a0m c0j):=⟨rfl,rfl,rfl,by decide +kernel,rfl,by decide +kernel,by decide +kernel⟩
abbrev h0m:Stmt:=top 30
abbrev n0z:List Str:=["_law_tape_here", "_law_many"]
theorem u0u:b0j n0z ["_law_tape_here", "_law_many"] (a0m h0m):=⟨rfl,rfl,rfl,by decide +kernel,rfl,by decide +kernel,by decide +kernel⟩
abbrev f0n:Stmt:=top 31
abbrev j0b:List Str:=["_law_tape_here", "_law_wish_here", "_law_rows", "_law_way", "_law_places_here", "_law_place", "_law_classes_here", "_law_one"]
theorem d0f:b0j j0b ["_law_tape_here", "_law_wish_here"] (a0m f0n):=⟨rfl,rfl,rfl,by decide +kernel,rfl,by decide +kernel,by decide +kernel⟩
abbrev k0w:Stmt:=top 32
abbrev y0s:List Str:=["_law_tape_here", "_law_place", "_law_many"]
theorem y0l:b0j y0s ["_law_tape_here", "_law_place", "_law_many"] (a0m k0w):=⟨rfl,rfl,rfl,by decide +kernel,rfl,by decide +kernel,by decide +kernel⟩
abbrev e0g:Stmt:=top 33
abbrev l0b:List Str:=["_law_tape_here", "_law_places_here", "_law_many", "_law_at", "_law_odd_here", "_law_some_here"]
theorem c0w:b0j l0b ["_law_tape_here", "_law_places_here", "_law_many"] (a0m e0g):=⟨rfl,rfl,rfl,by decide +kernel,rfl,by decide +kernel,by decide +kernel⟩
abbrev g0t:Stmt:=top 34
abbrev m0l:List Str:=["_law_tape_here", "_law_deep", "_law_some_here", "_law_inner"]
theorem h0c:b0j m0l ["_law_tape_here", "_law_deep"] (a0m g0t):=⟨rfl,rfl,rfl,by decide +kernel,rfl,by decide +kernel,by decide +kernel⟩
abbrev j0q:Stmt:=top 35
abbrev v0h:List Str:=["_law_tape_here", "_law_paper_here", "_law_many", "_law_word", "_law_lists", "_law_way", "_law_some_here", "_law_at", "_law_here"]
theorem e0x:b0j v0h ["_law_tape_here", "_law_paper_here", "_law_many"] (a0m j0q):=⟨rfl,rfl,rfl,by decide +kernel,rfl,by decide +kernel,by decide +kernel⟩
abbrev e1b:Stmt:=top 36
abbrev l1e:List Str:=["_law_script", "_law_tape_here", "_law_wish_here", "_law_turn", "_law_paper_here", "_law_way", "_law_kept", "_law_own", "_law_near", "_law_number_here", "_law_found"]
theorem g0r:b0j l1e ["_law_script"] (a0m e1b):=⟨rfl,rfl,rfl,by decide +kernel,rfl,by decide +kernel,by decide +kernel⟩
section
variable {P:Program}{w:World}{K:PySem.W.Frag}{mg:Str->Option Value}{base:Heap}
theorem u0z (D:DefN K mg "_law_tape" j0o ["_law_script"])(B:BI mg):OkN P w K mg base 1 "_law_tape" ["_law_script"] (spA K j1n):=by
 refine OkN.imp (sp:=a1a K) ?_ h1g
 refine D.ok u0t (λvs H Q E h=>?_) (λf cdv A outer s H vs Q E hr h=>?_)
 ·obtain⟨a,ns,rfl,_⟩:=h
  rfl
 ·obtain⟨a,ns,rfl,hS,k⟩:=h
  refine⟨_,(a0p (b0d (h1w (q0v c0x (c0b (c0g K) (pv 0) d0h (c0m a0j)) (q0v c0x a0j (q0v c0x a0j h1u))) rfl rfl (by simp) (by decide)))),?_⟩
  intro t ht
  have s0:Same H (upd H t (.dK [])):=(Same.refl H).new ht
  refine⟨_,rfl,63,rfl,a,_,rfl,s0.seq hS,λl hl=>?_⟩
  have ntl:t≠l:=b0y c0v hl
  refine⟨by rw[b0l ntl,c0v],[(Sum.inr ("cells" : Str),V.ref l),(Sum.inr ("spot" : Str),V.int 0),(Sum.inr ("left" : Str),V.int 0)],rfl,(by show 3<=15;decide),?_⟩
  rw[z0u]
  have fin:=k t l ht (s0.free hl) ntl
  have eq:upd (upd (upd H t (.dK [])) l (.lst (cutV (ns.map V.int) none (some 63)))) t (.dK (e0m l 0 0))=upd (upd H l (.lst ((ns.take 63).map V.int))) t (.dK (e0m l 0 0)):=by
   rw[n1k]
   funext b
   unfold upd
   by_cases h1:b=t
   ·rw[if_pos h1,if_pos h1]
   ·rw[if_neg h1,if_neg h1,if_neg h1]
  rw[eq]
  exact fin
theorem v0b (D:DefN K mg "_law_draw" j0p ["_law_tape_here", "_law_many"])(B:BI mg):OkN P w K mg base 1 "_law_draw" ["_law_tape_here", "_law_many"] (spA K o0x):=by
 refine OkN.imp (sp:=a1b K) ?_ j1d
 refine D.ok e0w (λvs H Q E h=>?_) (λf cdv A outer s H vs Q E hr h=>?_)
 ·obtain⟨t,c,m,sp,lf,ns,n,rfl,_⟩:=h
  rfl
 ·obtain⟨t,c,m,sp,lf,ns,n,rfl,hT,hC,h1,h2,h3,hn,hm,k⟩:=h
  have hu:=e0z hr
  have hm0:=hm.1
  have gl:DGet H t (kV (Sum.inr "left")) (some (.int lf)):=by rw[<- z0v (c:=c) (sp:=sp)];exact DGet.k hT
  have gs:DGet H t (kV (Sum.inr "spot")) (some (.int sp)):=by rw[<- z0t (c:=c) (lf:=lf)];exact DGet.k hT
  have gc:DGet H t (kV (Sum.inr "cells")) (some (.ref c)):=by rw[<- p0n (sp:=sp) (lf:=lf)];exact DGet.k hT
  refine⟨_,(a0i (d0a (a0s q0w (n0u hu (pv 0) c0x (λ_ _=>rfl)) a0j (a0y _))
   (a0i (b0b (i:=2) e0w.nd rfl (by first | exact Or.inl rfl | exact Or.inr rfl) (a0x m0i (n0u hu (pv 0) c0x (λ_ _=>rfl)) (pv 1)))
   (a0i (u0x hu (pv 0) c0x (a0x q0x (n0u hu (pv 0) c0x (λ_ _=>rfl)) (pv 1)) rfl)
   (a0p (b0d (pv 2)))))
   b0g)
   (a0i (b0b (i:=3) e0w.nd rfl (by first | exact Or.inl rfl | exact Or.inr rfl) (n0u hu (pv 0) c0x (λ_ _=>rfl)))
   (a0i (u0x hu (pv 0) c0x (a0x e0d (pv 3) a0j) rfl)
   (a0i (b0b (i:=4) e0w.nd rfl (by first | exact Or.inl rfl | exact Or.inr rfl) (n0u hu (pv 0) c0x (λ_ _=>rfl)))
   (a0i (b0b (i:=5) e0w.nd rfl (by first | exact Or.inl rfl | exact Or.inr rfl) a0j)
   (a0i (d0a (a0s q0w (a0r (b0e K) rfl B.len_ c0q (a0c (pv 4) a0f)) a0j (a0y _))
   (a0p (b0b (i:=5) e0w.nd rfl (by first | exact Or.inl rfl | exact Or.inr rfl) (c0n (b0c K) (pv 4) (a0x m0i (pv 3) (a0r (b0e K) rfl B.len_ c0q (a0c (pv 4) a0f))) (λ_ _=>rfl))))
   b0g)
   (a0i (d0a (PW.pt (k0x (a0s y0p (pv 5) (a0x n0w a0j a0j) (a0y _)) (i0d (a0s s0v (pv 3) (a0r (b0e K) rfl B.len_ c0q (a0c (pv 4) a0f)) (a0y _)))))
   (a0i (u0x hu (pv 0) c0x (a0x q0x (a0x g0w (pv 5) (a0x n0w a0j a0j)) (pv 1)) rfl)
   (a0p (b0d (a0x m0i (a0x g0w (pv 5) (a0x n0w a0j a0j)) (pv 1)))))
   b0g)
   (a0i (b0b (i:=6) e0w.nd rfl (by first | exact Or.inl rfl | exact Or.inr rfl) (a0x m0i (a0x s0u (a0x e0d (a0x e0d (a0x e0d (a0x m0i (pv 5) a0j) (a0x s0u (a0x s0u a0j (pv 3)) (pv 3))) (a0x s0u a0j (pv 3))) a0j) a0j) a0j))
   (a0p (b0d (a0x m0i (a0x q0x (a0x m0i (a0x s0u (pv 6) (a0x e0d (pv 6) a0j)) a0j) a0j) (pv 1)))))))))))),?_⟩
  refine⟨_,rfl,t,_,rfl,gl,_,_,rfl,rfl,_,rfl,ite2 (λhl=>?_) λhl=>?_⟩
  ·refine⟨_,rfl,t,_,rfl,gl,_,rfl,_,_,rfl,rfl,hm0,?_⟩
   refine⟨_,rfl,t,_,rfl,gl,_,rfl,_,_,rfl,rfl,hm,_,rfl,t,_,rfl,DPut.k (k:=Sum.inr "left") hT (h0k (by show 3<=1000;decide)),_,rfl,?_⟩
   rw[q0u]
   exact drawn (Q:=λz H=>Q (.int z) H) hm0 λr hr=>k r _ _ hr h1 (by omega) (Int.ediv_nonneg h3 (Int.le_of_lt hm0))
  ·refine⟨_,rfl,t,_,rfl,gs,?_⟩
   refine⟨_,rfl,_,_,rfl,rfl,_,rfl,t,_,rfl,DPut.k (k:=Sum.inr "spot") hT (h0k (by show 3<=1000;decide)),?_⟩
   rw[e1c]
   have hT1:(upd H t (.dK (e0m c (sp+1) lf))) t=some (.dK (e0m c (sp+1) lf)):=c0v
   have hC1:SqL K (upd H t (.dK (e0m c (sp+1) lf))) c (ns.map V.int):=Grow.seq (Grow.refl.upd _) hT hC
   have gr1:Grow t H (upd H t (.dK (e0m c (sp+1) lf))):=Grow.refl.upd _
   have gc1:DGet (upd H t (.dK (e0m c (sp+1) lf))) t (kV (Sum.inr "cells")) (some (.ref c)):=by rw[<- p0n (sp:=sp+1) (lf:=lf)];exact DGet.k hT1
   have kk:∀(r:Nat) (lf':Int),(r:Int)<m->0<=lf'->Q (.int (r:Nat)) (upd (upd H t (.dK (e0m c (sp+1) lf))) t (.dK (e0m c (sp+1) lf'))):=λr lf' hr hl=>by rw[h1c];exact k r _ _ hr (by omega) (by omega) hl
   have kl:∀(r:Nat),(r:Int)<m->Q (.int (r:Nat)) (upd H t (.dK (e0m c (sp+1) lf))):=λr hr=>k r _ _ hr (by omega) (by omega) h3
   generalize upd H t (.dK (e0m c (sp+1) lf))=H1 at hT1 hC1 gr1 gc1 kk kl ⊢
   refine⟨_,rfl,t,_,rfl,gc1,?_⟩
   have p18:(10:Int)^(18:Int).toNat=1000000000000000000:=by decide
   have fits:CPow 10 18:=⟨by decide,by decide,by decide⟩
   have pos1:(0:Int)<2147483629:=by decide
   have pos2:(0:Int)<2147483647:=by decide
   have spOk:-(2^64)<sp/\sp<2^64:=by omega
   refine⟨_,rfl,c,_,rfl,.inl hC1,_,_,rfl,rfl,_,rfl,ite2 (λhl=>?_) λhl=>?_⟩
   ·have hl':0<ns.length:=by
     have:=of_decide_eq_true hl
     rw[List.length_map]at this
     omega
    have el:((ns.map V.int).length:Int)=ns.length:=by rw[List.length_map]
    have hb0:0<=sp % ((ns.map V.int).length:Int):=Int.emod_nonneg _ (by omega)
    have hb1:sp % ((ns.map V.int).length:Int)<((ns.map V.int).length:Int):=Int.emod_lt_of_pos _ (by omega)
    obtain⟨j,hj⟩:=Int.eq_ofNat_of_zero_le hb0
    have hj':j<ns.length:=by rw[hj]at hb1;omega
    refine⟨_,rfl,_,rfl,_,rfl,c,_,rfl,.inl hC1,_,_,rfl,rfl,(by show(0:Int)<((ns.map V.int).length:Int);omega),.inl ⟨c,_,_,V.int ns[j],rfl,rfl,hC1,?_,?_⟩⟩
    ·rw[hj]
     exact s0c (by simp[hj'])
    ·generalize ns[j]=z
     refine⟨_,rfl,_,_,rfl,rfl,fits,_,_,rfl,rfl,_,rfl,ite2 (λhz=>?_) λhz=>?_⟩
     ·refine⟨_,rfl,_,rfl,c,_,rfl,.inl hC1,_,_,rfl,rfl,_,rfl,ite2 (λhs=>?_) λhs=>?_⟩
      ·refine⟨_,rfl,_,_,rfl,rfl,fits,_,_,rfl,rfl,_,rfl,_,_,rfl,rfl,hm,_,rfl,t,_,rfl,DPut.k (k:=Sum.inr "left") hT1 (h0k (by show 3<=1000;decide)),?_⟩
       rw[q0u]
       refine⟨_,rfl,_,_,rfl,rfl,fits,_,_,rfl,rfl,_,rfl,_,_,rfl,rfl,hm0,?_⟩
       refine drawn (Q:=λz H=>Q (.int z) H) hm0 λr hr=>kk r _ hr (Int.ediv_nonneg ?_ (Int.le_of_lt hm0))
       have hz':=of_decide_eq_true hz
       rw[p18]at hz' ⊢
       omega
      ·refine⟨_,rfl,_,_,rfl,rfl,pos1,_,rfl,_,_,rfl,rfl,.inl ⟨by decide,by decide⟩,_,rfl,_,_,rfl,rfl,.inr spOk,_,_,rfl,rfl,_,rfl,_,_,rfl,rfl,.inl ⟨by decide,by decide⟩,_,_,rfl,rfl,_,_,rfl,rfl,_,_,rfl,rfl,.inr ⟨by decide,by decide⟩,_,_,rfl,rfl,pos2,?_⟩
       refine⟨_,rfl,_,rfl,_,_,rfl,rfl,_,_,rfl,rfl,.inl w0u,_,_,rfl,rfl,pos1,_,_,rfl,rfl,dv64,_,rfl,_,_,rfl,rfl,hm0,?_⟩
       exact drawn (Q:=λz H=>Q (.int z) H) hm0 λr hr=>kl r hr
     ·refine⟨_,rfl,_,_,rfl,rfl,pos1,_,rfl,_,_,rfl,rfl,.inl ⟨by decide,by decide⟩,_,rfl,_,_,rfl,rfl,.inr spOk,_,_,rfl,rfl,_,rfl,_,_,rfl,rfl,.inl ⟨by decide,by decide⟩,_,_,rfl,rfl,_,_,rfl,rfl,_,_,rfl,rfl,.inr ⟨by decide,by decide⟩,_,_,rfl,rfl,pos2,?_⟩
      refine⟨_,rfl,_,rfl,_,_,rfl,rfl,_,_,rfl,rfl,.inl w0u,_,_,rfl,rfl,pos1,_,_,rfl,rfl,dv64,_,rfl,_,_,rfl,rfl,hm0,?_⟩
      exact drawn (Q:=λz H=>Q (.int z) H) hm0 λr hr=>kl r hr
   ·refine⟨_,rfl,_,_,rfl,rfl,fits,_,_,rfl,rfl,_,rfl,ite2 (λhz=>?_) λhz=>?_⟩
    ·refine⟨_,rfl,_,rfl,c,_,rfl,.inl hC1,_,_,rfl,rfl,_,rfl,ite2 (λhs=>?_) λhs=>?_⟩
     ·refine⟨_,rfl,_,_,rfl,rfl,fits,_,_,rfl,rfl,_,rfl,_,_,rfl,rfl,hm,_,rfl,t,_,rfl,DPut.k (k:=Sum.inr "left") hT1 (h0k (by show 3<=1000;decide)),?_⟩
      rw[q0u]
      refine⟨_,rfl,_,_,rfl,rfl,fits,_,_,rfl,rfl,_,rfl,_,_,rfl,rfl,hm0,?_⟩
      refine drawn (Q:=λz H=>Q (.int z) H) hm0 λr hr=>kk r _ hr (Int.ediv_nonneg ?_ (Int.le_of_lt hm0))
      have hz':=of_decide_eq_true hz
      rw[p18]at hz' ⊢
      omega
     ·refine⟨_,rfl,_,_,rfl,rfl,pos1,_,rfl,_,_,rfl,rfl,.inl ⟨by decide,by decide⟩,_,rfl,_,_,rfl,rfl,.inr spOk,_,_,rfl,rfl,_,rfl,_,_,rfl,rfl,.inl ⟨by decide,by decide⟩,_,_,rfl,rfl,_,_,rfl,rfl,_,_,rfl,rfl,.inr ⟨by decide,by decide⟩,_,_,rfl,rfl,pos2,?_⟩
      refine⟨_,rfl,_,rfl,_,_,rfl,rfl,_,_,rfl,rfl,.inl w0u,_,_,rfl,rfl,pos1,_,_,rfl,rfl,dv64,_,rfl,_,_,rfl,rfl,hm0,?_⟩
      exact drawn (Q:=λz H=>Q (.int z) H) hm0 λr hr=>kl r hr
    ·refine⟨_,rfl,_,_,rfl,rfl,pos1,_,rfl,_,_,rfl,rfl,.inl ⟨by decide,by decide⟩,_,rfl,_,_,rfl,rfl,.inr spOk,_,_,rfl,rfl,_,rfl,_,_,rfl,rfl,.inl ⟨by decide,by decide⟩,_,_,rfl,rfl,_,_,rfl,rfl,_,_,rfl,rfl,.inr ⟨by decide,by decide⟩,_,_,rfl,rfl,pos2,?_⟩
     refine⟨_,rfl,_,rfl,_,_,rfl,rfl,_,_,rfl,rfl,.inl w0u,_,_,rfl,rfl,pos1,_,_,rfl,rfl,dv64,_,rfl,_,_,rfl,rfl,hm0,?_⟩
     exact drawn (Q:=λz H=>Q (.int z) H) hm0 λr hr=>kl r hr
end
def rw1 (rows:List Nat)(i:Nat):Nat:=rows.getD i 0
def adj (rows:List Nat)(i j:Nat):Prop:=rw1 rows i &&& rw1 rows j≠0
theorem d1c {rows:List Nat}{i j:Nat}(h:adj rows i j):adj rows j i:=by unfold adj at h ⊢;rwa [Nat.and_comm]
inductive Conn (rows:List Nat):Nat->Nat->Prop
 | refl {i:Nat} (h:i<rows.length):Conn rows i i
 | step {i j k:Nat} (c:Conn rows i j) (h:k<rows.length) (a:adj rows j k):Conn rows i k
theorem Conn.lt {rows:List Nat}{i j:Nat}(c:Conn rows i j):i<rows.length/\j<rows.length:=by
 induction c with
 | refl h=>exact⟨h,h⟩
 | step c h a ih=>exact⟨ih.1,h⟩
theorem Conn.trans {rows:List Nat}{i j k:Nat}(c:Conn rows i j)(d:Conn rows j k):Conn rows i k:=by
 induction d with
 | refl h=>exact c
 | step d h a ih=>exact ih.step h a
theorem Conn.one {rows:List Nat}{i j:Nat}(hi:i<rows.length)(hj:j<rows.length)(a:adj rows i j):Conn rows i j:=(Conn.refl hi).step hj a
theorem Conn.symm {rows:List Nat}{i j:Nat}(c:Conn rows i j):Conn rows j i:=by
 induction c with
 | refl h=>exact .refl h
 | step c h a ih=>exact(Conn.one h c.lt.2 (d1c a)).trans ih
open Classical in
noncomputable def comp (rows:List Nat)(p:Nat):List Nat:=(List.range rows.length).filter λj=>decide (Conn rows p j)
open Classical in
theorem d0v {rows:List Nat}{p j:Nat}:j∈comp rows p↔Conn rows p j:=by
 unfold comp
 rw[List.mem_filter,List.mem_range,decide_eq_true_eq]
 exact⟨λh=>h.2,λh=>⟨h.lt.2,h⟩⟩
theorem o0o (rows:List Nat)(p:Nat):(comp rows p).Pairwise (· < ·):=List.Pairwise.filter _ List.pairwise_lt_range
theorem w0v {xs ys:List Nat}(h1:xs.Pairwise (· < ·))(h2:ys.Pairwise (· < ·))(h:∀x,x∈xs↔x∈ys):xs=ys :=
 List.Perm.eq_of_pairwise (le:=(· < ·)) (λa b _ _ q1 q2=>by omega) h1 h2 ((List.perm_ext_iff_of_nodup (h1.imp λh=>by omega) (h2.imp λh=>by omega)).mpr h)
theorem c1m {rows:List Nat}{p q:Nat}(c:Conn rows p q):comp rows p=comp rows q :=
 w0v (o0o rows p) (o0o rows q) λx=>by rw[d0v,d0v];exact⟨λh=>c.symm.trans h,λh=>c.trans h⟩
theorem v0y {rows:List Nat}{S:List Nat}{p:Nat}(up:S.Pairwise (· < ·))(hp:p∈S)(hs:∀j∈S,Conn rows p j)(hc:∀i∈S,∀j,j<rows.length->adj rows i j->j∈S):S=comp rows p:=by
 refine w0v up (o0o rows p) λx=>?_
 rw[d0v]
 refine⟨hs x,λc=>?_⟩
 induction c with
 | refl h=>exact hp
 | step c h a ih=>exact hc _ ih _ h a
structure Cl (rows:List Nat)(k:Nat)(cls:List (List Nat)):Prop where
 inc:∀C∈cls,C.Pairwise (· < ·)
 ne:∀C∈cls,C≠[]
 cov:∀j,j<k->∃C∈cls,j∈C
 lt:∀C∈cls,∀j∈C,j<k
 dj:∀C∈cls,∀C'∈cls,∀j,j∈C->j∈C'->C=C'
 nd:cls.Nodup
 con:∀C∈cls,∀i∈C,∀j∈C,Conn rows i j
 cl:∀C∈cls,∀i∈C,∀j,j<k->adj rows i j->j∈C
theorem Cl.start {rows:List Nat}:Cl rows 0 []:=⟨(λ_ h=>nomatch h),(λ_ h=>nomatch h),(λj h=>by omega),(λ_ h=>nomatch h),(λ_ h=>nomatch h),List.nodup_nil,(λ_ h=>nomatch h),(λ_ h=>nomatch h)⟩
def g0x (rows:List Nat)(k:Nat)(C:List Nat):Bool:=C.any λi=>rw1 rows i &&& rw1 rows k != 0
theorem l0f {rows:List Nat}{k:Nat}{C:List Nat}:g0x rows k C=true↔∃i∈C,adj rows i k:=by
 unfold g0x adj
 rw[List.any_eq_true]
 simp
def metC (rows:List Nat)(k:Nat)(cls:List (List Nat)):List (List Nat):=cls.filter (g0x rows k)
def farC (rows:List Nat)(k:Nat)(cls:List (List Nat)):List (List Nat):=cls.filter λC=>!g0x rows k C
theorem Cl.flat {rows:List Nat}{k:Nat}{cls:List (List Nat)}(c:Cl rows k cls):((metC rows k cls).flatten++[k]).Nodup:=by
 have sub:∀C∈metC rows k cls,C∈cls:=λC h=>(List.mem_filter.mp h).1
 have nd:(metC rows k cls).Nodup:=List.Pairwise.filter _ c.nd
 have fl:(metC rows k cls).flatten.Nodup:=by
  generalize metC rows k cls=M at sub nd
  induction M with
  | nil=>exact List.nodup_nil
  | cons C M ih =>
   rw[List.flatten_cons]
   have hC:=sub C (List.mem_cons_self ..)
   obtain⟨n1,n2⟩:=List.nodup_cons.mp nd
   refine List.nodup_append.mpr ⟨(c.inc C hC).imp λh=>by omega,ih (λC' h=>sub C' (List.mem_cons_of_mem _ h)) n2,λa ha b hb e=>?_⟩
   subst e
   obtain⟨C',hC',hb'⟩:=List.mem_flatten.mp hb
   have:=c.dj C hC C' (sub C' (List.mem_cons_of_mem _ hC')) a ha hb'
   subst this
   exact n1 hC'
 refine List.nodup_append.mpr ⟨fl,List.nodup_cons.mpr ⟨(λh=>nomatch h),List.nodup_nil⟩,λa ha b hb e=>?_⟩
 rw[List.mem_singleton.mp hb]at e
 subst e
 obtain⟨C,hC,ha'⟩:=List.mem_flatten.mp ha
 have:=c.lt C (sub C hC) _ ha'
 omega
theorem Cl.next {rows:List Nat}{k:Nat}{cls:List (List Nat)}(c:Cl rows k cls)(hk:k<rows.length){N:List Nat}(pm:N.Perm ((metC rows k cls).flatten++[k]))(up:N.Pairwise (· <= ·)):Cl rows (k+1) (farC rows k cls++[N]):=by
 have hm:∀j,j∈N↔(∃C∈cls,g0x rows k C=true/\j∈C)∨j=k:=λj=>by
  rw[pm.mem_iff,List.mem_append,List.mem_flatten,List.mem_singleton]
  constructor
  ·rintro(⟨C,hC,h⟩ | h)
   ·exact .inl ⟨C,(List.mem_filter.mp hC).1,(List.mem_filter.mp hC).2,h⟩
   ·exact .inr h
  ·rintro(⟨C,h1,h2,h3⟩ | h)
   ·exact .inl ⟨C,List.mem_filter.mpr ⟨h1,h2⟩,h3⟩
   ·exact .inr h
 have hup:N.Pairwise (· < ·):=by
  have nd:N.Nodup:=pm.nodup_iff.mpr c.flat
  exact(List.Pairwise.and up nd).imp λ{a b} z=>by have h1:=z.1;have h2:=z.2;omega
 have far:∀C,C∈farC rows k cls↔C∈cls/\g0x rows k C=false:=λC=>by
  unfold farC
  rw[List.mem_filter]
  simp
 have cases':∀C,C∈farC rows k cls++[N]↔(C∈cls/\g0x rows k C=false)∨C=N:=λC=>by rw[List.mem_append,far,List.mem_singleton]
 have conN:∀i∈N,Conn rows i k:=λi hi=>by
  rcases(hm i).mp hi with⟨C,h1,h2,h3⟩ | h
  ·obtain⟨x,hx,a⟩:=l0f.mp h2
   exact(c.con C h1 i h3 x hx).step hk a
  ·subst h;exact .refl hk
 have kN:k∈N:=(hm k).mpr (.inr rfl)
 refine⟨λC h=>?_,λC h=>?_,λj hj=>?_,λC h j hj=>?_,λC h C' h' j h1 h2=>?_,?_,λC h i hi j hj=>?_,λC h i hi j hj a=>?_⟩
 ·rcases(cases' C).mp h with q | rfl
  ·exact c.inc C q.1
  ·exact hup
 ·rcases(cases' C).mp h with q | rfl
  ·exact c.ne C q.1
  ·exact List.ne_nil_of_mem kN
 ·rcases Nat.lt_or_ge j k with g | g
  ·obtain⟨C,h1,h2⟩:=c.cov j g
   cases hmm:g0x rows k C with
   | true=>exact⟨N,(cases' N).mpr (.inr rfl),(hm j).mpr (.inl ⟨C,h1,hmm,h2⟩)⟩
   | false=>exact⟨C,(cases' C).mpr (.inl ⟨h1,hmm⟩),h2⟩
  ·have:j=k:=by omega
   subst this
   exact⟨N,(cases' N).mpr (.inr rfl),kN⟩
 ·rcases(cases' C).mp h with q | rfl
  ·have:=c.lt C q.1 j hj;omega
  ·rcases(hm j).mp hj with⟨C,h1,h2,h3⟩ | h
   ·have:=c.lt C h1 j h3;omega
   ·omega
 ·have fN:∀C,C∈cls->g0x rows k C=false->j∈C->j∈N->False:=λC q1 q2 h1 h2=>by
   rcases(hm j).mp h2 with⟨C2,e1,e2,e3⟩ | e
   ·have:=c.dj C q1 C2 e1 j h1 e3
    subst this
    rw[q2]at e2;cases e2
   ·have:=c.lt C q1 j h1;omega
  rcases(cases' C).mp h with q | rfl
  ·rcases(cases' C').mp h' with q' | rfl
   ·exact c.dj C q.1 C' q'.1 j h1 h2
   ·exact(fN C q.1 q.2 h1 h2).elim
  ·rcases(cases' C').mp h' with q' | rfl
   ·exact(fN C' q'.1 q'.2 h2 h1).elim
   ·rfl
 ·refine List.nodup_append.mpr ⟨List.Pairwise.filter _ c.nd,List.nodup_cons.mpr ⟨(λh=>nomatch h),List.nodup_nil⟩,λa ha b hb e=>?_⟩
  rw[List.mem_singleton.mp hb]at e
  subst e
  have:=((far _).mp ha).1
  have:=c.lt _ this k kN
  omega
 ·rcases(cases' C).mp h with q | rfl
  ·exact c.con C q.1 i hi j hj
  ·exact(conN i hi).trans (conN j hj).symm
 ·rcases(cases' C).mp h with q | rfl
  ·rcases Nat.lt_or_ge j k with g | g
   ·exact c.cl C q.1 i hi j g a
   ·have:j=k:=by omega
    subst this
    have:g0x rows j C=true:=l0f.mpr ⟨i,hi,a⟩
    rw[q.2]at this;cases this
  ·rcases Nat.lt_or_ge j k with g | g
   ·rcases(hm i).mp hi with⟨C,h1,h2,h3⟩ | e
    ·exact(hm j).mpr (.inl ⟨C,h1,h2,c.cl C h1 i h3 j g a⟩)
    ·subst e
     obtain⟨C,h1,h2⟩:=c.cov j g
     exact(hm j).mpr (.inl ⟨C,h1,l0f.mpr ⟨j,h2,d1c a⟩,h2⟩)
   ·have:j=k:=by omega
    subst this;exact kN
theorem Cl.all {rows:List Nat}{cls:List (List Nat)}(c:Cl rows rows.length cls){C:List Nat}:C∈cls↔∃p,p<rows.length/\C=comp rows p:=by
 constructor
 ·intro h
  obtain⟨p,hp⟩:=List.exists_mem_of_ne_nil C (c.ne C h)
  exact⟨p,c.lt C h p hp,v0y (c.inc C h) hp (λj hj=>c.con C h p hp j hj) (λi hi j hj a=>c.cl C h i hi j hj a)⟩
 ·rintro⟨p,hp,rfl⟩
  obtain⟨C,h1,h2⟩:=c.cov p hp
  rw[<- v0y (c.inc C h1) h2 (λj hj=>c.con C h1 p h2 j hj) (λi hi j hj a=>c.cl C h1 i hi j hj a)]
  exact h1
open Classical in
noncomputable def b0h (rows:List Nat)(n:Nat):List (List Nat):=((List.range n).filter λp=>decide (∀j,Conn rows p j->p<=j)).map (comp rows)
theorem n1g {p:Nat->Prop}(h:∃n,p n):∃n,p n/\∀k,p k->n<=k:=by
 obtain⟨n,hn⟩:=h
 induction n using Nat.strongRecOn with
 | ind n ih =>
  by_cases g:∃m,m<n/\p m
  ·obtain⟨m,h1,h2⟩:=g
   exact ih m h1 h2
  ·refine⟨n,hn,λk hk=>?_⟩
   rcases Nat.lt_or_ge k n with z | z
   ·exact absurd ⟨k,z,hk⟩ g
   ·exact z
open Classical in
theorem j0h {rows:List Nat}{n:Nat}(hn:n<=rows.length){p:Nat}(hp:p<rows.length):comp rows p∈b0h rows n↔∃q,q<n/\Conn rows p q:=by
 unfold b0h
 rw[List.mem_map]
 constructor
 ·rintro⟨q,hq,e⟩
  obtain⟨h1,h2⟩:=List.mem_filter.mp hq
  have h1:=List.mem_range.mp h1
  refine⟨q,h1,?_⟩
  have:q∈comp rows p:=by rw[<- e,d0v];exact .refl (by omega)
  exact d0v.mp this
 ·rintro⟨q,h1,h2⟩
  obtain⟨l,l1,l2⟩:=n1g (p:=λj=>Conn rows p j) ⟨q,h2⟩
  refine⟨l,List.mem_filter.mpr ⟨List.mem_range.mpr (by have:=l2 q h2;omega),decide_eq_true λj c=>l2 j (l1.trans c)⟩,(c1m l1).symm⟩
theorem y0z {rows:List Nat}{n:Nat}(hn:n<rows.length):(comp rows n∈b0h rows n->b0h rows (n+1)=b0h rows n)/\(comp rows n∉b0h rows n->b0h rows (n+1)=b0h rows n++[comp rows n]):=by
 have key:comp rows n∈b0h rows n↔¬ ∀j,Conn rows n j->n<=j:=by
  rw[j0h (Nat.le_of_lt hn) hn]
  constructor
  ·rintro⟨q,h1,h2⟩ h
   have:=h q h2
   omega
  ·intro h
   apply Classical.byContradiction
   intro z
   refine h λj c=>?_
   rcases Nat.lt_or_ge j n with g | g
   ·exact absurd ⟨j,g,c⟩ z
   ·exact g
 constructor
 ·intro h
  have h':=key.mp h
  unfold b0h
  rw[List.range_succ,List.filter_append,List.map_append,List.filter_cons_of_neg (by simpa using h')]
  simp
 ·intro h
  have h':∀j,Conn rows n j->n<=j:=by
   apply Classical.byContradiction
   intro z
   exact h (key.mpr z)
  unfold b0h
  rw[List.range_succ,List.filter_append,List.map_append,List.filter_cons_of_pos (by simpa using h')]
  simp
def castL (C:List Nat):List Int:=C.map λx=>((x:Nat):Int)
open Classical in
theorem t0w {rows:List Nat}{n:Nat}(hn:n<=rows.length):((b0h rows n).map castL).Pairwise leL:=by
 unfold b0h
 rw[List.map_map]
 refine List.pairwise_map.mpr ?_
 refine List.Pairwise.imp_of_mem (λ{p q} hp hq lt=>?_) (List.Pairwise.filter _ List.pairwise_lt_range)
 obtain⟨p1,p2⟩:=List.mem_filter.mp hp
 obtain⟨q1,q2⟩:=List.mem_filter.mp hq
 have p2:=of_decide_eq_true p2
 have q2:=of_decide_eq_true q2
 have p1:=List.mem_range.mp p1
 have q1:=List.mem_range.mp q1
 have head:∀x,x<rows.length->(∀j,Conn rows x j->x<=j)->∃r,comp rows x=x::r:=λx hx h=>by
  have hm:x∈comp rows x:=d0v.mpr (.refl hx)
  have up:=o0o rows x
  cases hc:comp rows x with
  | nil=>rw[hc]at hm;cases hm
  | cons y r =>
   rw[hc]at hm up
   have hy:Conn rows x y:=d0v.mp (by rw[hc];exact List.mem_cons_self ..)
   have:=h y hy
   rcases List.mem_cons.mp hm with e | e
   ·exact⟨r,by rw[e]⟩
   ·have:=(List.pairwise_cons.mp up).1 x e
    omega
 obtain⟨r1,e1⟩:=head p (by omega) p2
 obtain⟨r2,e2⟩:=head q (by omega) q2
 show HT.lexLt (castL (comp rows q)) (castL (comp rows p))=false
 rw[e1,e2]
 show HT.lexLt (((q:Nat):Int)::r2.map _) (((p:Nat):Int)::r1.map _)=false
 rw[HT.lexLt_cons,if_neg (by omega)]
 exact decide_eq_false (by omega)
open Classical in
theorem x0s {rows:List Nat}{n:Nat}(hn:n<=rows.length):(b0h rows n).Nodup:=by
 unfold b0h
 refine List.pairwise_map.mpr ?_
 refine List.Pairwise.imp_of_mem (λ{p q} hp hq lt e=>?_) (List.Pairwise.filter _ List.pairwise_lt_range)
 obtain⟨q1,q2⟩:=List.mem_filter.mp hq
 have q2:=of_decide_eq_true q2
 have q1:=List.mem_range.mp q1
 have p1:=List.mem_range.mp (List.mem_filter.mp hp).1
 have:p∈comp rows q:=by rw[<- e,d0v];exact .refl (by omega)
 have:=q2 p (d0v.mp this)
 omega
theorem Cl.sorted {rows:List Nat}{cls:List (List Nat)}(c:Cl rows rows.length cls){nss:List (List Int)}(pm:nss.Perm (cls.map castL))(so:nss.Pairwise leL):nss=(b0h rows rows.length).map castL:=by
 refine u0s (pm.trans (List.Perm.map _ ?_)) so (t0w (Nat.le_refl _))
 refine(List.perm_ext_iff_of_nodup c.nd (x0s (Nat.le_refl _))).mpr λC=>?_
 rw[c.all]
 constructor
 ·rintro⟨p,hp,rfl⟩
  exact(j0h (Nat.le_refl _) hp).mpr ⟨p,hp,.refl hp⟩
 ·intro h
  unfold b0h at h
  obtain⟨p,hp,rfl⟩:=List.mem_map.mp h
  exact⟨p,List.mem_range.mp (List.mem_filter.mp hp).1,rfl⟩
def b0o (m:Nat)(rs:List Nat):D:=.tup [nD m,.tup (a0e rs)]
def w0k:ASp:=λss q=>∃r:Nat,ss=[nv r]/\r<4096/\q (.f (a0e (d0g r))) [nv r]
def m0e:ASp:=λss q=>∃r:Nat,ss=[nv r]/\r<4096/\q (.d (nD (d0g r).length)) [nv r]
theorem i1y {r:Nat}(h:1<=r):0<(d0g r).length:=by
 have:r.log2∈d0g r:=by
  unfold d0g
  rw[List.mem_filter,List.mem_range]
  have h0:r≠0:=by omega
  refine⟨by unfold h0y;rw[if_neg h0];omega,?_⟩
  exact Nat.testBit_log2 h0
 exact List.length_pos_of_mem this
theorem g1j {r:Nat}(h:r<4096):(d0g r).length<=12:=by
 unfold d0g
 have:=List.length_filter_le r.testBit (List.range (h0y r))
 rw[List.length_range]at this
 have hb:h0y r<=12:=L2.j1j (m:=12) (by omega)
 omega
def lstN (t:List Nat):D:=.lst (a0e t)
theorem h0r (C:List Nat):lstI (castL C)=lstN C:=by unfold lstI lstN castL a0e;rw[List.map_map];rfl
structure c0y (rows:List Nat):Prop where
 l1:1<=rows.length
 l24:rows.length<=24
 r:∀r∈rows,1<=r/\r<4096
theorem c0y.at {rows:List Nat}(h:c0y rows){i:Nat}(hi:i<rows.length):1<=rw1 rows i/\rw1 rows i<4096:=h.r _ (by unfold rw1;rw[List.getD_eq_getElem?_getD,List.getElem?_eq_getElem hi];exact List.getElem_mem hi)
def orN (rows:List Nat)(C:List Nat):Nat:=C.foldl (λa i=>a ||| rw1 rows i) 0
def wt (r:Nat):Nat:=(d0g r).length
section
variable {n:Nat}{js:List Nat}{c:En->Prop}{g:AG}{tc:AT}{te:AE}{q:List D->En->Prop}
theorem e0e {α:Type}(h:α->D)(p:α->Bool)(f:α->D){xs:List α}{ρ:En}(hc:c ρ)(hs:∀x acc (N:List D->En->Prop),x∈xs->N (if p x=true then acc++[f x]else acc) ρ->j1y n js g tc te ρ (h x) acc N)
  (hd:q ((xs.filter p).map f) ρ):l0s n js c g tc te q (xs.map h) [] ρ:=by
 refine f0k (λk acc ρ'=>ρ'=ρ/\acc=((xs.take k).filter p).map f) (λk acc ρ' _ h=>h.1▸hc) ?_ ?_ ρ ⟨rfl,rfl⟩
 ·rintro k d acc _ N hk ⟨rfl,rfl⟩ hN
  rw[List.getElem?_map]at hk
  obtain⟨x,e1,rfl⟩:=Option.map_eq_some_iff.mp hk
  refine hs x _ N (List.mem_of_getElem? e1) (hN _ _ ⟨rfl,?_⟩)
  rw[List.take_add_one,e1,Option.toList_some,List.filter_append,List.map_append]
  cases hp:p x <;> simp[hp]
 ·rintro acc _ ⟨rfl,rfl⟩
  rw[List.length_map,List.take_length];exact hd
end
theorem h1d {i j:Nat}{d1 d2:D}{ρ:En}{k:En->Prop}(h:k (pt (pt ρ i (.vl d1)) j (.vl d2))):i1z 2 (b1y (x0p i) (b1y (x0p j) gaNil)) (.tup [d1,d2]) ρ k:=h
theorem x0o (n:Nat)(xs:List Nat):inD (nD n) (a0e xs)=xs.contains n:=by
 unfold inD a0e
 rw[List.any_map]
 induction xs with
 | nil=>rfl
 | cons x xs ih =>
  rw[List.any_cons,List.contains_cons,ih]
  congr 1
  show eqD (nD x) (nD n)=(n==x)
  unfold eqD
  show decide ((x:Int)=(n:Int))=(n==x)
  by_cases h:n=x
  ·subst h;simp
  ·have:¬((x:Int)=(n:Int)):=by omega
   simp[h,this]
theorem x0q {neg:Bool}{r2:R}{ρ:En}{q:Ko}{xs:List Nat}{n:Nat}(hv:view ρ r2=some (.lst (a0e xs)))(hq:q (.d (.bl (if neg then !xs.contains n else xs.contains n))) ρ):gIn neg (.d (nD n)) r2 ρ q:=by
 unfold gIn
 have e1:view ρ (.d (nD n))=some (nD n):=rfl
 rw[e1,hv]
 refine⟨⟨rfl,List.all_eq_true.mpr λd hd=>?_⟩,?_⟩
 ·obtain⟨x,_,rfl⟩:=List.mem_map.mp hd;rfl
 ·rw[x0o];exact hq
theorem l1w {neg:Bool}{r2:R}{ρ:En}{q:Ko}{xs:List Nat}{n:Nat}(hv:view ρ r2=some (.tup (a0e xs)))(hq:q (.d (.bl (if neg then !xs.contains n else xs.contains n))) ρ):gIn neg (.d (nD n)) r2 ρ q:=by
 unfold gIn
 have e1:view ρ (.d (nD n))=some (nD n):=rfl
 rw[e1,hv]
 refine⟨⟨rfl,List.all_eq_true.mpr λd hd=>?_⟩,?_⟩
 ·obtain⟨x,_,rfl⟩:=List.mem_map.mp hd;rfl
 ·rw[x0o];exact hq
theorem x0r (P:Nat->Bool)(xs:List Nat)(x:Nat):a0e ((xs++[x]).filter P)=if P x=true then a0e (xs.filter P)++[nD x]else a0e (xs.filter P):=by
 rw[List.filter_append]
 unfold a0e
 rw[List.map_append]
 cases h:P x <;> simp[h]
theorem t0q:∀a b:List Nat,eqDs (a0e a) (a0e b)=decide (a=b)
 | [],[]=>rfl
 | [],_::_=>rfl
 | _::_,[]=>rfl
 | x::a,y::b=>by
  show(eqD (nD x) (nD y)&&eqDs (a0e a) (a0e b))=_
  rw[t0q a b]
  have:eqD (nD x) (nD y)=decide (x=y):=by
   unfold eqD
   show decide (((x:Nat):Int)=((y:Nat):Int))=_
   rw[decide_eq_decide];omega
  rw[this,Bool.eq_iff_iff]
  simp
theorem l0o (a b:List Nat):eqD (lstN a) (lstN b)=decide (a=b):=by
 unfold lstN
 show eqDs (a0e a) (a0e b)=_
 exact t0q a b
theorem n0v {rows:List Nat}{r:Nat}:∀(C:List Nat) (a:Nat),(C.foldl (λa i=>a ||| rw1 rows i) a) &&& r=0↔a &&& r=0/\∀i∈C,rw1 rows i &&& r=0
 | [],a=>by simp
 | i::C,a=>by
  rw[List.foldl_cons,n0v C,Nat.and_or_distrib_right]
  have or0:∀x y:Nat,x ||| y=0↔x=0/\y=0:=λx y=>by
   constructor
   ·intro h
    constructor
    ·apply Nat.eq_of_testBit_eq
     intro k
     have:=congrArg (λz=>z.testBit k) h
     simp only[Nat.testBit_or,Nat.zero_testBit,Bool.or_eq_false_iff]at this
     rw[this.1,Nat.zero_testBit]
    ·apply Nat.eq_of_testBit_eq
     intro k
     have:=congrArg (λz=>z.testBit k) h
     simp only[Nat.testBit_or,Nat.zero_testBit,Bool.or_eq_false_iff]at this
     rw[this.2,Nat.zero_testBit]
   ·rintro⟨rfl,rfl⟩;rfl
  rw[or0]
  simp only[List.mem_cons,forall_eq_or_imp]
  exact and_assoc
theorem x0m {rows:List Nat}{k:Nat}{C:List Nat}:g0x rows k C=(orN rows C &&& rw1 rows k != 0):=by
 rw[Bool.eq_iff_iff,l0f]
 unfold orN adj
 rw[bne_iff_ne,ne_eq,n0v]
 constructor
 ·rintro⟨i,hi,h⟩ ⟨_,z⟩
  exact h (z i hi)
 ·intro h
  apply Classical.byContradiction
  intro z
  refine h ⟨Nat.zero_and _,λi hi=>?_⟩
  apply Classical.byContradiction
  intro y
  exact z ⟨i,hi,y⟩
theorem x0f {rows:List Nat}(h:c0y rows):∀(C:List Nat) (a:Nat),(∀i∈C,i<rows.length)->a<4096->C.foldl (λa i=>a ||| rw1 rows i) a<4096
 | [],a,_,ha=>ha
 | i::C,a,hC,ha=>by
  rw[List.foldl_cons]
  exact x0f h C _ (λj hj=>hC j (List.mem_cons_of_mem _ hj)) (Nat.or_lt_two_pow (n:=12) ha (h.at (hC i (List.mem_cons_self ..))).2)
theorem f1c {rows:List Nat}{C:List Nat}(h:C∈b0h rows rows.length):(∀i∈C,i<rows.length)/\C≠[]:=by
 unfold b0h at h
 obtain⟨p,hp,rfl⟩:=List.mem_map.mp h
 have:=List.mem_range.mp (List.mem_filter.mp hp).1
 exact⟨λi hi=>(d0v.mp hi).lt.2,List.ne_nil_of_mem (d0v.mpr (.refl this))⟩
theorem h0h {C:List Nat}{n:Nat}(h:C.Pairwise (· < ·))(hb:∀x∈C,x<n):C.length<=n:=by
 have h2:=List.Nodup.length_le_of_subset (h.imp λh=>by omega) (l₂:=List.range n) λx hx=>List.mem_range.mpr (hb x hx)
 rwa [List.length_range]at h2
open Classical in
theorem o0m (rows:List Nat):(b0h rows rows.length).length<=rows.length:=by
 unfold b0h
 rw[List.length_map]
 refine Nat.le_trans (List.length_filter_le _ _) ?_
 rw[List.length_range];exact Nat.le_refl _
theorem f1d (rows:List Nat)(p:Nat):(comp rows p).length<=rows.length:=h0h (o0o rows p) λx hx=>(d0v.mp hx).lt.2
theorem Cl.few {rows:List Nat}{k:Nat}{cls:List (List Nat)}(c:Cl rows k cls){C:List Nat}(h:C∈cls):C.length<=k:=h0h (c.inc C h) (c.lt C h)
def mnI:List Int->Int
 | []=>0
 | x::xs=>xs.foldl min x
theorem x0l:∀(xs:List Int) (x:Int),(xs.foldl min x∈x::xs)/\∀a∈x::xs,xs.foldl min x<=a
 | [],x=>⟨by simp,by simp⟩
 | y::xs,x=>by
  rw[List.foldl_cons]
  obtain⟨h1,h2⟩:=x0l xs (min x y)
  refine⟨?_,λa ha=>?_⟩
  ·rcases List.mem_cons.mp h1 with e | e
   ·rw[e]
    rcases Int.le_total x y with g | g
    ·rw[Int.min_eq_left g];simp
    ·rw[Int.min_eq_right g];simp
   ·exact List.mem_cons_of_mem _ (List.mem_cons_of_mem _ e)
  ·have hm:=h2 (min x y) (List.mem_cons_self ..)
   rcases List.mem_cons.mp ha with rfl | ha
   ·omega
   ·rcases List.mem_cons.mp ha with rfl | ha
    ·omega
    ·exact h2 a (List.mem_cons_of_mem _ ha)
theorem b1f {ns:List Int}{M:Int}(h:M∈ns)(hl:∀a∈ns,M<=a):mnI ns=M:=by
 cases ns with
 | nil=>cases h
 | cons x xs =>
  obtain⟨h1,h2⟩:=x0l xs x
  have a:=hl _ h1
  have b:=h2 M h
  show xs.foldl min x=M
  omega
def rsD (b:Bool)(rows:List Nat):D:=if b=true then .lst (a0e rows)else .tup (a0e rows)
def u0m:ASp:=λss q=>∃(b:Bool) (rows C:List Nat),ss=[.vl (rsD b rows),.vl (lstN C)]/\c0y rows/\(∀i∈C,i<rows.length)/\C.length<=100/\q (.d (nD (orN rows C))) [.vl (rsD b rows),.vl (lstN C)]
def n0m:ASp:=λss q=>∃(b:Bool) (rows:List Nat),ss=[.vl (rsD b rows)]/\c0y rows/\q (.f ((b0h rows rows.length).map lstN)) [.vl (rsD b rows)]
def l0m (rows:List Nat)(L:List (List Nat)):Int:=(L.map λC=>((wt (orN rows C):Nat):Int) - 1).sum
def unlL (rows ps:List Nat):Int:=(ps.length:Int)+mnI (ps.map λp=>((wt (rw1 rows p):Nat):Int)) - 2
noncomputable def b1x (rows:List Nat):Int:=l0m rows (b0h rows rows.length)
def m1r (rows:List Nat)(L:List (List Nat)):Prop:=L.length<=50/\∀C∈L,C≠[]/\C.length<=24/\∀i∈C,i<rows.length
def f1m:ASp:=λss q=>∃(rows:List Nat) (L:List (List Nat)) (s1:Sv),(s1 = .ow (L.map lstN)∨s1 = .vl (.lst (L.map lstN)))/\ss=[.vl (.tup (a0e rows)),s1]/\c0y rows/\m1r rows L/\q (.d (.int (l0m rows L))) [.vl (.tup (a0e rows)),s1]
theorem o0n {rows:List Nat}(hR:c0y rows):m1r rows (b0h rows rows.length):=by
 have l24:=hR.l24
 refine⟨by have:=o0m rows;omega,λC hC=>?_⟩
 obtain⟨h1,h2⟩:=f1c hC
 refine⟨h2,?_,h1⟩
 unfold b0h at hC
 obtain⟨p,_,rfl⟩:=List.mem_map.mp hC
 have:=f1d rows p
 omega
def fpl (rows:List Nat):List Nat:=(List.range rows.length).filter λp=>decide (1<wt (rw1 rows p)) && !((rows.take p).contains (rw1 rows p))
def w0l:ASp:=λss q=>∃rows:List Nat,ss=[.vl (.tup (a0e rows))]/\c0y rows/\q (.f (a0e (fpl rows))) [.vl (.tup (a0e rows))]
def unlZ (rows:List Nat):Int:=unlL rows (fpl rows)
noncomputable def v0p (rows:List Nat):D:=.tup [.int (b1x rows),.tup [.str "hang",.lst ((b0h rows rows.length).map lstN)]]
def unlD (rows:List Nat):D:=.tup [.int (unlZ rows),.tup [.str "unlike",.lst (a0e (fpl rows))]]
open Classical in
noncomputable def bndD (rows:List Nat):D:=if fpl rows=[]then v0p rows else if b1x rows<=unlZ rows then unlD rows else v0p rows
theorem g1k {rows:List Nat}{p:Nat}(h:p∈fpl rows):p<rows.length:=List.mem_range.mp (List.mem_filter.mp h).1
theorem c1d (rows:List Nat):(fpl rows).length<=rows.length:=by
 unfold fpl
 refine Nat.le_trans (List.length_filter_le _ _) ?_
 rw[List.length_range];exact Nat.le_refl _
def SUnl:ASp:=λss q=>∃(rows ps:List Nat) (s1:Sv),(s1 = .ow (a0e ps)∨s1 = .vl (lstN ps))/\ss=[.vl (.tup (a0e rows)),s1]/\c0y rows/\ps≠[]/\ps.length<=24/\(∀p∈ps,p<rows.length)/\q (.d (.int (unlL rows ps))) [.vl (.tup (a0e rows)),s1]
def d1k:ASp:=λss q=>∃(m:Nat) (rows:List Nat),ss=[.vl (b0o m rows)]/\c0y rows/\q (.d (bndD rows)) [.vl (b0o m rows)]
section
variable {P:Program}{w:World}{K:PySem.W.Frag}{mg:Str->Option Value}{base:Heap}
theorem s0z (dn:DefN K mg "givens_of" g0v ["row"])(B:BI mg):OkN P w K mg base 1 "givens_of" ["row"] (spA K w0k):=by
 refine dn.aok2 (k:=0) s0m (λj=>j==0) [] w0k rfl (λf cdv A outer s H E hr=>have hu:=e0z hr;⟨_,(a0p (b0d (d0q ["given"] [0] rfl (Blk.of (a0m g0v) m0n) (e0q rfl B.range_ (a0c (h1y K PySem.F.plainAttrs_int PySem.F.slot_int_bit_length PySem.F.type_int_bit_length i1h (pv 0)) a0f)) (λ_ _ _ _ nd=>(a0z (i:=0) nd rfl (by first | exact Or.inl rfl | exact Or.inr rfl))) (λ_ _ _ _=>(f0h (h0o K (a0x m0j (a0x x0g (pv 1) (pv 0)) a0j) (λ_=>rfl)))) (λ_ _ _ _=>(pv 0))))),(a0v (b0t (e0l (a0a (d1v a0b) a0d)) (a0q rfl) (j0l (a0h a0w (a0h e0y a0b a0b) a0g)) a0b))⟩) ?_
 rintro ss q ⟨r,rfl,hr,hq⟩
 refine⟨rfl,rfl,?_⟩
 have hb:h0y r<=12:=by
  unfold h0y
  split
  ·omega
  ·rename_i h0
   have:=(Nat.log2_lt h0).mpr (show r<2^12 by omega)
   omega
 have eb:((Builtin.Int.intBits (r:Int):Nat):Int)=((h0y r:Nat):Int):=by rw[f1g]
 refine⟨⟨by omega,by omega⟩,by rw[d0s];omega,?_⟩
 refine f0k (λk acc ρ=>acc=a0e ((List.range k).filter r.testBit)/\ρ=[nv r]) (λ_ _ _ _ _=>trivial) ?_ ?_ _ ⟨rfl,rfl⟩
 ·rintro k d acc _ M hk ⟨rfl,rfl⟩ hM
  obtain⟨lt,rfl⟩:=j0t hk
  rw[Int.zero_add]
  refine⟨Int.natCast_nonneg _,?_⟩
  show if(Builtin.bitAnd ((r:Int) / 2^((k:Int).toNat)) 1 != 0)=true then M (a0e ((List.range k).filter r.testBit)++[nD k]) [nv r]else M (a0e ((List.range k).filter r.testBit)) [nv r]
  rw[c1y]
  cases e:r.testBit k with
  | true=>exact hM _ _ ⟨by rw[List.range_succ,List.filter_append,<- f0d];simp[e],rfl⟩
  | false=>exact hM _ _ ⟨by rw[List.range_succ,List.filter_append];simp[e],rfl⟩
 rintro acc _ ⟨rfl,rfl⟩
 rw[d0s,eb,Int.toNat_natCast]
 exact hq
theorem b1b (dn:DefN K mg "weight" n0c ["row"])(B:BI mg)(g_givens_of:OkN P w K mg base 1 "givens_of" ["row"] (spA K w0k)):OkN P w K mg base 2 "weight" ["row"] (spA K m0e):=by
 refine dn.aok2 (k:=1) a1i (λj=>j==0) [] m0e rfl (λf cdv A outer s H E hr=>have hu:=e0z hr;⟨_,(a0p (b0d (a0r (b0e K) rfl B.len_ c0q (a0c (b0k g_givens_of (hr.mono (by decide)) (a0c (pv 0) a0f)) a0f)))),(a0v (b0f b0q (a0a (a0n (a0a a0b a0d)) a0d)))⟩) ?_
 rintro ss q ⟨r,rfl,hr,hq⟩
 refine⟨rfl,rfl,rfl,r,rfl,hr,?_⟩
 show q (.d (.int (((a0e (d0g r)).length:Nat):Int))) [nv r]
 rw[a0k];exact hq
theorem t0a (dn:DefN K mg "givens_in" i0b ["rows", "places"])(B:BI mg):OkN P w K mg base 1 "givens_in" ["rows", "places"] (spA K u0m):=by
 refine dn.aok2 (k:=0) h0d (λj=>j==0||j==1) [.un,.un] u0m rfl (λf cdv A outer s H E hr=>have hu:=e0z hr;⟨_,(a0i (b0b (i:=2) h0d.nd rfl (by first | exact Or.inl rfl | exact Or.inr rfl) a0j)
  (a0i (h0p PassesOwn.never rfl (b0z K (pv 1)) (a0z (i:=3) h0d.nd rfl (by first | exact Or.inl rfl | exact Or.inr rfl))
  (a0p (g1c (i:=2) h0d.nd rfl (by first | exact Or.inl rfl | exact Or.inr rfl) (c0n (b0c K) (pv 0) (pv 3) (λ_ _=>rfl)) g1h)))
  (a0p (b0d (pv 2))))),(a0l (a0u a0g rfl)
  (a0l (f0m (pin:=(λj=>j==1)) (b0n a0b) (a0q rfl)
  (a1d (a0h b0p a0b a0b) rfl))
  (a0v a0b)))⟩) ?_
 rintro ss q ⟨b,rows,C,rfl,hR,hC,hl,hq⟩
 cases b
 ·refine⟨rfl,rfl,?_⟩
  refine i0i nD (λk ρ=>∃s3,ρ=[.vl (.tup (a0e rows)),.vl (lstN C),nv (orN rows (C.take k)),s3]) (λ_ _ _=>trivial) ?_ ?_ ⟨.un,rfl⟩
  ·rintro k p _ M hk ⟨s3,rfl⟩ hM
   have hp:=hC p (List.mem_of_getElem? hk)
   refine e0i (i:=p) (ds:=a0e rows) (d:=nD (rw1 rows p)) rfl (by rw[show rw1 rows p=rows.getD p 0 from rfl];exact c0c hp) ?_
   refine hM _ ⟨nv p,?_⟩
   have e:orN rows (C.take (k+1))=orN rows (C.take k) ||| rw1 rows p:=by
    unfold orN
    rw[List.take_add_one,hk,List.foldl_append];rfl
   rw[e,<- p0d (p0s _ _)]
   rfl
  ·rintro _ ⟨s3,rfl⟩
   rw[List.take_length]
   exact hq
 ·refine⟨rfl,rfl,?_⟩
  refine i0i nD (λk ρ=>∃s3,ρ=[.vl (.lst (a0e rows)),.vl (lstN C),nv (orN rows (C.take k)),s3]) (λ_ _ _=>trivial) ?_ ?_ ⟨.un,rfl⟩
  ·rintro k p _ M hk ⟨s3,rfl⟩ hM
   have hp:=hC p (List.mem_of_getElem? hk)
   refine j0g (i:=p) (ds:=a0e rows) (d:=nD (rw1 rows p)) rfl (by rw[show rw1 rows p=rows.getD p 0 from rfl];exact c0c hp) ?_
   refine hM _ ⟨nv p,?_⟩
   have e:orN rows (C.take (k+1))=orN rows (C.take k) ||| rw1 rows p:=by
    unfold orN
    rw[List.take_add_one,hk,List.foldl_append];rfl
   rw[e,<- p0d (p0s _ _)]
   rfl
  ·rintro _ ⟨s3,rfl⟩
   rw[List.take_length]
   exact hq
theorem r0b (dn:DefN K mg "classes_of" e0b ["rows"])(B:BI mg)(g_givens_in:OkN P w K mg base 1 "givens_in" ["rows", "places"] (spA K u0m)):OkN P w K mg base 2 "classes_of" ["rows"] (spA K n0m):=by
 refine dn.aok2 (k:=1) e0f (λj=>j==0) [.un,.un,.un,.un] n0m rfl (λf cdv A outer s H E hr=>have hu:=e0z hr;⟨_,(a0i (b0b (i:=1) e0f.nd rfl (by first | exact Or.inl rfl | exact Or.inr rfl) (b0w a0f))
  (a0i (h0p PassesOwn.never rfl (n1a (x0b K rfl B.enumerate_ (a0c (pv 0) a0f)) (h1v K rfl B.enumerate_ (a0c (pv 0) a0f))) (l0y K (n:=2) rfl (e0t (a0z (i:=2) e0f.nd rfl (by first | exact Or.inl rfl | exact Or.inr rfl)) (e0t (a0z (i:=3) e0f.nd rfl (by first | exact Or.inl rfl | exact Or.inr rfl)) l0x)))
  (a0i (b0b (i:=4) e0f.nd rfl (by first | exact Or.inl rfl | exact Or.inr rfl) (d0q ["places"] [0,3] rfl (Blk.of (a0m e0b) g0k) (b0z K (pv 1)) (λ_ _ _ _ nd=>(a0z (i:=0) nd rfl (by first | exact Or.inl rfl | exact Or.inr rfl))) (λ_ _ _ _=>(f0h (h0o K (a0x m0j (b0k g_givens_in (hr.mono (by decide)) (a0c (pv 1) (a0c (pv 0) a0f))) (pv 2)) (λ_=>rfl)))) (λ_ _ _ _=>(pv 0))))
  (a0i (k0k (i:=1) ["places"] [4] e0f.nd rfl (by first | exact Or.inl rfl | exact Or.inr rfl) rfl (Blk.of (a0m e0b) g0k) (b0z K (pv 1)) (λ_ _ _ _ nd=>(a0z (i:=0) nd rfl (by first | exact Or.inl rfl | exact Or.inr rfl))) (λ_ _ _ _=>(f0h (a0s (s0t K hr.units) (pv 0) (pv 1) rfl))) (λ_ _ _ _=>(pv 0)))
  (a0p (l0w (p0q K PySem.F.plainAttrs_list PySem.F.slot_list_append PySem.F.type_list_append h0q (pv 1) (a0c (a0r (i0n K) rfl B.sorted_ h0x (a0c (a0x (c0o K) (e1i ["other", "places"] [] rfl (Blk.of (a0m e0b) g0k) (b0z K (pv 4)) (λ_ _ _ _ nd=>(a0z (i:=1) nd rfl (by first | exact Or.inl rfl | exact Or.inr rfl))) (λ_ _ _ _=>f0i) (λ_ _ _ _=>(b0z K (pv 1))) (λ_ _ _ _ nd=>(a0z (i:=0) nd rfl (by first | exact Or.inl rfl | exact Or.inr rfl))) (λ_ _ _ _=>f0i) (λ_ _ _ _=>(pv 0))) (b0w (a0c (pv 2) a0f))) a0f)) a0f)))))))
  (a0p (b0d (a0r (w0d K hr.units) rfl B.sorted_ h0x (a0c (pv 1) a0f)))))),(a0l (a0u (b0i a0d) rfl)
  (a0l (f0m (pin:=(λj=>j==0)) (h1f (p0m (a0a a0b a0d)) (z0s (a0a a0b a0d))) (j0m (c0t (a0q rfl) (c0t (a0q rfl) h0j (λ_ _ _=>g0a)) (λ_ _ _=>g0a)))
  (a0l (a0u (b0t (b0n a0b) (a0q rfl) (j0l (a0h a0w (a0n (a0a a0b (a0a a0b a0d))) a0b)) a0b) rfl)
  (a0l (h0a (b0t (b0n a0b) (a0q rfl) (a0o (a0h (b1a true) a0b a0b)) a0b) rfl)
  (j0n (l0v a0b (a0a (b0f i0l (a0a (a0h c0p (z0q (n2:=1) (b0n a0b) (a0q rfl) d0r (b0n a0b) (a0q rfl) d0r a0b) (b0i (a0a a0b a0d))) a0d)) a0d))))))
  (a0v (b0f w0c (a0a a0b a0d)))))⟩) ?_
 rintro ss q ⟨b,rows,rfl,hR,hq⟩
 have l24:=hR.l24
 cases b
 ·refine⟨rfl,rfl,?_⟩
  refine cutS (λρ=>ρ=[.vl (.tup (a0e rows)),.ow [],.un,.un,.un]) (λM hM=>⟨by simp,hM _ rfl⟩) ?_
  rintro _ rfl
  refine cutS (λρ=>∃cls s2 s3 s4,ρ=[.vl (.tup (a0e rows)),.ow (cls.map lstN),s2,s3,s4]/\Cl rows rows.length cls/\cls.length<=24) (λM hM=>.inl (j0v (λk ρ=>k<=rows.length/\∃cls s2 s3 s4,ρ=[.vl (.tup (a0e rows)),.ow (cls.map lstN),s2,s3,s4]/\Cl rows k cls/\cls.length<=k) (λ_ _ _ _=>trivial) ?_ ?_ _ ⟨Nat.zero_le _,[],.un,.un,.un,rfl,Cl.start,Nat.le_refl _⟩)) ?_
  ·rintro k d _ M2 hk ⟨_,cls,s2,s3,s4,rfl,hc,hcl⟩ hM2
   obtain⟨x,ex,rfl⟩:=h0w hk
   rw[List.getElem?_map]at ex
   obtain⟨r,er,rfl⟩:=Option.map_eq_some_iff.mp ex
   have lt:k<rows.length:=(List.getElem?_eq_some_iff.mp er).1
   have er':rw1 rows k=r:=by unfold rw1;rw[List.getD_eq_getElem?_getD,er];rfl
   rw[Nat.zero_add]
   refine h1d ?_
   show aSeq _ _ _ [.vl (.tup (a0e rows)),.ow (cls.map lstN),nv k,nv r,s4]
   refine cutS (λρ=>ρ=[.vl (.tup (a0e rows)),.ow (cls.map lstN),nv k,nv r,.ow ((metC rows k cls).map lstN)]) (λM3 hM3=>⟨rfl,by rw[List.length_map];omega,?_⟩) ?_
   ·refine e0e lstN (g0x rows k) lstN rfl (λC acc M4 hC hM4=>?_) (hM3 _ rfl)
    have cin:=hc.lt C hC
    refine⟨rfl,false,rows,C,rfl,hR,λi hi=>by have:=cin i hi;omega,by have:=hc.few hC;omega,?_⟩
    have e2:truD (.int (Builtin.bitAnd ((orN rows C:Nat):Int) ((r:Nat):Int)))=g0x rows k C:=by
     rw[k0s,x0m,er']
     show((((orN rows C &&& r:Nat):Int)) != 0)=_
     rw[Bool.eq_iff_iff]
     simp
    show if truD (.int (Builtin.bitAnd ((orN rows C:Nat):Int) ((r:Nat):Int)))=true then _ else _
    rw[e2]
    cases hm:g0x rows k C with
    | true=>rw[hm]at hM4;exact hM4
    | false=>rw[hm]at hM4;exact hM4
   rintro _ rfl
   refine cutS (λρ=>ρ=[.vl (.tup (a0e rows)),.ow ((farC rows k cls).map lstN),nv k,nv r,.ow ((metC rows k cls).map lstN)]) (λM3 hM3=>⟨rfl,by rw[List.length_map];omega,?_⟩) ?_
   ·refine e0e lstN (λC=>!g0x rows k C) lstN rfl (λC acc M4 hC hM4=>?_) (hM3 _ rfl)
    have e2:(((metC rows k cls).map lstN).any λe=>eqD e (lstN C))=g0x rows k C:=by
     rw[List.any_map,Bool.eq_iff_iff,List.any_eq_true]
     constructor
     ·rintro⟨C',h1,h2⟩
      have h3:eqD (lstN C') (lstN C)=true:=h2
      rw[l0o]at h3
      have:=of_decide_eq_true h3
      subst this
      exact(List.mem_filter.mp h1).2
     ·intro h
      refine⟨C,List.mem_filter.mpr ⟨hC,h⟩,?_⟩
      show eqD (lstN C) (lstN C)=true
      exact e0j _
    refine r0n rfl rfl (λe he=>?_) e2 ?_
    ·obtain⟨C',_,rfl⟩:=List.mem_map.mp he
     exact d0d _
    ·cases hm:g0x rows k C with
     | true=>rw[hm]at hM4;exact hM4
     | false=>rw[hm]at hM4;exact hM4
   rintro _ rfl
   have fl:(metC rows k cls).flatten.length<=24:=by
    have nd:=hc.flat
    have:=List.Nodup.length_le_of_subset nd (l₂:=List.range (k+1)) λx hx=>?_
    ·rw[List.length_append,List.length_range,List.length_singleton]at this;omega
    ·rw[List.mem_range]
     rcases List.mem_append.mp hx with z | z
     ·obtain⟨C,h1,h2⟩:=List.mem_flatten.mp z
      have:=hc.lt C (List.mem_filter.mp h1).1 x h2
      omega
     ·rw[List.mem_singleton.mp z];omega
   have fc:(farC rows k cls).length<=cls.length:=List.length_filter_le _ _
   have hml:(metC rows k cls).length<=cls.length:=List.length_filter_le _ _
   have fa:(metC rows k cls).flatMap a0e=a0e (metC rows k cls).flatten:=by
    unfold a0e
    rw[List.map_flatten,List.flatMap_def]
   refine⟨rfl,t0y lstN a0e rfl (λC acc M4 hC hacc hM4=>?_) ?_ ?_⟩
   ·obtain⟨ys,hy1,rfl,hy2⟩:=hacc
    have yl:(ys.flatMap a0e).length<=ys.length*24:=by
     clear hM4 hy1
     induction ys with
     | nil=>simp
     | cons y ys ih =>
      have h1:=ih λz hz=>hy2 z (List.mem_cons_of_mem _ hz)
      have h2:=hc.few (List.mem_filter.mp (hy2 y (List.mem_cons_self ..))).1
      rw[List.flatMap_cons,List.length_append,a0k,List.length_cons];omega
    have cl24:=hc.few (List.mem_filter.mp hC).1
    have y24:ys.length*24<=24*24:=Nat.mul_le_mul (by omega) (Nat.le_refl _)
    refine t0x (λj ac ρ=>ac=ys.flatMap a0e++a0e (C.take j)/\ρ=[.un,.vl (lstN C)]) ?_ ?_ ?_ _ _ ⟨by simp[a0e],rfl⟩
    ·rintro j ac ρ _ ⟨rfl,rfl⟩
     rw[List.length_append,a0k,List.length_take]
     exact⟨by first | rfl | trivial,by omega⟩
    ·rintro j d ac _ N2 hj ⟨rfl,rfl⟩ hN2
     unfold a0e at hj
     rw[List.getElem?_map]at hj
     obtain⟨y,ey,rfl⟩:=Option.map_eq_some_iff.mp hj
     refine hN2 _ _ ⟨?_,rfl⟩
     rw[List.take_add_one,ey,Option.toList_some,List.append_assoc]
     unfold a0e
     rw[List.map_append];rfl
    ·rintro ac _ ⟨rfl,rfl⟩
     rw[a0k,List.take_length]
     exact hM4
   ·rw[fa,a0k];omega
   ·rw[fa]
    refine⟨by simp,by rw[a0k];show _+1<=_;omega,?_⟩
    refine g0p (ns:=castL ((metC rows k cls).flatten++[k])) ?_ ?_ λns' pm up=>?_
    ·show some (D.lst (a0e (metC rows k cls).flatten++[nD k]))=_
     unfold castL a0e
     rw[List.map_map,List.map_append];rfl
    ·unfold castL;rw[List.length_map,List.length_append,List.length_singleton];omega
    ·have nn:∀x∈ns',∃y:Nat,x=(y:Int):=λx hx=>by
      have:=pm.mem_iff.mp hx
      unfold castL at this
      obtain⟨y,_,rfl⟩:=List.mem_map.mp this
      exact⟨y,rfl⟩
     have eN:castL (ns'.map Int.toNat)=ns':=by
      unfold castL
      rw[List.map_map]
      conv=>rhs;rw[<- List.map_id ns']
      refine List.map_congr_left λx hx=>?_
      obtain⟨y,rfl⟩:=nn x hx
      rfl
     have pN:(ns'.map Int.toNat).Perm ((metC rows k cls).flatten++[k]):=by
      have:=pm.map Int.toNat
      refine this.trans (List.Perm.of_eq ?_)
      unfold castL
      rw[List.map_map]
      conv=>rhs;rw[<- List.map_id ((metC rows k cls).flatten++[k])]
      exact List.map_congr_left λx _=>rfl
     have uN:(ns'.map Int.toNat).Pairwise (· <= ·):=List.pairwise_map.mpr (List.Pairwise.imp (λh=>by omega) up)
     have hnext:=hc.next lt pN uN
     generalize ns'.map Int.toNat=N at eN pN uN hnext
     subst eN
     refine⟨by rw[List.length_map];omega,hM2 _ ⟨by omega,farC rows k cls++[N],nv k,nv r,.ow ((metC rows k cls).map lstN),?_,hnext,by rw[List.length_append,List.length_singleton];omega⟩⟩
     rw[List.map_append]
     show[Sv.vl (.tup (a0e rows)),.ow ((farC rows k cls).map lstN++[lstI (castL N)]),nv k,nv r,_]=_
     rw[h0r]
     rfl
  ·rintro _ ⟨_,cls,s2,s3,s4,rfl,hc,hcl⟩
   have e:(l0p 0 (a0e rows)).length=rows.length:=by rw[h0v,a0k]
   rw[e]at hc hcl
   exact hM _ ⟨cls,s2,s3,s4,rfl,hc,by omega⟩
  rintro _ ⟨cls,s2,s3,s4,rfl,hc,hcl⟩
  refine p0z (nss:=cls.map castL) ?_ (by rw[List.length_map];omega) (λns hns=>?_) λnss' pm so=>?_
  ·show some (D.lst (cls.map lstN))=_
   rw[List.map_map]
   congr 2
   exact List.map_congr_left λC _=>(h0r C).symm
  ·obtain⟨C,hC,rfl⟩:=List.mem_map.mp hns
   have:=hc.few hC
   refine⟨by unfold castL;rw[List.length_map];omega,λx hx=>?_⟩
   unfold castL at hx
   obtain⟨y,hy,rfl⟩:=List.mem_map.mp hx
   have:=hc.lt C hC y hy
   omega
  ·have:=hc.sorted pm so
   subst this
   have e:((b0h rows rows.length).map castL).map lstI=(b0h rows rows.length).map lstN:=by
    rw[List.map_map]
    exact List.map_congr_left λC _=>h0r C
   rw[e]
   exact hq
 ·refine⟨rfl,rfl,?_⟩
  refine cutS (λρ=>ρ=[.vl (.lst (a0e rows)),.ow [],.un,.un,.un]) (λM hM=>⟨by simp,hM _ rfl⟩) ?_
  rintro _ rfl
  refine cutS (λρ=>∃cls s2 s3 s4,ρ=[.vl (.lst (a0e rows)),.ow (cls.map lstN),s2,s3,s4]/\Cl rows rows.length cls/\cls.length<=24) (λM hM=>.inr (j0v (λk ρ=>k<=rows.length/\∃cls s2 s3 s4,ρ=[.vl (.lst (a0e rows)),.ow (cls.map lstN),s2,s3,s4]/\Cl rows k cls/\cls.length<=k) (λ_ _ _ _=>trivial) ?_ ?_ _ ⟨Nat.zero_le _,[],.un,.un,.un,rfl,Cl.start,Nat.le_refl _⟩)) ?_
  ·rintro k d _ M2 hk ⟨_,cls,s2,s3,s4,rfl,hc,hcl⟩ hM2
   obtain⟨x,ex,rfl⟩:=h0w hk
   rw[List.getElem?_map]at ex
   obtain⟨r,er,rfl⟩:=Option.map_eq_some_iff.mp ex
   have lt:k<rows.length:=(List.getElem?_eq_some_iff.mp er).1
   have er':rw1 rows k=r:=by unfold rw1;rw[List.getD_eq_getElem?_getD,er];rfl
   rw[Nat.zero_add]
   refine h1d ?_
   show aSeq _ _ _ [.vl (.lst (a0e rows)),.ow (cls.map lstN),nv k,nv r,s4]
   refine cutS (λρ=>ρ=[.vl (.lst (a0e rows)),.ow (cls.map lstN),nv k,nv r,.ow ((metC rows k cls).map lstN)]) (λM3 hM3=>⟨rfl,by rw[List.length_map];omega,?_⟩) ?_
   ·refine e0e lstN (g0x rows k) lstN rfl (λC acc M4 hC hM4=>?_) (hM3 _ rfl)
    have cin:=hc.lt C hC
    refine⟨rfl,true,rows,C,rfl,hR,λi hi=>by have:=cin i hi;omega,by have:=hc.few hC;omega,?_⟩
    have e2:truD (.int (Builtin.bitAnd ((orN rows C:Nat):Int) ((r:Nat):Int)))=g0x rows k C:=by
     rw[k0s,x0m,er']
     show((((orN rows C &&& r:Nat):Int)) != 0)=_
     rw[Bool.eq_iff_iff]
     simp
    show if truD (.int (Builtin.bitAnd ((orN rows C:Nat):Int) ((r:Nat):Int)))=true then _ else _
    rw[e2]
    cases hm:g0x rows k C with
    | true=>rw[hm]at hM4;exact hM4
    | false=>rw[hm]at hM4;exact hM4
   rintro _ rfl
   refine cutS (λρ=>ρ=[.vl (.lst (a0e rows)),.ow ((farC rows k cls).map lstN),nv k,nv r,.ow ((metC rows k cls).map lstN)]) (λM3 hM3=>⟨rfl,by rw[List.length_map];omega,?_⟩) ?_
   ·refine e0e lstN (λC=>!g0x rows k C) lstN rfl (λC acc M4 hC hM4=>?_) (hM3 _ rfl)
    have e2:(((metC rows k cls).map lstN).any λe=>eqD e (lstN C))=g0x rows k C:=by
     rw[List.any_map,Bool.eq_iff_iff,List.any_eq_true]
     constructor
     ·rintro⟨C',h1,h2⟩
      have h3:eqD (lstN C') (lstN C)=true:=h2
      rw[l0o]at h3
      have:=of_decide_eq_true h3
      subst this
      exact(List.mem_filter.mp h1).2
     ·intro h
      refine⟨C,List.mem_filter.mpr ⟨hC,h⟩,?_⟩
      show eqD (lstN C) (lstN C)=true
      exact e0j _
    refine r0n rfl rfl (λe he=>?_) e2 ?_
    ·obtain⟨C',_,rfl⟩:=List.mem_map.mp he
     exact d0d _
    ·cases hm:g0x rows k C with
     | true=>rw[hm]at hM4;exact hM4
     | false=>rw[hm]at hM4;exact hM4
   rintro _ rfl
   have fl:(metC rows k cls).flatten.length<=24:=by
    have nd:=hc.flat
    have:=List.Nodup.length_le_of_subset nd (l₂:=List.range (k+1)) λx hx=>?_
    ·rw[List.length_append,List.length_range,List.length_singleton]at this;omega
    ·rw[List.mem_range]
     rcases List.mem_append.mp hx with z | z
     ·obtain⟨C,h1,h2⟩:=List.mem_flatten.mp z
      have:=hc.lt C (List.mem_filter.mp h1).1 x h2
      omega
     ·rw[List.mem_singleton.mp z];omega
   have fc:(farC rows k cls).length<=cls.length:=List.length_filter_le _ _
   have hml:(metC rows k cls).length<=cls.length:=List.length_filter_le _ _
   have fa:(metC rows k cls).flatMap a0e=a0e (metC rows k cls).flatten:=by
    unfold a0e
    rw[List.map_flatten,List.flatMap_def]
   refine⟨rfl,t0y lstN a0e rfl (λC acc M4 hC hacc hM4=>?_) ?_ ?_⟩
   ·obtain⟨ys,hy1,rfl,hy2⟩:=hacc
    have yl:(ys.flatMap a0e).length<=ys.length*24:=by
     clear hM4 hy1
     induction ys with
     | nil=>simp
     | cons y ys ih =>
      have h1:=ih λz hz=>hy2 z (List.mem_cons_of_mem _ hz)
      have h2:=hc.few (List.mem_filter.mp (hy2 y (List.mem_cons_self ..))).1
      rw[List.flatMap_cons,List.length_append,a0k,List.length_cons];omega
    have cl24:=hc.few (List.mem_filter.mp hC).1
    have y24:ys.length*24<=24*24:=Nat.mul_le_mul (by omega) (Nat.le_refl _)
    refine t0x (λj ac ρ=>ac=ys.flatMap a0e++a0e (C.take j)/\ρ=[.un,.vl (lstN C)]) ?_ ?_ ?_ _ _ ⟨by simp[a0e],rfl⟩
    ·rintro j ac ρ _ ⟨rfl,rfl⟩
     rw[List.length_append,a0k,List.length_take]
     exact⟨by first | rfl | trivial,by omega⟩
    ·rintro j d ac _ N2 hj ⟨rfl,rfl⟩ hN2
     unfold a0e at hj
     rw[List.getElem?_map]at hj
     obtain⟨y,ey,rfl⟩:=Option.map_eq_some_iff.mp hj
     refine hN2 _ _ ⟨?_,rfl⟩
     rw[List.take_add_one,ey,Option.toList_some,List.append_assoc]
     unfold a0e
     rw[List.map_append];rfl
    ·rintro ac _ ⟨rfl,rfl⟩
     rw[a0k,List.take_length]
     exact hM4
   ·rw[fa,a0k];omega
   ·rw[fa]
    refine⟨by simp,by rw[a0k];show _+1<=_;omega,?_⟩
    refine g0p (ns:=castL ((metC rows k cls).flatten++[k])) ?_ ?_ λns' pm up=>?_
    ·show some (D.lst (a0e (metC rows k cls).flatten++[nD k]))=_
     unfold castL a0e
     rw[List.map_map,List.map_append];rfl
    ·unfold castL;rw[List.length_map,List.length_append,List.length_singleton];omega
    ·have nn:∀x∈ns',∃y:Nat,x=(y:Int):=λx hx=>by
      have:=pm.mem_iff.mp hx
      unfold castL at this
      obtain⟨y,_,rfl⟩:=List.mem_map.mp this
      exact⟨y,rfl⟩
     have eN:castL (ns'.map Int.toNat)=ns':=by
      unfold castL
      rw[List.map_map]
      conv=>rhs;rw[<- List.map_id ns']
      refine List.map_congr_left λx hx=>?_
      obtain⟨y,rfl⟩:=nn x hx
      rfl
     have pN:(ns'.map Int.toNat).Perm ((metC rows k cls).flatten++[k]):=by
      have:=pm.map Int.toNat
      refine this.trans (List.Perm.of_eq ?_)
      unfold castL
      rw[List.map_map]
      conv=>rhs;rw[<- List.map_id ((metC rows k cls).flatten++[k])]
      exact List.map_congr_left λx _=>rfl
     have uN:(ns'.map Int.toNat).Pairwise (· <= ·):=List.pairwise_map.mpr (List.Pairwise.imp (λh=>by omega) up)
     have hnext:=hc.next lt pN uN
     generalize ns'.map Int.toNat=N at eN pN uN hnext
     subst eN
     refine⟨by rw[List.length_map];omega,hM2 _ ⟨by omega,farC rows k cls++[N],nv k,nv r,.ow ((metC rows k cls).map lstN),?_,hnext,by rw[List.length_append,List.length_singleton];omega⟩⟩
     rw[List.map_append]
     show[Sv.vl (.lst (a0e rows)),.ow ((farC rows k cls).map lstN++[lstI (castL N)]),nv k,nv r,_]=_
     rw[h0r]
     rfl
  ·rintro _ ⟨_,cls,s2,s3,s4,rfl,hc,hcl⟩
   have e:(l0p 0 (a0e rows)).length=rows.length:=by rw[h0v,a0k]
   rw[e]at hc hcl
   exact hM _ ⟨cls,s2,s3,s4,rfl,hc,by omega⟩
  rintro _ ⟨cls,s2,s3,s4,rfl,hc,hcl⟩
  refine p0z (nss:=cls.map castL) ?_ (by rw[List.length_map];omega) (λns hns=>?_) λnss' pm so=>?_
  ·show some (D.lst (cls.map lstN))=_
   rw[List.map_map]
   congr 2
   exact List.map_congr_left λC _=>(h0r C).symm
  ·obtain⟨C,hC,rfl⟩:=List.mem_map.mp hns
   have:=hc.few hC
   refine⟨by unfold castL;rw[List.length_map];omega,λx hx=>?_⟩
   unfold castL at hx
   obtain⟨y,hy,rfl⟩:=List.mem_map.mp hx
   have:=hc.lt C hC y hy
   omega
  ·have:=hc.sorted pm so
   subst this
   have e:((b0h rows rows.length).map castL).map lstI=(b0h rows rows.length).map lstN:=by
    rw[List.map_map]
    exact List.map_congr_left λC _=>h0r C
   rw[e]
   exact hq
theorem p0a (dn:DefN K mg "hang_number" f0g ["rows", "classes"])(B:BI mg)(g_weight:OkN P w K mg base 2 "weight" ["row"] (spA K m0e))(g_givens_in:OkN P w K mg base 1 "givens_in" ["rows", "places"] (spA K u0m)):OkN P w K mg base 3 "hang_number" ["rows", "classes"] (spA K f1m):=by
 refine dn.aok2 (k:=2) o0y (λj=>j==0||j==1) [] f1m rfl (λf cdv A outer s H E hr=>have hu:=e0z hr;⟨_,(a0p (b0d (a0r (u0b K rfl) rfl B.sum_ g1q (a0c (d0q ["places"] [0] rfl (Blk.of (a0m f0g) k0e) (b0z K (pv 1)) (λ_ _ _ _ nd=>(a0z (i:=0) nd rfl (by first | exact Or.inl rfl | exact Or.inr rfl))) (λ_ _ _ _=>f0i) (λ_ _ _ _=>(a0x g0w (b0k g_weight (hr.mono (by decide)) (a0c (b0k g_givens_in (hr.mono (by decide)) (a0c (pv 1) (a0c (pv 0) a0f))) a0f)) a0j))) a0f)))),(a0v (b0f x0v (a0a (b0t (b0n a0b) (a0q rfl) d0r (a0h a0w (a0n (a0a (a0n (a0a a0b (a0a a0b a0d))) a0d)) a0g)) a0d)))⟩) ?_
 rintro ss q ⟨rows,L,s1,hs,rfl,hR,⟨hl,hL⟩,hq⟩
 have bd:∀C∈L,1<=wt (orN rows C)/\wt (orN rows C)<=12:=λC hC=>by
  obtain⟨h2,_,h1⟩:=hL C hC
  refine⟨?_,g1j (x0f hR C 0 h1 (by decide))⟩
  obtain⟨i,hi⟩:=List.exists_mem_of_ne_nil C h2
  refine i1y (Nat.pos_of_ne_zero λz=>?_)
  have z':orN rows C &&& rw1 rows i=0:=by rw[z];exact Nat.zero_and _
  have:=((n0v C 0).mp z').2 i hi
  rw[Nat.and_self]at this
  have:=(hR.at (h1 i hi)).1
  omega
 have sm:∀L:List (List Nat),(∀C∈L,1<=wt (orN rows C)/\wt (orN rows C)<=12)->0<=(L.map λC=>((wt (orN rows C):Nat):Int) - 1).sum/\(L.map λC=>((wt (orN rows C):Nat):Int) - 1).sum<=12*L.length:=by
  intro L
  induction L with
  | nil=>intro _;simp
  | cons C L ih =>
   intro h
   have h1:=ih λC' z=>h C' (List.mem_cons_of_mem _ z)
   have h2:=h C (List.mem_cons_self ..)
   rw[List.map_cons,List.sum_cons,List.length_cons]
   omega
 have:=sm _ bd
 have l24:=hR.l24
 rcases hs with rfl | rfl
 ·refine⟨rfl,rfl,?_⟩
  refine⟨rfl,by rw[List.length_map];omega,?_⟩
  refine d0e lstN (λC=>.int (((wt (orN rows C):Nat):Int) - 1)) rfl (λC acc M hC hM=>?_) ?_
  ·obtain⟨h2,h3,h1⟩:=hL C hC
   exact⟨rfl,false,rows,C,rfl,hR,h1,by omega,rfl,orN rows C,rfl,x0f hR C 0 h1 (by decide),hM⟩
  ·refine v0t (ns:=L.map λC=>((wt (orN rows C):Nat):Int) - 1) (by rw[List.map_map];rfl) (λn hn=>?_) ?_ hq
   ·obtain⟨C,hC,rfl⟩:=List.mem_map.mp hn
    have:=bd C hC
    omega
   ·omega
 ·refine⟨rfl,rfl,?_⟩
  refine⟨by rw[List.length_map];omega,?_⟩
  refine d0e lstN (λC=>.int (((wt (orN rows C):Nat):Int) - 1)) trivial (λC acc M hC hM=>?_) ?_
  ·obtain⟨h2,h3,h1⟩:=hL C hC
   exact⟨rfl,false,rows,C,rfl,hR,h1,by omega,rfl,orN rows C,rfl,x0f hR C 0 h1 (by decide),hM⟩
  ·refine v0t (ns:=L.map λC=>((wt (orN rows C):Nat):Int) - 1) (by rw[List.map_map];rfl) (λn hn=>?_) ?_ hq
   ·obtain⟨C,hC,rfl⟩:=List.mem_map.mp hn
    have:=bd C hC
    omega
   ·omega
theorem m0x (dn:DefN K mg "unlike_number" d0z ["rows", "places"])(B:BI mg)(g_weight:OkN P w K mg base 2 "weight" ["row"] (spA K m0e)):OkN P w K mg base 3 "unlike_number" ["rows", "places"] (spA K SUnl):=by
 refine dn.aok2 (k:=2) m0u (λj=>j==0||j==1) [] SUnl rfl (λf cdv A outer s H E hr=>have hu:=e0z hr;⟨_,(a0p (b0d (a0x g0w (a0x e0d (a0r (b0e K) rfl B.len_ c0q (a0c (pv 1) a0f)) (a0r (o0s K rfl) rfl B.min_ c1u (a0c (d0q ["place"] [0] rfl (Blk.of (a0m d0z) i0r) (b0z K (pv 1)) (λ_ _ _ _ nd=>(a0z (i:=0) nd rfl (by first | exact Or.inl rfl | exact Or.inr rfl))) (λ_ _ _ _=>f0i) (λ_ _ _ _=>(b0k g_weight (hr.mono (by decide)) (a0c (c0n (b0c K) (pv 1) (pv 0) (λ_ _=>rfl)) a0f)))) a0f))) a0j))),(a0v (a0h a0w (a0h a0w (b0f b0q (a0a a0b a0d)) (b0f o0r (a0a (b0t (b0n a0b) (a0q rfl) d0r (a0n (a0a (a0h b0p a0b a0b) a0d))) a0d))) a0g))⟩) ?_
 rintro ss q ⟨rows,ps,s1,hs,rfl,hR,hne,hfl,hp1,hq⟩
 have l24:=hR.l24
 rcases hs with rfl | rfl
 ·refine⟨rfl,rfl,?_⟩
  refine⟨rfl,by rw[a0k];omega,?_⟩
  refine d0e nD (λp=>nD (wt (rw1 rows p))) rfl (λp acc M hp hM=>?_) ?_
  ·have h1:=hp1 p hp
   refine e0i (i:=p) (ds:=a0e rows) (d:=nD (rw1 rows p)) rfl (by rw[show rw1 rows p=rows.getD p 0 from rfl];exact c0c h1) ?_
   exact⟨rfl,rw1 rows p,rfl,(hR.at h1).2,hM⟩
  ·refine r0l (ns:=ps.map λp=>((wt (rw1 rows p):Nat):Int)) (by rw[List.map_map];rfl) (λz=>hne (List.map_eq_nil_iff.mp z)) λM h1 h2=>?_
   have:=b1f h1 h2
   unfold unlL at hq
   rw[this]at hq
   rw[a0k]
   exact hq
 ·refine⟨rfl,rfl,?_⟩
  refine⟨by rw[a0k];omega,?_⟩
  refine d0e nD (λp=>nD (wt (rw1 rows p))) trivial (λp acc M hp hM=>?_) ?_
  ·have h1:=hp1 p hp
   refine e0i (i:=p) (ds:=a0e rows) (d:=nD (rw1 rows p)) rfl (by rw[show rw1 rows p=rows.getD p 0 from rfl];exact c0c h1) ?_
   exact⟨rfl,rw1 rows p,rfl,(hR.at h1).2,hM⟩
  ·refine r0l (ns:=ps.map λp=>((wt (rw1 rows p):Nat):Int)) (by rw[List.map_map];rfl) (λz=>hne (List.map_eq_nil_iff.mp z)) λM h1 h2=>?_
   have:=b1f h1 h2
   unfold unlL at hq
   rw[this]at hq
   rw[a0k]
   exact hq
theorem n0x (dn:DefN K mg "first_places" e0p ["rows"])(B:BI mg)(g_weight:OkN P w K mg base 2 "weight" ["row"] (spA K m0e)):OkN P w K mg base 3 "first_places" ["rows"] (spA K w0l):=by
 refine dn.aok2 (k:=2) n0r (λj=>j==0) [] w0l rfl (λf cdv A outer s H E hr=>have hu:=e0z hr;⟨_,(a0p (b0d (d0q ["place", "row"] [0] rfl (Blk.of (a0m e0p) j0c) (x0b K rfl B.enumerate_ (a0c (pv 0) a0f)) (λ_ _ _ _ nd=>(l0y K (n:=2) rfl (e0t (a0z (i:=0) nd rfl (by first | exact Or.inl rfl | exact Or.inr rfl)) (e0t (a0z (i:=1) nd rfl (by first | exact Or.inl rfl | exact Or.inr rfl)) l0x)))) (λ_ _ _ _=>(f0h (PW.pt (k0x (a0s q0w (b0k g_weight (hr.mono (by decide)) (a0c (pv 1) a0f)) a0j (a0y _)) (i0d (a0s (i0f K) (pv 1) (c0b (h1q K) (pv 2) d0h (c0m (pv 0))) rfl)))))) (λ_ _ _ _=>(pv 0))))),(a0v (b0t (p0m (a0a a0b a0d)) (j0m (c0t (a0q rfl) (c0t (a0q rfl) h0j (λ_ _ _=>g0a)) (λ_ _ _=>g0a))) (g0z (a0o (a0h c0i (a0n (a0a a0b a0d)) a0g)) (a0o (a0h (x0i true) a0b (h1e a0b d0n (b0r a0b))))) a0b))⟩) ?_
 rintro ss q ⟨rows,rfl,hR,hq⟩
 have l24:=hR.l24
 have en:(l0p 0 (a0e rows)).length=rows.length:=by rw[h0v,a0k]
 refine⟨rfl,rfl,?_⟩
 refine⟨by rw[en];omega,?_⟩
 refine f0k (λk acc ρ=>k<=rows.length/\acc=a0e ((List.range k).filter λp=>decide (1<wt (rw1 rows p)) && !((rows.take p).contains (rw1 rows p)))/\ρ=[.vl (.tup (a0e rows))]) (λ_ _ _ _ _=>trivial) ?_ ?_ _ ⟨Nat.zero_le _,rfl,rfl⟩
 ·rintro k d acc _ M hk ⟨_,rfl,rfl⟩ hM
  obtain⟨x,ex,rfl⟩:=h0w hk
  rw[List.getElem?_map]at ex
  obtain⟨r,er,rfl⟩:=Option.map_eq_some_iff.mp ex
  have lt:k<rows.length:=(List.getElem?_eq_some_iff.mp er).1
  have er':rw1 rows k=r:=by unfold rw1;rw[List.getD_eq_getElem?_getD,er];rfl
  rw[Nat.zero_add]
  have fs:=x0r (λp=>decide (1<wt (rw1 rows p)) && !((rows.take p).contains (rw1 rows p))) (List.range k) k
  rw[<- List.range_succ]at fs
  refine h1d ?_
  refine⟨rfl,r,rfl,by rw[<- er'];exact(hR.at lt).2,?_⟩
  have e1:decide ((1:Int)<(((d0g r).length:Nat):Int))=decide (1<wt (rw1 rows k)):=by
   rw[er',decide_eq_decide];unfold wt;omega
  show if decide ((1:Int)<(((d0g r).length:Nat):Int))=true then _ else _
  rw[e1]
  cases h1:decide (1<wt (rw1 rows k))with
  | false=>exact hM _ _ ⟨by omega,by rw[fs];simp[h1],rfl⟩
  | true =>
   have ec:cutD (a0e rows) none (some ((k:Nat):Int))=a0e (rows.take k):=by
    rw[o0l];unfold a0e;rw[List.map_take]
   show gIn true (.d (nD r)) (.d (.tup (cutD (a0e rows) none (some ((k:Nat):Int))))) _ _
   rw[ec]
   refine l1w (xs:=rows.take k) rfl ?_
   rw[<- er']at *
   cases h2:(rows.take k).contains (rw1 rows k)with
   | true=>exact hM _ _ ⟨by omega,by rw[fs];simp only[h1,h2];rfl,rfl⟩
   | false=>exact hM _ _ ⟨by omega,by rw[fs];simp only[h1,h2];rfl,rfl⟩
 ·rintro acc _ ⟨_,rfl,rfl⟩
  rw[en]
  exact hq
theorem e1l (dn:DefN K mg "bound" q0t ["wish"])(B:BI mg)(g_classes_of:OkN P w K mg base 2 "classes_of" ["rows"] (spA K n0m))(g_first_places:OkN P w K mg base 3 "first_places" ["rows"] (spA K w0l))(g_hang_number:OkN P w K mg base 3 "hang_number" ["rows", "classes"] (spA K f1m))(g_unlike_number:OkN P w K mg base 3 "unlike_number" ["rows", "places"] (spA K SUnl)):OkN P w K mg base 4 "bound" ["wish"] (spA K d1k):=by
 refine dn.aok2 (k:=3) i0a (λj=>j==0) [.un,.un,.un,.un,.un,.un] d1k rfl (λf cdv A outer s H E hr=>have hu:=e0z hr;⟨_,(a0i (x0a (pv 0) (l0y K (n:=2) rfl (e0t (a0z (i:=1) i0a.nd rfl (by first | exact Or.inl rfl | exact Or.inr rfl)) (e0t (a0z (i:=2) i0a.nd rfl (by first | exact Or.inl rfl | exact Or.inr rfl)) l0x))))
  (a0i (b0b (i:=3) i0a.nd rfl (by first | exact Or.inl rfl | exact Or.inr rfl) (b0k g_classes_of (hr.mono (by decide)) (a0c (pv 2) a0f)))
  (a0i (b0b (i:=4) i0a.nd rfl (by first | exact Or.inl rfl | exact Or.inr rfl) (e0c (a0c (b0k g_hang_number (hr.mono (by decide)) (a0c (pv 2) (a0c (pv 3) a0f))) (a0c (e0c (a0c c0x (a0c (pv 3) a0f))) a0f))))
  (a0i (b0b (i:=5) i0a.nd rfl (by first | exact Or.inl rfl | exact Or.inr rfl) (b0k g_first_places (hr.mono (by decide)) (a0c (pv 2) a0f)))
  (a0i (d0a (f0l (h0o K (pv 5) (λ_=>rfl)))
  (a0p (b0d (pv 4)))
  b0g)
  (a0i (b0b (i:=6) i0a.nd rfl (by first | exact Or.inl rfl | exact Or.inr rfl) (e0c (a0c (b0k g_unlike_number (hr.mono (by decide)) (a0c (pv 2) (a0c (pv 5) a0f))) (a0c (e0c (a0c c0x (a0c (pv 5) a0f))) a0f))))
  (a0p (b0d (e1h (a0s y0p (c0n (b0c K) (pv 6) a0j (λ_ _=>rfl)) (c0n (b0c K) (pv 4) a0j (λ_ _=>rfl)) (a0y _)) (pv 6) (pv 4)))))))))),(a0l (q0o a0b (j0m (c0t (a0q rfl) (c0t (a0q rfl) h0j (λ_ _ _=>g0a)) (λ_ _ _=>g0a))))
  (a0l (a0u (a0n (a0a a0b a0d)) rfl)
  (a0l (a0u (c0l (a0a (a0n (a0a a0b (a0a a0b a0d))) (a0a (c0l (a0a d0o (a0a a0b a0d))) a0d))) rfl)
  (a0l (a0u (a0n (a0a a0b a0d)) rfl)
  (a0l (b0v (c0r (j0l a0b))
  (a0v a0b)
  b0a)
  (a0l (a0u (c0l (a0a (a0n (a0a a0b (a0a a0b a0d))) (a0a (c0l (a0a d0o (a0a a0b a0d))) a0d))) rfl)
  (a0v (k1a (a0o (a0h c0i (a0h b0p a0b a0g) (a0h b0p a0b a0g))) a0b a0b))))))))⟩) ?_
 rintro ss q ⟨m,rows,rfl,hR,hq⟩
 have l24:=hR.l24
 refine⟨rfl,rfl,?_⟩
 refine cutS (λρ=>ρ=[.vl (b0o m rows),nv m,.vl (.tup (a0e rows)),.un,.un,.un,.un]) (λM hM=>hM _ rfl) ?_
 rintro _ rfl
 refine cutS (λρ=>ρ=[.vl (b0o m rows),nv m,.vl (.tup (a0e rows)),.ow ((b0h rows rows.length).map lstN),.un,.un,.un]) (λM hM=>⟨rfl,false,rows,rfl,hR,hM _ rfl⟩) ?_
 rintro _ rfl
 refine cutS (λρ=>∃s3,ρ=[.vl (b0o m rows),nv m,.vl (.tup (a0e rows)),s3,.vl (v0p rows),.un,.un]) (λM hM=>⟨rfl,rows,_,_,.inl rfl,rfl,hR,o0n hR,by simp,by simp,hM _ ⟨_,rfl⟩⟩) ?_
 rintro _ ⟨s3,rfl⟩
 refine cutS (λρ=>ρ=[.vl (b0o m rows),nv m,.vl (.tup (a0e rows)),s3,.vl (v0p rows),.ow (a0e (fpl rows)),.un]) (λM hM=>⟨rfl,rows,rfl,hR,hM _ rfl⟩) ?_
 rintro _ rfl
 by_cases hf:fpl rows=[]
 ·unfold bndD at hq
  rw[if_pos hf]at hq
  refine cutS (λ_=>False) (λM hM=>?_) (λ_ z=>z.elim)
  rw[hf]
  exact hq
 ·unfold bndD at hq
  rw[if_neg hf]at hq
  obtain⟨p,ps,hp⟩:∃p ps,fpl rows=p::ps:=by
   cases h:fpl rows with
   | nil=>exact absurd h hf
   | cons p ps=>exact⟨p,ps,rfl⟩
  refine cutS (λρ=>ρ=[.vl (b0o m rows),nv m,.vl (.tup (a0e rows)),s3,.vl (v0p rows),.ow (a0e (fpl rows)),.un]) (λM hM=>?_) ?_
  ·rw[hp]
   rw[hp]at hM
   exact hM _ rfl
  rintro _ rfl
  refine cutS (λρ=>∃s5,ρ=[.vl (b0o m rows),nv m,.vl (.tup (a0e rows)),s3,.vl (v0p rows),s5,.vl (unlD rows)]) (λM hM=>⟨rfl,rows,_,_,.inl rfl,rfl,hR,hf,by have:=c1d rows;omega,λp hp=>g1k hp,by simp,by simp,hM _ ⟨_,rfl⟩⟩) ?_
  rintro _ ⟨s5,rfl⟩
  refine e0i (i:=0) (ds:=[.int (unlZ rows),.tup [.str "unlike",.lst (a0e (fpl rows))]]) (d:=.int (unlZ rows)) rfl rfl ?_
  refine e0i (i:=0) (ds:=[.int (b1x rows),.tup [.str "hang",.lst ((b0h rows rows.length).map lstN)]]) (d:=.int (b1x rows)) rfl rfl ?_
  by_cases g:b1x rows<=unlZ rows
  ·rw[if_pos g]at hq
   refine ite2 (λ_=>hq) λz=>absurd (decide_eq_true g) z
  ·rw[if_neg g]at hq
   refine ite2 (λz=>absurd (of_decide_eq_true z) g) λ_=>hq
end
theorem l1f {l:List Nat}(nd:l.Nodup){i j:Nat}(hi:i<l.length)(hj:j<l.length)(e:l[i]=l[j]):i=j:=by
 have pw:=List.pairwise_iff_getElem.mp nd
 rcases Nat.lt_trichotomy i j with g | g | g
 ·exact absurd e (pw i j hi hj g)
 ·exact g
 ·exact absurd e.symm (pw j i hj hi g)
theorem v0s {r x:Nat}:x∈d0g r↔r.testBit x=true:=by
 unfold d0g
 rw[List.mem_filter,List.mem_range]
 refine⟨λh=>h.2,λh=>⟨?_,h⟩⟩
 apply Classical.byContradiction
 intro z
 have:r.testBit x=false:=by
  apply Nat.testBit_lt_two_pow
  unfold h0y at z
  split at z
  ·rename_i e;rw[e];exact Nat.two_pow_pos x
  ·exact Nat.lt_of_lt_of_le Nat.lt_log2_self (Nat.pow_le_pow_right (by decide) (by omega))
 rw[this]at h;cases h
def subR (rows C:List Nat):List Nat:=C.map (rw1 rows)
open Classical in
noncomputable def k0a (rows C:List Nat):Bool:=decide ((b0h (subR rows C) (subR rows C).length).length=1)
theorem f1j {rows:List Nat}(h:(b0h rows rows.length).length=1){i j:Nat}(hi:i<rows.length)(hj:j<rows.length):Conn rows i j:=by
 have mi:=(j0h (Nat.le_refl rows.length) hi).mpr ⟨i,hi,.refl hi⟩
 have mj:=(j0h (Nat.le_refl rows.length) hj).mpr ⟨j,hj,.refl hj⟩
 obtain⟨a,ea⟩:=List.length_eq_one_iff.mp h
 rw[ea,List.mem_singleton]at mi mj
 have:j∈comp rows i:=by rw[mi,<- mj,d0v];exact .refl hj
 exact d0v.mp this
theorem f1b {rows:List Nat}(h1:1<=rows.length)(h:∀i j,i<rows.length->j<rows.length->Conn rows i j):(b0h rows rows.length).length=1:=by
 have m0:=(j0h (Nat.le_refl rows.length) (p:=0) h1).mpr ⟨0,h1,.refl h1⟩
 have nd:=x0s (Nat.le_refl rows.length) (rows:=rows)
 have all:∀C∈b0h rows rows.length,C=comp rows 0:=λC hC=>by
  unfold b0h at hC
  obtain⟨p,hp,rfl⟩:=List.mem_map.mp hC
  exact c1m (h p 0 (List.mem_range.mp (List.mem_filter.mp hp).1) h1)
 have:=List.Nodup.length_le_of_subset nd (l₂:=[comp rows 0]) λC hC=>by rw[all C hC];exact List.mem_singleton.mpr rfl
 have h2:0<(b0h rows rows.length).length:=List.length_pos_of_mem m0
 rw[List.length_singleton]at this
 omega
theorem w0s {rows C:List Nat}{i:Nat}(hi:i<C.length):rw1 (subR rows C) i=rw1 rows (C.getD i 0):=by
 unfold subR
 show(C.map (rw1 rows)).getD i 0=_
 rw[List.getD_eq_getElem?_getD,List.getElem?_map,List.getElem?_eq_getElem hi,List.getD_eq_getElem?_getD,List.getElem?_eq_getElem hi]
 rfl
theorem e0v (rows C:List Nat):(subR rows C).length=C.length:=by unfold subR;exact List.length_map _
def plOk (ps:List Nat):Bool:=decide (ps≠[]/\ps.Pairwise (· < ·))
def h0z (rows ps:List Nat):Bool:=plOk ps&&decide ((subR rows ps).Nodup)&&ps.all λp=>decide (1<wt (rw1 rows p))
noncomputable def t0z (rows:List Nat):List (List Nat)->Nat->Bool
 | [],_=>true
 | C::L,tk=>plOk C&&k0a rows C&&decide (tk &&& orN rows C=0)&&t0z rows L (tk ||| orN rows C)
noncomputable def r0w (rows:List Nat)(L:List (List Nat)):Bool:=decide (L≠[])&&t0z rows L 0
theorem r0x {rows:List Nat}:∀ {L:List (List Nat)} {tk:Nat},t0z rows L tk=true->(∀C∈L,plOk C=true/\k0a rows C=true/\tk &&& orN rows C=0)/\L.Pairwise λC C'=>orN rows C &&& orN rows C'=0
 | [],_,_=>⟨(λ_ h=>nomatch h),List.Pairwise.nil⟩
 | C::L,tk,h=>by
  unfold t0z at h
  rw[Bool.and_eq_true,Bool.and_eq_true,Bool.and_eq_true]at h
  obtain⟨⟨⟨h1,h2⟩,h3⟩,h4⟩:=h
  have h3:=of_decide_eq_true h3
  obtain⟨i1,i2⟩:=r0x h4
  have or0:∀ {x y z:Nat},(x ||| y) &&& z=0->x &&& z=0/\y &&& z=0:=λ{x y z} e=>by
   have:=(n0v (rows:=[y]) (r:=z) [0] x).mp (by show(x ||| rw1 [y] 0) &&& z=0;exact e)
   exact⟨this.1,this.2 0 (by simp)⟩
  refine⟨λC' hC'=>?_,List.pairwise_cons.mpr ⟨λC' hC'=>(or0 (i1 C' hC').2.2).2,i2⟩⟩
  rcases List.mem_cons.mp hC' with rfl | hC'
  ·exact⟨h1,h2,h3⟩
  ·obtain⟨j1,j2,j3⟩:=i1 C' hC'
   exact⟨j1,j2,(or0 j3).1⟩
theorem u0k {a b x:Nat}(h:a &&& b=0)(ha:a.testBit x=true)(hb:b.testBit x=true):False:=by
 have:=congrArg (λz=>z.testBit x) h
 simp[Nat.testBit_and,ha,hb]at this
theorem e1j {rows C:List Nat}{x:Nat}:(orN rows C).testBit x=true↔∃i∈C,(rw1 rows i).testBit x=true:=by
 have go:∀(C:List Nat) (a:Nat),(C.foldl (λa i=>a ||| rw1 rows i) a).testBit x=(a.testBit x||C.any λi=>(rw1 rows i).testBit x):=by
  intro C
  induction C with
  | nil=>intro a;simp
  | cons i C ih=>intro a;rw[List.foldl_cons,ih,Nat.testBit_or,List.any_cons,Bool.or_assoc]
 unfold orN
 rw[go,Nat.zero_testBit,Bool.false_or,List.any_eq_true]
theorem c0y.sub {rows C:List Nat}(h:c0y rows)(hC:∀i∈C,i<rows.length)(hn:C≠[])(hl:C.length<=24):c0y (subR rows C):=by
 refine⟨?_,by rw[e0v];exact hl,λr hr=>?_⟩
 ·rw[e0v]
  exact List.length_pos_iff.mpr hn
 ·unfold subR at hr
  obtain⟨i,hi,rfl⟩:=List.mem_map.mp hr
  exact h.at (hC i hi)
theorem e0r (xs:List Nat):(castL xs).map D.int=a0e xs:=by unfold castL a0e;rw[List.map_map];rfl
theorem t0r:∀a b:List Int,eqDs (a.map D.int) (b.map D.int)=decide (a=b)
 | [],[]=>rfl
 | [],_::_=>rfl
 | _::_,[]=>rfl
 | x::a,y::b=>by
  show(eqD (.int x) (.int y)&&eqDs (a.map D.int) (b.map D.int))=_
  rw[t0r a b]
  have:eqD (.int x) (.int y)=decide (x=y):=rfl
  rw[this,Bool.eq_iff_iff]
  simp
open Classical in
noncomputable def plD (rows:List Nat)(d:D):Bool:=decide (∃C,d=lstN C/\(∀i∈C,i<rows.length)/\plOk C=true)
open Classical in
noncomputable def unD (rows:List Nat)(d:D):Bool:=decide (∃ps,d=lstN ps/\(∀i∈ps,i<rows.length)/\h0z rows ps=true)
open Classical in
noncomputable def clD (rows:List Nat)(d:D):Bool:=decide (∃L:List (List Nat),d = .lst (L.map lstN)/\(∀C∈L,∀i∈C,i<rows.length)/\r0w rows L=true)
mutual
def lnD:D->Bool
 | .lst ds=>decide (ds.length<50)&&lnDs ds
 | .tup ds=>decide (ds.length<50)&&lnDs ds
 | _=>true
def lnDs:List D->Bool
 | []=>true
 | d::ds=>lnD d&&lnDs ds
end
theorem r0f:∀ {ds:List D},lnDs ds=true->∀d∈ds,lnD d=true
 | [],_,_,h=>nomatch h
 | e::ds,h,d,hd=>by
  simp only[lnDs,Bool.and_eq_true]at h
  rcases List.mem_cons.mp hd with rfl | q
  ·exact h.1
  ·exact r0f h.2 d q
def s0d:ASp:=λss q=>∃(rows:List Nat) (d:D),ss=[.vl (.tup (a0e rows)),.vl d]/\c0y rows/\lnD d=true/\q (.d (.bl (plD rows d))) [.vl (.tup (a0e rows)),.vl d]
def w0g:ASp:=λss q=>∃(rows:List Nat) (d:D),ss=[.vl (.tup (a0e rows)),.vl d]/\c0y rows/\lnD d=true/\q (.d (.bl (unD rows d))) [.vl (.tup (a0e rows)),.vl d]
def d1j:ASp:=λss q=>∃rows C:List Nat,ss=[.vl (.tup (a0e rows)),.vl (lstN C)]/\c0y rows/\(∀i∈C,i<rows.length)/\C≠[]/\C.length<=24/\q (.d (.bl (k0a rows C))) [.vl (.tup (a0e rows)),.vl (lstN C)]
def w0m:ASp:=λss q=>∃(rows:List Nat) (d:D),ss=[.vl (.tup (a0e rows)),.vl d]/\c0y rows/\lnD d=true/\q (.d (.bl (clD rows d))) [.vl (.tup (a0e rows)),.vl d]
theorem h0e {n:Nat}{C:List Nat}(h:plOk C=true)(hi:∀i∈C,i<n):C.length<=n:=h0h (of_decide_eq_true h).2 hi
theorem x0t {ns:List Int}:cntS ns=ns.length↔ns.Nodup:=by
 refine⟨λh=>?_,z0a⟩
 have key:∀i,i<=ns.length->(PyProof.Rows.firstMet (λi=>ns.getD i 0) i).length=i->PyProof.Rows.firstMet (λi=>ns.getD i 0) i=ns.take i/\(ns.take i).Nodup:=by
  intro i
  induction i with
  | zero=>intro _ _;rw[PyProof.Rows.firstMet_zero];exact⟨rfl,by simp⟩
  | succ i ih =>
   intro hi hl
   have lt:i<ns.length:=by omega
   have e:ns.getD i 0=ns[i]:=by rw[List.getD_eq_getElem?_getD,List.getElem?_eq_getElem lt];rfl
   have hle:=PyProof.Rows.firstMet_length_le (λi=>ns.getD i 0) i
   rw[PyProof.Rows.firstMet_succ]at hl ⊢
   unfold PyProof.Rows.step_dedup at hl ⊢
   rw[e]at hl ⊢
   by_cases a:(PyProof.Rows.firstMet (λi=>ns.getD i 0) i).any (· == ns[i])=true
   ·rw[if_pos a]at hl;omega
   ·rw[if_neg a]at hl ⊢
    rw[List.length_append,List.length_singleton]at hl
    obtain⟨h1,h2⟩:=ih (by omega) (by omega)
    rw[h1]at a
    rw[h1,List.take_add_one,List.getElem?_eq_getElem lt]
    refine⟨rfl,List.nodup_append.mpr ⟨h2,by simp,λx hx y hy e=>?_⟩⟩
    have:y=ns[i]:=by simpa using hy
    subst this
    subst e
    exact a (List.any_eq_true.mpr ⟨_,hx,by simp⟩)
 have:=(key ns.length (Nat.le_refl _) h).2
 rwa [List.take_length]at this
theorem l0t {n:Nat}:∀ {ds:List D},(∀d∈ds,d0w 0 ((n:Int) - 1) d=true)->∃C:List Nat,ds=a0e C/\∀i∈C,i<n
 | [],_=>⟨[],rfl,(λ_ h=>nomatch h)⟩
 | d::ds,h=>by
  obtain⟨C,rfl,hC⟩:=l0t (ds:=ds) λe he=>h e (List.mem_cons_of_mem _ he)
  have h1:=h d (List.mem_cons_self ..)
  obtain⟨i,rfl,a,b⟩:=y0b h1
  obtain⟨k,rfl⟩:=Int.eq_ofNat_of_zero_le a
  exact⟨k::C,rfl,λj hj=>by
   rcases List.mem_cons.mp hj with rfl | q
   ·omega
   ·exact hC j q⟩
theorem d0t {a b:List Nat}(h:lstN a=lstN b):a=b:=by
 have:=l0o a b
 rw[h,e0j]at this
 exact of_decide_eq_true this.symm
theorem f0o {rows:List Nat}{d:D}:plD rows d=true↔∃C,d=lstN C/\(∀i∈C,i<rows.length)/\plOk C=true:=by classical unfold plD;exact decide_eq_true_iff
theorem q0m {rows:List Nat}{d:D}:unD rows d=true↔∃ps,d=lstN ps/\(∀i∈ps,i<rows.length)/\h0z rows ps=true:=by classical unfold unD;exact decide_eq_true_iff
theorem k0p {rows:List Nat}{d:D}:clD rows d=true↔∃L:List (List Nat),d = .lst (L.map lstN)/\(∀C∈L,∀i∈C,i<rows.length)/\r0w rows L=true:=by classical unfold clD;exact decide_eq_true_iff
theorem b_no {b:Bool}{p:Prop}(h:b=true↔p)(n:¬p):b=false:=by
 cases b with
 | false=>rfl
 | true=>exact absurd (h.mp rfl) n
theorem n0f {rows C:List Nat}(h:∀i∈C,i<rows.length):plD rows (lstN C)=plOk C:=by
 rw[Bool.eq_iff_iff,f0o]
 constructor
 ·rintro⟨C',e,_,o⟩
  rw[d0t e];exact o
 ·intro o
  exact⟨C,rfl,h,o⟩
theorem d1s {rows C:List Nat}(h:∀i∈C,i<rows.length):unD rows (lstN C)=h0z rows C:=by
 rw[Bool.eq_iff_iff,q0m]
 constructor
 ·rintro⟨C',e,_,o⟩
  rw[d0t e];exact o
 ·intro o
  exact⟨C,rfl,h,o⟩
open Classical in
noncomputable def goD (rows:List Nat)(ds:List D)(tk:Nat):Bool:=decide (∃L:List (List Nat),ds=L.map lstN/\(∀C∈L,∀i∈C,i<rows.length)/\t0z rows L tk=true)
theorem l0z {rows:List Nat}{ds:List D}{tk:Nat}:goD rows ds tk=true↔∃L:List (List Nat),ds=L.map lstN/\(∀C∈L,∀i∈C,i<rows.length)/\t0z rows L tk=true:=by classical unfold goD;exact decide_eq_true_iff
theorem n0i {rows:List Nat}{d:D}{ds:List D}{tk:Nat}:goD rows (d::ds) tk=true↔∃C,d=lstN C/\(∀i∈C,i<rows.length)/\plOk C=true/\k0a rows C=true/\tk &&& orN rows C=0/\goD rows ds (tk ||| orN rows C)=true:=by
 rw[l0z]
 constructor
 ·rintro⟨L,e,h1,h2⟩
  cases L with
  | nil=>cases e
  | cons C L =>
   rw[List.map_cons,List.cons.injEq]at e
   unfold t0z at h2
   rw[Bool.and_eq_true,Bool.and_eq_true,Bool.and_eq_true]at h2
   exact⟨C,e.1,h1 C (List.mem_cons_self ..),h2.1.1.1,h2.1.1.2,of_decide_eq_true h2.1.2,l0z.mpr ⟨L,e.2,λC' h=>h1 C' (List.mem_cons_of_mem _ h),h2.2⟩⟩
 ·rintro⟨C,rfl,h1,h2,h3,h4,h5⟩
  obtain⟨L,rfl,h6,h7⟩:=l0z.mp h5
  refine⟨C::L,rfl,λC' h=>?_,?_⟩
  ·rcases List.mem_cons.mp h with rfl | q
   ·exact h1
   ·exact h6 C' q
  ·unfold t0z
   rw[h2,h3,decide_eq_true h4,h7];rfl
theorem c1r {rows:List Nat}{ds:List D}(h:ds≠[]):clD rows (.lst ds)=goD rows ds 0:=by
 rw[Bool.eq_iff_iff,k0p,l0z]
 constructor
 ·rintro⟨L,e,h1,h2⟩
  injection e with e
  unfold r0w at h2
  rw[Bool.and_eq_true]at h2
  exact⟨L,e,h1,h2.2⟩
 ·rintro⟨L,e,h1,h2⟩
  refine⟨L,by rw[e],h1,?_⟩
  unfold r0w
  rw[h2,Bool.and_true]
  exact decide_eq_true λz=>h (by rw[e,z];rfl)
def n0b (rows:List Nat)(d:D)(n:Int):Prop:=(∃ps,d = .tup [.str "unlike",lstN ps]/\(∀i∈ps,i<rows.length)/\h0z rows ps=true/\n=unlL rows ps) ∨ ∃L:List (List Nat),d = .tup [.str "hang",.lst (L.map lstN)]/\(∀C∈L,∀i∈C,i<rows.length)/\r0w rows L=true/\n=l0m rows L
open Classical in
noncomputable def shB (rows:List Nat)(z:Int)(d:D):Bool:=decide (∃n,n0b rows d n/\z<=n)
theorem i0w {rows:List Nat}{z:Int}{d:D}:shB rows z d=true↔∃n,n0b rows d n/\z<=n:=by classical unfold shB;exact decide_eq_true_iff
def d1f:ASp:=λss q=>∃(m:Nat) (rows:List Nat) (z:Int) (d:D),ss=[.vl (b0o m rows),.vl (.int z),.vl d]/\c0y rows/\lnD d=true/\d.depth<=50/\q (.d (.bl (shB rows z d))) [.vl (b0o m rows),.vl (.int z),.vl d]
theorem f1e {rows:List Nat}(hR:c0y rows){L:List (List Nat)}(h1:∀C∈L,∀i∈C,i<rows.length)(h2:r0w rows L=true)(hl:L.length<=24∨L.length<=50):∀C∈L,C≠[]/\C.length<=24/\∀i∈C,i<rows.length:=λC hC=>by
 unfold r0w at h2
 rw[Bool.and_eq_true]at h2
 have:=(r0x h2.2).1 C hC
 have l:=h0e this.1 (h1 C hC)
 have:=hR.l24
 exact⟨(of_decide_eq_true (r0x h2.2 |>.1 C hC).1).1,by omega,h1 C hC⟩
theorem c1g {d:D}{x:Str}:eqD d (.str x)=true->d = .str x:=λh=>by
 cases d with
 | str y=>unfold eqD at h;rw[eq_of_beq h]
 | _=>cases h
section
variable {P:Program}{w:World}{K:PySem.W.Frag}{mg:Str->Option Value}{base:Heap}
theorem v0d (dn:DefN K mg "is_whole" j0r ["thing", "least", "most"])(B:BI mg):OkN P w K mg base 1 "is_whole" ["thing", "least", "most"] (spA K s0h):=by
 refine dn.aok2 (k:=0) u0v (λj=>j==0||j==1||j==2) [] s0h rfl (λf cdv A outer s H E hr=>have hu:=e0z hr;⟨_,(a0p (b0d (k0b (a0r (d0k K) rfl B.isinstance_ b0u (a0c (pv 0) (a0c (m0w rfl B.int_ g1s) a0f))) (k0b (g1d (a0r (d0k K) rfl B.isinstance_ b0u (a0c (pv 0) (a0c (m0w rfl B.bool_ w0e) a0f)))) (n0t (x0c a1y a1y (pv 1) (pv 0) (pv 2))))))),(a0v (f0q (b0f e0u (a0a a0b (a0a i0p a0d))) (f0q (w0q (b0f e0u (a0a a0b (a0a i0p a0d)))) (s0k c0i c0i a0b a0b a0b))))⟩) ?_
 rintro ss q ⟨d,lo,hi,rfl,hq⟩
 refine⟨rfl,rfl,?_⟩
 cases d with
 | non=>exact a0t rfl m0p hq
 | str _=>exact a0t rfl m0o hq
 | tup _=>exact a0t rfl k0f hq
 | lst _=>exact a0t rfl l0j hq
 | bl b=>exact a0t rfl l0l (a0t rfl h0i hq)
 | int i =>
  refine a0t rfl m0q (a0t rfl l0k ?_)
  refine iteT (ite2 (λh=>?_) λh=>?_)
  ·rw[show d0w lo hi (.int i)=decide (i<=hi)by simp[d0w,of_decide_eq_true h]]at hq
   exact hq
  ·rw[show d0w lo hi (.int i)=false by simp[d0w];intro h';exact absurd (decide_eq_true h') h]at hq
   exact hq
theorem v0e (dn:DefN K mg "is_tuple" j0s ["thing", "least", "most"])(B:BI mg):OkN P w K mg base 1 "is_tuple" ["thing", "least", "most"] (spA K s0i):=by
 refine dn.aok2 (k:=0) u0w (λj=>j==0||j==1||j==2) [] s0i rfl (λf cdv A outer s H E hr=>have hu:=e0z hr;⟨_,(a0p (b0d (k0b (a0r (d0k K) rfl B.isinstance_ b0u (a0c (pv 0) (a0c (m0w rfl B.tuple_ j0x) a0f))) (n0t (x0c a1y a1y (pv 1) (a0r (b0e K) rfl B.len_ c0q (a0c (pv 0) a0f)) (pv 2)))))),(a0v (f0q (b0f e0u (a0a a0b (a0a i0p a0d))) (s0k c0i c0i a0b (b0f b0q (a0a a0b a0d)) a0b)))⟩) ?_
 rintro ss q ⟨d,lo,hi,rfl,hq⟩
 refine⟨rfl,rfl,?_⟩
 cases d with
 | non=>exact a0t rfl k0h hq
 | str _=>exact a0t rfl k0g hq
 | int _=>exact a0t rfl k0i hq
 | lst _=>exact a0t rfl j0e hq
 | bl b=>exact a0t rfl j0f hq
 | tup ds =>
  refine a0t rfl i0t ?_
  refine iteT (ite2 (λh=>?_) λh=>?_)
  ·rw[show tupB lo hi (.tup ds)=decide ((ds.length:Int)<=hi)by simp[tupB,of_decide_eq_true h]]at hq
   exact hq
  ·rw[show tupB lo hi (.tup ds)=false by simp[tupB];intro h';exact absurd (decide_eq_true h') h]at hq
   exact hq
theorem r0d (dn:DefN K mg "are_places" f0v ["rows", "thing"])(B:BI mg)(g_is_whole:OkN P w K mg base 1 "is_whole" ["thing", "least", "most"] (spA K s0h)):OkN P w K mg base 2 "are_places" ["rows", "thing"] (spA K s0d):=by
 refine dn.aok2 (k:=1) q0s (λj=>j==0||j==1) [] s0d rfl (λf cdv A outer s H E hr=>have hu:=e0z hr;⟨_,(a0i (d0a (PW.pt (i0x (f0l (g0d (a0r (d0k K) rfl B.isinstance_ b0u (a0c (pv 1) (a0c (m0w rfl B.list_ o0u) a0f))))) (h0n (f0l (h0o K (pv 1) (λ_=>rfl))))))
  (a0p (b0d j0z))
  b0g)
  (a0i (d0a (f0l (g0d (a0r (o0t K rfl) rfl B.all_ c1v (a0c (d0q ["place"] [0] rfl (Blk.of (a0m f0v) l0c) (b0z K (pv 1)) (λ_ _ _ _ nd=>(a0z (i:=0) nd rfl (by first | exact Or.inl rfl | exact Or.inr rfl))) (λ_ _ _ _=>f0i) (λ_ _ _ _=>(b0k g_is_whole (hr.mono (by decide)) (a0c (pv 0) (a0c a0j (a0c (a0x g0w (a0r (b0e K) rfl B.len_ c0q (a0c (pv 1) a0f)) a0j) a0f)))))) a0f))))
  (a0p (b0d j0z))
  b0g)
  (a0p (b0d (f0z (c0e K hr.units) (pv 1) (y0n K rfl rfl B.sorted_ rfl B.set_ (a0c (pv 1) a0f)) (a0y _)))))),(a0l (b0v (d0x (c0r (f0s (b0f e0u (a0a a0b (a0a i0p a0d))))) (c0r (j0l a0b)))
  (a0v g0c)
  b0a)
  (a0l (b0v (c0r (f0s (b0f r0y (a0a (b0t (b0n a0b) (a0q rfl) d0r (a0n (a0a a0b (a0a a0g (a0a (a0h a0w (b0f b0q (a0a a0b a0d)) a0g) a0d))))) a0d))))
  (a0v g0c)
  b0a)
  (a0v (a0h c0f a0b (u0p (a0a a0b a0d))))))⟩) ?_
 rintro ss q ⟨rows,d,rfl,hR,hln,hq⟩
 have l24:=hR.l24
 have l1:=hR.l1
 have no:(∀C,d≠lstN C)->q (.d (.bl false)) [.vl (.tup (a0e rows)),.vl d]:=λh=>by
  have:plD rows d=false:=b_no f0o (by rintro⟨C,e,_⟩;exact h C e)
  rw[this]at hq;exact hq
 refine⟨rfl,rfl,?_⟩
 cases d with
 | non=>exact a0t rfl g0m (no (λC h=>by cases h))
 | str _=>exact a0t rfl g0l (no (λC h=>by cases h))
 | int _=>exact a0t rfl g0n (no (λC h=>by cases h))
 | bl _=>exact a0t rfl f0r (no (λC h=>by cases h))
 | tup _=>exact a0t rfl f0j (no (λC h=>by cases h))
 | lst ds =>
  cases hd0:ds with
  | nil =>
   subst hd0
   have:plD rows (.lst [])=false:=n0f (C:=[]) (λ_ h=>nomatch h)
   rw[this]at hq
   exact a0t rfl d0m hq
  | cons d0 ds0 =>
   rw[<- hd0]
   have hln1:ds.length<50:=by simp only[lnD,Bool.and_eq_true,decide_eq_true_eq]at hln;exact hln.1
   refine cutS (λρ=>ρ=[.vl (.tup (a0e rows)),.vl (.lst ds)]) (λM hM=>by
    refine a0t rfl d0m ?_
    rw[hd0]at hM ⊢
    exact hM _ rfl) ?_
   rintro _ rfl
   refine cutS (λρ=>(∃C,ds=a0e C/\∀i∈C,i<rows.length)/\ρ=[.vl (.tup (a0e rows)),.vl (.lst ds)]) (λM hM=>⟨by omega,?_⟩) ?_
   ·have em:ds=ds.map id:=by simp
    rw[em]
    refine d0e id (λd=>.bl (d0w 0 ((rows.length:Int) - 1) d)) trivial (λd acc M2 hd hM2=>?_) ?_
    ·refine⟨rfl,d,0,_,rfl,?_⟩
     rw[a0k]
     exact hM2
    ·refine v0v (bs:=ds.map λd=>d0w 0 ((rows.length:Int) - 1) d) (by rw[List.map_map];rfl) ?_
     cases ha:(ds.map λd=>d0w 0 ((rows.length:Int) - 1) d).all id with
     | true =>
      obtain⟨C,e,hC⟩:=l0t (n:=rows.length) (ds:=ds) λd hd=>by
       rw[List.all_map,List.all_eq_true]at ha
       exact ha d hd
      rw[<- em]
      exact hM _ ⟨⟨C,e,hC⟩,rfl⟩
     | false =>
      rw[<- em]
      have:plD rows (.lst ds)=false:=by
       refine b_no f0o ?_
       rintro⟨C,e,hC,_⟩
       unfold lstN at e
       injection e with e
       subst e
       rw[List.all_map,List.all_eq_false]at ha
       obtain⟨d,hd,hw⟩:=ha
       obtain⟨i,hi,rfl⟩:=List.mem_map.mp hd
       have:=hC i hi
       exact hw (by show d0w 0 ((rows.length:Int) - 1) (nD i)=true;unfold nD d0w;simp;omega)
      rw[this]at hq
      exact hq
   rintro _ ⟨⟨C,rfl,hC⟩,rfl⟩
   rw[show D.lst (a0e C)=lstN C from rfl,n0f hC]at hq
   have cl:C.length<50:=by rw[a0k]at hln1;exact hln1
   have cn:C≠[]:=λz=>by subst z;cases hd0
   refine v0u (ns:=castL C) (by rw[e0r];rfl) (by unfold castL;rw[List.length_map];omega) λns' up hm=>?_
   have e:eqD (lstN C) (.lst (ns'.map D.int))=plOk C:=by
    unfold lstN
    show eqDs (a0e C) (ns'.map D.int)=_
    rw[<- e0r,t0r]
    unfold plOk
    rw[decide_eq_decide]
    have cu:castL C=ns'->C.Pairwise (· < ·):=λe=>by
     rw[<- e]at up
     unfold castL at up
     exact(List.pairwise_map.mp up).imp λh=>by omega
    refine⟨λe=>⟨cn,cu e⟩,λh=>s0o ?_ up λx=>(hm x).symm⟩
    unfold castL
    exact List.pairwise_map.mpr (h.2.imp λh=>by omega)
   exact b0m rfl rfl (d0d _) e hq
theorem r0c (dn:DefN K mg "are_unlike" f0c ["rows", "thing"])(B:BI mg)(g_are_places:OkN P w K mg base 2 "are_places" ["rows", "thing"] (spA K s0d))(g_weight:OkN P w K mg base 2 "weight" ["row"] (spA K m0e)):OkN P w K mg base 3 "are_unlike" ["rows", "thing"] (spA K w0g):=by
 refine dn.aok2 (k:=2) k0v (λj=>j==0||j==1) [.un] w0g rfl (λf cdv A outer s H E hr=>have hu:=e0z hr;⟨_,(a0i (d0a (f0l (g0d (b0k g_are_places (hr.mono (by decide)) (a0c (pv 0) (a0c (pv 1) a0f)))))
  (a0p (b0d j0z))
  b0g)
  (a0i (k0k (i:=2) ["place"] [0] k0v.nd rfl (by first | exact Or.inl rfl | exact Or.inr rfl) rfl (Blk.of (a0m f0c) i0h) (b0z K (pv 1)) (λ_ _ _ _ nd=>(a0z (i:=0) nd rfl (by first | exact Or.inl rfl | exact Or.inr rfl))) (λ_ _ _ _=>f0i) (λ_ _ _ _=>(c0n (b0c K) (pv 1) (pv 0) (λ_ _=>rfl))))
  (a0p (b0d (k0b (f0z (c0e K hr.units) (s0r K rfl rfl B.len_ rfl B.set_ (a0c (pv 2) a0f)) (a0r (b0e K) rfl B.len_ c0q (a0c (pv 2) a0f)) (a0y _)) (n0t (a0r (o0t K rfl) rfl B.all_ c1v (a0c (d0q ["row"] [] rfl (Blk.of (a0m f0c) i0h) (b0z K (pv 2)) (λ_ _ _ _ nd=>(a0z (i:=0) nd rfl (by first | exact Or.inl rfl | exact Or.inr rfl))) (λ_ _ _ _=>f0i) (λ_ _ _ _=>(f0z q0w (b0k g_weight (hr.mono (by decide)) (a0c (pv 0) a0f)) a0j (a0y _)))) a0f)))))))),(a0l (b0v (c0r (f0s (a0n (a0a a0b (a0a a0b a0d)))))
  (a0v g0c)
  b0a)
  (a0l (h0a (b0t (b0n a0b) (a0q rfl) d0r (a0h b0p a0b a0b)) rfl)
  (a0v (f0q (a0h c0f (p0l (a0a a0b a0d)) (b0f b0q (a0a a0b a0d))) (b0f r0y (a0a (b0t (b0n a0b) (a0q rfl) d0r (a0h c0i (a0n (a0a a0b a0d)) a0g)) a0d))))))⟩) ?_
 rintro ss q ⟨rows,d,rfl,hR,hln,hq⟩
 have l24:=hR.l24
 refine⟨rfl,rfl,?_⟩
 refine cutS (λρ=>(∃ps,d=lstN ps/\(∀i∈ps,i<rows.length)/\plOk ps=true)/\ρ=[.vl (.tup (a0e rows)),.vl d,.un]) (λM hM=>⟨rfl,rows,d,rfl,hR,hln,?_⟩) ?_
 ·cases h:plD rows d with
  | true=>exact hM _ ⟨f0o.mp h,rfl⟩
  | false =>
   have:unD rows d=false:=b_no q0m (by
    rintro⟨ps,e,h1,h2⟩
    unfold h0z at h2
    rw[Bool.and_eq_true,Bool.and_eq_true]at h2
    have:=f0o.mpr ⟨ps,e,h1,h2.1.1⟩
    rw[h]at this;cases this)
   rw[this]at hq
   exact hq
 rintro _ ⟨⟨ps,rfl,hps,hpl⟩,rfl⟩
 rw[d1s hps]at hq
 have hl:=h0e hpl hps
 refine cutS (λρ=>ρ=[.vl (.tup (a0e rows)),.vl (lstN ps),.ow (a0e (subR rows ps))]) (λM hM=>⟨by rw[a0k];omega,?_⟩) ?_
 ·have e:a0e (subR rows ps)=ps.map λp=>nD (rw1 rows p):=by unfold a0e subR;rw[List.map_map];rfl
  refine d0e nD (λp=>nD (rw1 rows p)) trivial (λp acc M2 hp hM2=>?_) (by rw[<- e];exact hM _ rfl)
  exact e0i (i:=p) (ds:=a0e rows) (d:=nD (rw1 rows p)) rfl (by rw[show rw1 rows p=rows.getD p 0 from rfl];exact c0c (hps p hp)) hM2
 rintro _ rfl
 refine q0a (ns:=castL (subR rows ps)) (by rw[e0r];rfl) (by unfold castL;rw[List.length_map,e0v];omega) ?_
 have ci:(castL (subR rows ps)).Nodup↔(subR rows ps).Nodup:=by
  unfold castL
  constructor
  ·intro h
   exact(List.pairwise_map.mp h).imp λh e=>h (by rw[e])
  ·intro h
   exact List.pairwise_map.mpr (h.imp λh e=>h (Int.ofNat_inj.mp e))
 have len:(castL (subR rows ps)).length=(a0e (subR rows ps)).length:=by unfold castL a0e;rw[List.length_map,List.length_map]
 refine b0m (b:=decide (subR rows ps).Nodup) rfl rfl (by simp[D.depth]) ?_ ?_
 ·show decide (((cntS (castL (subR rows ps)):Nat):Int)=(((a0e (subR rows ps)).length:Nat):Int))=_
  rw[decide_eq_decide,<- len,<- ci,<- x0t]
  omega
 by_cases hnd:(subR rows ps).Nodup
 ·rw[decide_eq_true hnd]
  refine⟨rfl,by rw[a0k,e0v];omega,?_⟩
  refine d0e nD (λr=>.bl (decide (1<wt r))) rfl (λr acc M2 hr hM2=>?_) ?_
  ·have hr':r<4096:=by
    unfold subR at hr
    obtain⟨i,hi,rfl⟩:=List.mem_map.mp hr
    exact(hR.at (hps i hi)).2
   refine⟨rfl,r,rfl,hr',?_⟩
   have e1:decide ((1:Int)<(((d0g r).length:Nat):Int))=decide (1<wt r):=by
    rw[decide_eq_decide];unfold wt;omega
   show M2 (acc++[.bl (decide ((1:Int)<(((d0g r).length:Nat):Int)))]) _
   rw[e1]
   exact hM2
  ·refine v0v (bs:=(subR rows ps).map λr=>decide (1<wt r)) (by rw[List.map_map];rfl) ?_
   have e:h0z rows ps=(((subR rows ps).map λr=>decide (1<wt r)).all id):=by
    unfold h0z
    rw[hpl,decide_eq_true hnd,Bool.true_and,Bool.true_and]
    unfold subR
    rw[List.map_map,List.all_map];rfl
   rw[e]at hq
   exact hq
 ·rw[decide_eq_false hnd]
  have e:h0z rows ps=false:=by
   unfold h0z
   rw[decide_eq_false hnd,Bool.and_false,Bool.false_and]
  rw[e]at hq
  exact hq
theorem m0y (dn:DefN K mg "hang_together" e0a ["rows", "places"])(B:BI mg)(g_classes_of:OkN P w K mg base 2 "classes_of" ["rows"] (spA K n0m)):OkN P w K mg base 3 "hang_together" ["rows", "places"] (spA K d1j):=by
 refine dn.aok2 (k:=2) m0v (λj=>j==0||j==1) [] d1j rfl (λf cdv A outer s H E hr=>have hu:=e0z hr;⟨_,(a0p (b0d (f0z (c0e K hr.units) (a0r (b0e K) rfl B.len_ c0q (a0c (b0k g_classes_of (hr.mono (by decide)) (a0c (d0q ["place"] [0] rfl (Blk.of (a0m e0a) i0s) (b0z K (pv 1)) (λ_ _ _ _ nd=>(a0z (i:=0) nd rfl (by first | exact Or.inl rfl | exact Or.inr rfl))) (λ_ _ _ _=>f0i) (λ_ _ _ _=>(c0n (b0c K) (pv 1) (pv 0) (λ_ _=>rfl)))) a0f)) a0f)) a0j (a0y _)))),(a0v (a0h c0f (b0f b0q (a0a (a0n (a0a (b0t (b0n a0b) (a0q rfl) d0r (a0h b0p a0b a0b)) a0d)) a0d)) a0g))⟩) ?_
 rintro ss q ⟨rows,C,rfl,hR,hC,hn,hl,hq⟩
 have l24:=hR.l24
 refine⟨rfl,rfl,?_⟩
 have e:a0e (subR rows C)=C.map λp=>nD (rw1 rows p):=by unfold a0e subR;rw[List.map_map];rfl
 refine⟨by rw[a0k];omega,?_⟩
 refine d0e nD (λp=>nD (rw1 rows p)) trivial (λp acc M2 hp hM2=>?_) ?_
 ·exact e0i (i:=p) (ds:=a0e rows) (d:=nD (rw1 rows p)) rfl (by rw[show rw1 rows p=rows.getD p 0 from rfl];exact c0c (hC p hp)) hM2
 rw[<- e]
 refine⟨rfl,true,subR rows C,rfl,hR.sub hC hn hl,?_⟩
 refine b0m (b:=k0a rows C) rfl rfl (by simp[D.depth]) ?_ hq
 show decide ((((List.map lstN (b0h (subR rows C) (subR rows C).length)).length:Nat):Int)=1)=_
 unfold k0a
 rw[List.length_map,decide_eq_decide]
 omega
theorem p0c (dn:DefN K mg "are_classes" g0j ["rows", "thing"])(B:BI mg)(g_givens_in:OkN P w K mg base 1 "givens_in" ["rows", "places"] (spA K u0m))(g_are_places:OkN P w K mg base 2 "are_places" ["rows", "thing"] (spA K s0d))(g_hang_together:OkN P w K mg base 3 "hang_together" ["rows", "places"] (spA K d1j)):OkN P w K mg base 4 "are_classes" ["rows", "thing"] (spA K w0m):=by
 refine dn.aok2 (k:=3) e0o (λj=>j==0||j==1) [.un,.un,.un] w0m rfl (λf cdv A outer s H E hr=>have hu:=e0z hr;⟨_,(a0i (d0a (PW.pt (i0x (f0l (g0d (a0r (d0k K) rfl B.isinstance_ b0u (a0c (pv 1) (a0c (m0w rfl B.list_ o0u) a0f))))) (h0n (f0l (h0o K (pv 1) (λ_=>rfl))))))
  (a0p (b0d j0z))
  b0g)
  (a0i (b0b (i:=2) e0o.nd rfl (by first | exact Or.inl rfl | exact Or.inr rfl) a0j)
  (a0i (h0p PassesOwn.never rfl (b0z K (pv 1)) (a0z (i:=3) e0o.nd rfl (by first | exact Or.inl rfl | exact Or.inr rfl))
  (a0i (d0a (PW.pt (i0x (f0l (g0d (b0k g_are_places (hr.mono (by decide)) (a0c (pv 0) (a0c (pv 3) a0f))))) (h0n (f0l (g0d (b0k g_hang_together (hr.mono (by decide)) (a0c (pv 0) (a0c (pv 3) a0f))))))))
  (a0p (b0d j0z))
  b0g)
  (a0i (b0b (i:=4) e0o.nd rfl (by first | exact Or.inl rfl | exact Or.inr rfl) (b0k g_givens_in (hr.mono (by decide)) (a0c (pv 0) (a0c (pv 3) a0f))))
  (a0i (d0a (h0o K (a0x m0j (pv 2) (pv 4)) (λ_=>rfl))
  (a0p (b0d j0z))
  b0g)
  (a0p (g1c (i:=2) e0o.nd rfl (by first | exact Or.inl rfl | exact Or.inr rfl) (pv 4) g1h))))))
  (a0p (b0d j0z))))),(a0l (b0v (d0x (c0r (f0s (b0f e0u (a0a a0b (a0a i0p a0d))))) (c0r (j0l a0b)))
  (a0v g0c)
  b0a)
  (a0l (a0u a0g rfl)
  (a0l (f0m (pin:=(λj=>j==1)) (b0n a0b) (a0q rfl)
  (a0l (b0v (d0x (c0r (f0s (a0n (a0a a0b (a0a a0b a0d))))) (c0r (f0s (a0n (a0a a0b (a0a a0b a0d))))))
  (a0v g0c)
  b0a)
  (a0l (a0u (a0n (a0a a0b (a0a a0b a0d))) rfl)
  (a0l (b0v (j0l (a0h a0w a0b a0b))
  (a0v g0c)
  b0a)
  (a1d a0b rfl)))))
  (a0v g0c))))⟩) ?_
 rintro ss q ⟨rows,d,rfl,hR,hln,hq⟩
 have l24:=hR.l24
 have no:(∀ds,d ≠ .lst ds)->q (.d (.bl false)) [.vl (.tup (a0e rows)),.vl d]:=λh=>by
  have:clD rows d=false:=b_no k0p (by rintro⟨C,e,_⟩;exact h _ e)
  rw[this]at hq;exact hq
 refine⟨rfl,rfl,?_⟩
 cases d with
 | non=>exact a0t rfl g0m (no (λC h=>by cases h))
 | str _=>exact a0t rfl g0l (no (λC h=>by cases h))
 | int _=>exact a0t rfl g0n (no (λC h=>by cases h))
 | bl _=>exact a0t rfl f0r (no (λC h=>by cases h))
 | tup _=>exact a0t rfl f0j (no (λC h=>by cases h))
 | lst ds =>
  cases hd0:ds with
  | nil =>
   subst hd0
   have:clD rows (.lst [])=false:=b_no k0p (by
    rintro⟨L,e,_,h⟩
    injection e with e
    rw[List.map_eq_nil_iff.mp e.symm]at h
    cases h)
   rw[this]at hq
   exact a0t rfl d0m hq
  | cons d0 ds0 =>
   rw[<- hd0]
   have hne:ds≠[]:=by rw[hd0];simp
   simp only[lnD,Bool.and_eq_true,decide_eq_true_eq]at hln
   have hall:=r0f hln.2
   rw[c1r hne]at hq
   refine cutS (λρ=>ρ=[.vl (.tup (a0e rows)),.vl (.lst ds),.un,.un,.un]) (λM hM=>by
    refine a0t rfl d0m ?_
    rw[hd0]at hM ⊢
    exact hM _ rfl) ?_
   rintro _ rfl
   refine cutS (λρ=>ρ=[.vl (.tup (a0e rows)),.vl (.lst ds),nv 0,.un,.un]) (λM hM=>hM _ rfl) ?_
   rintro _ rfl
   refine cutS (λρ=>goD rows ds 0=true/\∃s2 s3 s4,ρ=[.vl (.tup (a0e rows)),.vl (.lst ds),s2,s3,s4]) (λM hM=>j0v (λk ρ=>∃tk s3 s4,goD rows ds 0=goD rows (ds.drop k) tk/\ρ=[.vl (.tup (a0e rows)),.vl (.lst ds),nv tk,s3,s4]) (λ_ _ _ _=>trivial) ?_ ?_ _ ⟨0,.un,.un,rfl,rfl⟩) ?_
   ·rintro k d _ M2 hk ⟨tk,s3,s4,hgo,rfl⟩ hM2
    have hd:ds.drop k=d::ds.drop (k+1):=by
     have lt:=(List.getElem?_eq_some_iff.mp hk).1
     rw[List.drop_eq_getElem_cons lt]
     congr 1
     rw[List.getElem?_eq_getElem lt]at hk
     exact Option.some.inj hk
    rw[hd]at hgo
    have hld:=hall d (List.mem_of_getElem? hk)
    have out:(¬ ∃C,d=lstN C/\(∀i∈C,i<rows.length)/\plOk C=true/\k0a rows C=true/\tk &&& orN rows C=0/\goD rows (ds.drop (k+1)) (tk ||| orN rows C)=true)->goD rows ds 0=false:=λh=>by rw[hgo];exact b_no n0i h
    refine cutS (λρ=>∃C,d=lstN C/\(∀i∈C,i<rows.length)/\plOk C=true/\k0a rows C=true/\ρ=[.vl (.tup (a0e rows)),.vl (.lst ds),nv tk,.vl (lstN C),s4]) (λM3 hM3=>⟨rfl,rows,d,rfl,hR,hld,?_⟩) ?_
    ·cases h1:plD rows d with
     | false =>
      rw[out (by
       rintro⟨C,e,a,b,_⟩
       have:=f0o.mpr ⟨C,e,a,b⟩
       rw[h1]at this;cases this)]at hq
      exact hq
     | true =>
      obtain⟨C,rfl,c3,c4⟩:=f0o.mp h1
      have c5:=h0e c4 c3
      refine⟨rfl,rows,C,rfl,hR,c3,(of_decide_eq_true c4).1,by omega,?_⟩
      cases h2:k0a rows C with
      | false =>
       rw[out (by
        rintro⟨C',e,_,_,b,_⟩
        rw[<- d0t e,h2]at b;cases b)]at hq
       exact hq
      | true=>exact hM3 _ ⟨C,rfl,c3,c4,h2,rfl⟩
    rintro _ ⟨C,rfl,c3,c4,h2,rfl⟩
    have c5:=h0e c4 c3
    refine cutS (λρ=>ρ=[.vl (.tup (a0e rows)),.vl (.lst ds),nv tk,.vl (lstN C),nv (orN rows C)]) (λM3 hM3=>⟨rfl,false,rows,C,rfl,hR,c3,by omega,hM3 _ rfl⟩) ?_
    rintro _ rfl
    have et:truD (.int (Builtin.bitAnd ((tk:Nat):Int) ((orN rows C:Nat):Int))) = !decide (tk &&& orN rows C=0):=by
     rw[k0s]
     show((((tk &&& orN rows C:Nat):Int)) != 0)=_
     rw[Bool.eq_iff_iff]
     simp
    refine cutS (λρ=>tk &&& orN rows C=0/\ρ=[.vl (.tup (a0e rows)),.vl (.lst ds),nv tk,.vl (lstN C),nv (orN rows C)]) (λM3 hM3=>?_) ?_
    ·show if truD (.int (Builtin.bitAnd ((tk:Nat):Int) ((orN rows C:Nat):Int)))=true then _ else _
     rw[et]
     by_cases h3:tk &&& orN rows C=0
     ·rw[decide_eq_true h3]
      exact hM3 _ ⟨h3,rfl⟩
     ·rw[out (by
       rintro⟨C',e,_,_,_,b,_⟩
       rw[<- d0t e]at b;exact h3 b)]at hq
      rw[decide_eq_false h3]
      exact hq
    rintro _ ⟨h3,rfl⟩
    refine hM2 _ ⟨tk ||| orN rows C,.vl (lstN C),nv (orN rows C),?_,?_⟩
    ·rw[hgo,Bool.eq_iff_iff,n0i]
     constructor
     ·rintro⟨C',e,_,_,_,_,b⟩
      rw[<- d0t e]at b;exact b
     ·intro b
      exact⟨C,rfl,c3,c4,h2,h3,b⟩
    ·rw[<- p0d (p0s _ _)]
     rfl
   ·rintro _ ⟨tk,s3,s4,hgo,rfl⟩
    rw[List.drop_length]at hgo
    exact hM _ ⟨by rw[hgo];exact l0z.mpr ⟨[],rfl,(λ_ h=>nomatch h),rfl⟩,nv tk,s3,s4,rfl⟩
   rintro _ ⟨he,s2,s3,s4,rfl⟩
   rw[he]at hq
   exact hq
theorem p0b (dn:DefN K mg "bound_shown" g0i ["wish", "number", "paper"])(B:BI mg)(g_is_tuple:OkN P w K mg base 1 "is_tuple" ["thing", "least", "most"] (spA K s0i))(g_are_unlike:OkN P w K mg base 3 "are_unlike" ["rows", "thing"] (spA K w0g))(g_are_classes:OkN P w K mg base 4 "are_classes" ["rows", "thing"] (spA K w0m))(g_unlike_number:OkN P w K mg base 3 "unlike_number" ["rows", "places"] (spA K SUnl))(g_hang_number:OkN P w K mg base 3 "hang_number" ["rows", "classes"] (spA K f1m)):OkN P w K mg base 5 "bound_shown" ["wish", "number", "paper"] (spA K d1f):=by
 refine dn.aok2 (k:=4) e0n (λj=>j==0||j==1||j==2) [.un,.un,.un,.un] d1f rfl (λf cdv A outer s H E hr=>have hu:=e0z hr;⟨_,(a0i (x0a (pv 0) (l0y K (n:=2) rfl (e0t (a0z (i:=3) e0n.nd rfl (by first | exact Or.inl rfl | exact Or.inr rfl)) (e0t (a0z (i:=4) e0n.nd rfl (by first | exact Or.inl rfl | exact Or.inr rfl)) l0x))))
  (a0i (d0a (f0l (g0d (b0k g_is_tuple (hr.mono (by decide)) (a0c (pv 2) (a0c a0j (a0c a0j a0f))))))
  (a0p (b0d j0z))
  b0g)
  (a0i (x0a (pv 2) (l0y K (n:=2) rfl (e0t (a0z (i:=5) e0n.nd rfl (by first | exact Or.inl rfl | exact Or.inr rfl)) (e0t (a0z (i:=6) e0n.nd rfl (by first | exact Or.inl rfl | exact Or.inr rfl)) l0x))))
  (a0i (d0a (a0s (c0e K hr.units) (pv 5) c0x (a0y _))
  (a0p (b0d (k0b (b0k g_are_unlike (hr.mono (by decide)) (a0c (pv 4) (a0c (pv 6) a0f))) (n0t (f0z y0p (b0k g_unlike_number (hr.mono (by decide)) (a0c (pv 4) (a0c (pv 6) a0f))) (pv 1) (a0y _))))))
  b0g)
  (a0i (d0a (a0s (c0e K hr.units) (pv 5) c0x (a0y _))
  (a0p (b0d (k0b (b0k g_are_classes (hr.mono (by decide)) (a0c (pv 4) (a0c (pv 6) a0f))) (n0t (f0z y0p (b0k g_hang_number (hr.mono (by decide)) (a0c (pv 4) (a0c (pv 6) a0f))) (pv 1) (a0y _))))))
  b0g)
  (a0p (b0d j0z))))))),(a0l (q0o a0b (j0m (c0t (a0q rfl) (c0t (a0q rfl) h0j (λ_ _ _=>g0a)) (λ_ _ _=>g0a))))
  (a0l (b0v (c0r (f0s (a0n (a0a a0b (a0a a0g (a0a a0g a0d))))))
  (a0v g0c)
  b0a)
  (a0l (q0o a0b (j0m (c0t (a0q rfl) (c0t (a0q rfl) h0j (λ_ _ _=>g0a)) (λ_ _ _=>g0a))))
  (a0l (b0v (a0o (a0h c0f a0b d0o))
  (a0v (f0q (a0n (a0a a0b (a0a a0b a0d))) (a0h c0i (a0n (a0a a0b (a0a a0b a0d))) a0b)))
  b0a)
  (a0l (b0v (a0o (a0h c0f a0b d0o))
  (a0v (f0q (a0n (a0a a0b (a0a a0b a0d))) (a0h c0i (a0n (a0a a0b (a0a a0b a0d))) a0b)))
  b0a)
  (a0v g0c))))))⟩) ?_
 rintro ss q ⟨m,rows,z,d,rfl,hR,hln,hdp,hq⟩
 have no:(∀w e,d ≠ .tup [w,e])->shB rows z d=false:=λh=>b_no i0w (by
  rintro⟨n,⟨ps,e,_⟩ | ⟨L,e,_⟩,_⟩
  ·exact h _ _ e
  ·exact h _ _ e)
 refine⟨rfl,rfl,?_⟩
 refine cutS (λρ=>ρ=[.vl (b0o m rows),.vl (.int z),.vl d,nv m,.vl (.tup (a0e rows)),.un,.un]) (λM hM=>hM _ rfl) ?_
 rintro _ rfl
 refine cutS (λρ=>(∃w e,d = .tup [w,e])/\ρ=[.vl (b0o m rows),.vl (.int z),.vl d,nv m,.vl (.tup (a0e rows)),.un,.un]) (λM hM=>⟨rfl,d,2,2,rfl,?_⟩) ?_
 ·cases ht:tupB 2 2 d with
  | false =>
   rw[no (by rintro w e rfl;cases ht)]at hq
   exact hq
  | true =>
   obtain⟨x,y,rfl⟩:=d1u ht
   exact hM _ ⟨⟨x,y,rfl⟩,rfl⟩
 rintro _ ⟨⟨w,e,rfl⟩,rfl⟩
 simp only[lnD,lnDs,Bool.and_eq_true]at hln
 simp only[D.depth,depths]at hdp
 refine cutS (λρ=>ρ=[.vl (b0o m rows),.vl (.int z),.vl (.tup [w,e]),nv m,.vl (.tup (a0e rows)),.vl w,.vl e]) (λM hM=>hM _ rfl) ?_
 rintro _ rfl
 refine cutS (λρ=>w ≠ .str "unlike" /\ ρ=[.vl (b0o m rows),.vl (.int z),.vl (.tup [w,e]),nv m,.vl (.tup (a0e rows)),.vl w,.vl e]) (λM hM=>b0m rfl rfl (by omega) rfl (ite2 (λh=>?_) λh=>hM _ ⟨λz=>h (by rw[z];exact e0j _),rfl⟩)) ?_
 ·have:=c1g h
  subst this
  refine⟨rfl,rows,e,rfl,hR,hln.2.2.1,?_⟩
  cases hu:unD rows e with
  | false =>
   rw[b_no i0w (by
    rintro⟨n,⟨ps,e',a,b,_⟩ | ⟨L,e',_⟩,_⟩
    ·injection e' with e'
     have:=q0m.mpr ⟨ps,by injection e' with _ e';injection e' with e',a,b⟩
     rw[hu]at this;cases this
    ·injection e' with e'
     injection e' with e' _
     injection e' with e'
     exact absurd e' (by decide))]at hq
   exact hq
  | true =>
   obtain⟨ps,rfl,h1,h2⟩:=q0m.mp hu
   have hpl:plOk ps=true:=by unfold h0z at h2;rw[Bool.and_eq_true,Bool.and_eq_true]at h2;exact h2.1.1
   have hl:=h0e hpl h1
   have l24:=hR.l24
   refine⟨rfl,rows,ps,_,.inr rfl,rfl,hR,(of_decide_eq_true hpl).1,by omega,h1,?_⟩
   have:shB rows z (.tup [.str "unlike",lstN ps])=decide (z<=unlL rows ps):=by
    rw[Bool.eq_iff_iff,i0w,decide_eq_true_eq]
    constructor
    ·rintro⟨n,⟨ps',e',a,b,rfl⟩ | ⟨L,e',_⟩,c⟩
     ·injection e' with e'
      injection e' with _ e'
      injection e' with e'
      rw[d0t e'];exact c
     ·injection e' with e'
      injection e' with e' _
      injection e' with e'
      exact absurd e' (by decide)
    ·intro c
     exact⟨_,.inl ⟨ps,rfl,h1,h2,rfl⟩,c⟩
   rw[this]at hq
   exact hq
 rintro _ ⟨hw,rfl⟩
 refine cutS (λρ=>w ≠ .str "hang" /\ ρ=[.vl (b0o m rows),.vl (.int z),.vl (.tup [w,e]),nv m,.vl (.tup (a0e rows)),.vl w,.vl e]) (λM hM=>b0m rfl rfl (by omega) rfl (ite2 (λh=>?_) λh=>hM _ ⟨λz=>h (by rw[z];exact e0j _),rfl⟩)) ?_
 ·have:=c1g h
  subst this
  refine⟨rfl,rows,e,rfl,hR,hln.2.2.1,?_⟩
  cases hu:clD rows e with
  | false =>
   rw[b_no i0w (by
    rintro⟨n,⟨ps,e',_⟩ | ⟨L,e',a,b,_⟩,_⟩
    ·injection e' with e'
     injection e' with e' _
     injection e' with e'
     exact absurd e' (by decide)
    ·injection e' with e'
     have:=k0p.mpr ⟨L,by injection e' with _ e';injection e' with e',a,b⟩
     rw[hu]at this;cases this)]at hq
   exact hq
  | true =>
   obtain⟨L,rfl,h1,h2⟩:=k0p.mp hu
   have hl50:L.length<50:=by
    have:=hln.2.2.1
    simp only[lnD,Bool.and_eq_true,decide_eq_true_eq,List.length_map]at this
    exact this.1
   refine⟨rfl,rows,L,_,.inr rfl,rfl,hR,⟨by omega,f1e hR h1 h2 (.inr (by omega))⟩,?_⟩
   have inj:∀ {A B:List (List Nat)},A.map lstN=B.map lstN->A=B:=by
    intro A
    induction A with
    | nil=>intro B h;cases B with
     | nil=>rfl
     | cons _ _=>cases h
    | cons a A ih =>
     intro B h
     cases B with
     | nil=>cases h
     | cons b B =>
      rw[List.map_cons,List.map_cons,List.cons.injEq]at h
      rw[d0t h.1,ih h.2]
   have:shB rows z (.tup [.str "hang",.lst (L.map lstN)])=decide (z<=l0m rows L):=by
    rw[Bool.eq_iff_iff,i0w,decide_eq_true_eq]
    constructor
    ·rintro⟨n,⟨ps',e',_⟩ | ⟨L',e',a,b,rfl⟩,c⟩
     ·injection e' with e'
      injection e' with e' _
      injection e' with e'
      exact absurd e' (by decide)
     ·injection e' with e'
      injection e' with _ e'
      injection e' with e'
      injection e' with e'
      rw[inj e'];exact c
    ·intro c
     exact⟨_,.inr ⟨L,rfl,h1,h2,rfl⟩,c⟩
   rw[this]at hq
   exact hq
 rintro _ ⟨hw2,rfl⟩
 rw[b_no i0w (by
  rintro⟨n,⟨ps,e',_⟩ | ⟨L,e',_⟩,_⟩
  ·injection e' with e'
   injection e' with e' _
   exact hw e'
  ·injection e' with e'
   injection e' with e' _
   exact hw2 e')]at hq
 exact hq
end
def z0h (m:Nat)(rows:List Nat):Prop:=1<=m/\m<=12/\c0y rows/\∀r∈rows,r<2^m
def n0l:ASp:=λss q=>∃r:Nat,ss=[nv r]/\r<4096/\q (.d (nD (wt r))) [nv r]
def d1h:ASp:=λss q=>∃n:Nat,ss=[.tp n]/\n<=10000000/\∀(m:Nat) (rows:List Nat) (n':Nat),z0h m rows->n'<=n+300->q (.d (b0o m rows)) [.tp n']
open Classical in
noncomputable def wid (rows C:List Nat):List Nat:=(List.range rows.length).filter λj=>decide (j∈C ∨ ∃i∈C,adj rows i j)
theorem t0p {P:Nat->Bool}{b:Nat}(h:∀x,b<=x->P x=false):∀d,(List.range (b+d)).filter P=(List.range b).filter P
 | 0=>rfl
 | d+1=>by rw[<- Nat.add_assoc,List.range_succ,List.filter_append,t0p h d];simp[h (b+d) (by omega)]
theorem p0y {r m:Nat}(h:r<2^m):(List.range m).filter r.testBit=d0g r:=by
 unfold d0g
 have hb:h0y r<=m:=by
  unfold h0y
  split
  ·omega
  ·rename_i h0
   have:=(Nat.log2_lt h0).mpr h
   omega
 have hz:∀x,h0y r<=x->r.testBit x=false:=λx hx=>by
  apply Nat.testBit_lt_two_pow
  unfold h0y at hx
  split at hx
  ·rename_i e;rw[e];exact Nat.two_pow_pos x
  ·exact Nat.lt_of_lt_of_le Nat.lt_log2_self (Nat.pow_le_pow_right (by decide) hx)
 have:=t0p (P:=r.testBit) (b:=h0y r) hz (m - h0y r)
 rw[show h0y r+(m - h0y r)=m by omega]at this
 exact this
theorem c1z (a k:Nat):eqD (.int (Builtin.bitAnd ((a:Int) / 2^((k:Int).toNat)) 1)) (.int 1)=a.testBit k:=by
 rw[c1y]
 cases a.testBit k <;> simp[eqD]
theorem a1q (P:Nat->Bool):∀m,(((List.range m).filter P).map λk=>2^k).sum<2^m
 | 0=>by simp
 | m+1=>by
  have ih:=a1q P m
  rw[List.range_succ,List.filter_append,List.map_append,List.sum_append,Nat.pow_succ]
  cases h:P m <;> simp[h] <;> omega
theorem csum (xs:List Nat):(xs.map λk=>((2^k:Nat):Int)).sum=(((xs.map λk=>2^k).sum:Nat):Int):=by
 induction xs with
 | nil=>rfl
 | cons x xs ih=>rw[List.map_cons,List.map_cons,List.sum_cons,List.sum_cons,ih];omega
theorem x0z {xs:List Nat}{x:Nat}(h:x<xs.length):atI (a0e xs) (-1 - (x:Int))=some (nD (xs.getD (xs.length - 1 - x) 0)):=by
 unfold atI ixN
 rw[if_neg (by omega),if_pos (by rw[a0k];omega),a0k]
 show(a0e xs)[(-1 - (x:Int)+(xs.length:Nat)).toNat]? = _
 rw[show(-1 - (x:Int)+(xs.length:Nat)).toNat=xs.length - 1 - x by omega]
 unfold a0e
 rw[List.getElem?_map,List.getElem?_eq_getElem (by omega),List.getD_eq_getElem?_getD,List.getElem?_eq_getElem (by omega)]
 rfl
theorem gE0 {a:Nat}{b:Int}{c:Bool}{ρ:En}{q:Ko}(h:decide ((a:Int)=b)=c)(hq:q (.d (.bl c)) ρ):gEq false (.d (.int (a:Int))) (.d (.int b)) ρ q:=b0m rfl rfl (by simp[D.depth]) (b:=c) (by unfold eqD;exact h) (by exact hq)
theorem i0u {rows C:List Nat}{j:Nat}:j∈wid rows C↔j<rows.length/\(j∈C ∨ ∃i∈C,adj rows i j):=by
 unfold wid
 rw[List.mem_filter,List.mem_range]
 simp
theorem n0o (rows C:List Nat):(wid rows C).Pairwise (· < ·):=List.Pairwise.filter _ List.pairwise_lt_range
theorem w0t {xs ys:List Nat}{ns':List Int}(pm:ns'.Perm (castL xs))(up:ns'.Pairwise (· <= ·))(nd:xs.Nodup)(hy:ys.Pairwise (· < ·))(hm:∀x,x∈xs↔x∈ys):ns'=castL ys:=by
 refine List.Perm.eq_of_pairwise (le:=λa b=>a<=b) (λa b _ _ h1 h2=>Int.le_antisymm h1 h2) up ?_ (pm.trans (List.Perm.map _ ((List.perm_ext_iff_of_nodup nd (hy.imp λh=>by omega)).mpr hm)))
 unfold castL
 exact List.pairwise_map.mpr (hy.imp λh=>by omega)
def d1e:ASp:=λss q=>∃(rows C:List Nat) (s1:Sv),(s1 = .ow (a0e C)∨s1 = .vl (lstN C))/\ss=[.vl (.tup (a0e rows)),s1]/\c0y rows/\C.Pairwise (· < ·)/\(∀i∈C,i<rows.length)/\q (.f (a0e (wid rows C))) [.vl (.tup (a0e rows)),s1]
theorem u0o {rows C:List Nat}(hb:∀i∈C,i<rows.length){x:Nat}(h:x∈C):x∈wid rows C:=i0u.mpr ⟨hb x h,.inl h⟩
theorem g1y (rows C:List Nat):(wid rows C).length<=rows.length:=h0h (n0o rows C) λx hx=>(i0u.mp hx).1
theorem g1z {rows C:List Nat}{p:Nat}(up:C.Pairwise (· < ·))(hp:p∈C)(hs:∀j∈C,Conn rows p j)(hl:(wid rows C).length<=C.length):C=comp rows p:=by
 have hb:∀i∈C,i<rows.length:=λi hi=>(hs i hi).lt.2
 refine v0y up hp hs λi hi j hj a=>?_
 have hw:j∈wid rows C:=i0u.mpr ⟨hj,.inr ⟨i,hi,a⟩⟩
 apply Classical.byContradiction
 intro z
 have:=List.Nodup.length_le_of_subset (l₁:=j::C) (List.nodup_cons.mpr ⟨z,up.imp λh=>by omega⟩) (l₂:=wid rows C) λx hx=>by
  rcases List.mem_cons.mp hx with rfl | h
  ·exact hw
  ·exact u0o hb h
 rw[List.length_cons]at this
 omega
theorem z0l {rows C:List Nat}{p:Nat}(hs:∀j∈C,Conn rows p j){x:Nat}(h:x∈wid rows C):Conn rows p x:=by
 obtain⟨h1,h2 | ⟨i,hi,a⟩⟩:=i0u.mp h
 ·exact hs x h2
 ·exact(hs i hi).step h1 a
def o0w:ASp:=λss q=>∃rows:List Nat,ss=[.vl (.tup (a0e rows))]/\c0y rows/\q (.f ((b0h rows rows.length).map lstN)) [.vl (.tup (a0e rows))]
section
variable {P:Program}{w:World}{K:PySem.W.Frag}{mg:Str->Option Value}{base:Heap}
theorem q0y (dn:DefN K mg "_law_weight" f0u ["_law_row"])(B:BI mg):OkN P w K mg base 1 "_law_weight" ["_law_row"] (spA K n0l):=by
 refine dn.aok2 (k:=0) q0q (λj=>j==0) [] n0l rfl (λf cdv A outer s H E hr=>have hu:=e0z hr;⟨_,(a0p (b0d (a0r (b0e K) rfl B.len_ c0q (a0c (d0q ["_law_k"] [0] rfl (Blk.of (a0m f0u) l0a) (e0q rfl B.range_ (a0c a0j a0f)) (λ_ _ _ _ nd=>(a0z (i:=0) nd rfl (by first | exact Or.inl rfl | exact Or.inr rfl))) (λ_ _ _ _=>(f0h (a0s (c0e K hr.units) (a0x m0j (a0x x0g (pv 1) (pv 0)) a0j) a0j (a0y _)))) (λ_ _ _ _=>(pv 0))) a0f)))),(a0v (b0f b0q (a0a (b0t (e0l (a0a a0g a0d)) (a0q rfl) (a0o (a0h c0f (a0h a0w (a0h e0y a0b a0b) a0g) a0g)) a0b) a0d)))⟩) ?_
 rintro ss q ⟨r,rfl,hr,hq⟩
 refine⟨rfl,rfl,?_⟩
 refine⟨⟨by decide,by decide⟩,by rw[d0s];decide,?_⟩
 refine f0k (λj acc ρ=>acc=a0e ((List.range j).filter r.testBit)/\ρ=[nv r]) (λ_ _ _ _ _=>trivial) ?_ ?_ _ ⟨rfl,rfl⟩
 ·rintro j d acc _ M4 hj ⟨rfl,rfl⟩ hM4
  obtain⟨lt,rfl⟩:=j0t hj
  rw[Int.zero_add]
  have fs:=x0r r.testBit (List.range j) j
  rw[<- List.range_succ]at fs
  refine⟨Int.natCast_nonneg _,b0m rfl rfl (by simp[D.depth]) (c1z r j) ?_⟩
  cases e:r.testBit j with
  | false=>exact hM4 _ _ ⟨by rw[fs,e];rfl,rfl⟩
  | true=>exact hM4 _ _ ⟨by rw[fs,e];rfl,rfl⟩
 ·rintro acc _ ⟨rfl,rfl⟩
  rw[d0s]
  have e:(a0e ((List.range (Int.toNat 12)).filter r.testBit)).length=wt r:=by
   rw[a0k]
   show((List.range 12).filter r.testBit).length=_
   rw[p0y (show r<2^12 from hr)];rfl
  show q (.d (.int (((a0e ((List.range (Int.toNat 12)).filter r.testBit)).length:Nat):Int))) _
  rw[e]
  exact hq
theorem u0y (dn:DefN K mg "_law_wish" h0l ["_law_tape_here"])(B:BI mg)(g_law_draw:OkN P w K mg base 1 "_law_draw" ["_law_tape_here", "_law_many"] (spA K o0x)):OkN P w K mg base 2 "_law_wish" ["_law_tape_here"] (spA K d1h):=by
 refine dn.aok2 (k:=1) c0d (λj=>j==0) [.un,.un,.un,.un,.un,.un,.un] d1h rfl (λf cdv A outer s H E hr=>have hu:=e0z hr;⟨_,(a0i (b0b (i:=1) c0d.nd rfl (by first | exact Or.inl rfl | exact Or.inr rfl) (a0x e0d a0j (b0k g_law_draw (hr.mono (by decide)) (a0c (pv 0) (a0c a0j a0f)))))
  (a0i (b0b (i:=2) c0d.nd rfl (by first | exact Or.inl rfl | exact Or.inr rfl) (b0k g_law_draw (hr.mono (by decide)) (a0c (pv 0) (a0c a0j a0f))))
  (a0i (b0b (i:=3) c0d.nd rfl (by first | exact Or.inl rfl | exact Or.inr rfl) (a0x e0d a0j (b0k g_law_draw (hr.mono (by decide)) (a0c (pv 0) (a0c a0j a0f)))))
  (a0i (b0b (i:=4) c0d.nd rfl (by first | exact Or.inl rfl | exact Or.inr rfl) (b0w a0f))
  (a0i (h0p PassesOwn.never rfl (e0q rfl B.range_ (a0c (a0x e0d a0j (b0k g_law_draw (hr.mono (by decide)) (a0c (pv 0) (a0c a0j a0f)))) a0f)) (a0z (i:=5) c0d.nd rfl (by first | exact Or.inl rfl | exact Or.inr rfl))
  (a0i (b0b (i:=6) c0d.nd rfl (by first | exact Or.inl rfl | exact Or.inr rfl) (a0x e0d a0j (b0k g_law_draw (hr.mono (by decide)) (a0c (pv 0) (a0c (a0x g0w (a0x p0t a0j (pv 1)) a0j) a0f)))))
  (a0i (d0a (a0s (c0e K hr.units) (pv 2) a0j (a0y _))
  (a0p (b0b (i:=6) c0d.nd rfl (by first | exact Or.inl rfl | exact Or.inr rfl) (a0x i1c (a0x i1c (a0x p0t a0j (b0k g_law_draw (hr.mono (by decide)) (a0c (pv 0) (a0c (pv 1) a0f)))) (a0x p0t a0j (b0k g_law_draw (hr.mono (by decide)) (a0c (pv 0) (a0c (pv 1) a0f))))) (a0x p0t a0j (b0k g_law_draw (hr.mono (by decide)) (a0c (pv 0) (a0c (pv 1) a0f)))))))
  b0g)
  (a0i (d0a (a0s (c0e K hr.units) (pv 2) a0j (a0y _))
  (a0p (b0b (i:=6) c0d.nd rfl (by first | exact Or.inl rfl | exact Or.inr rfl) (a0x p0t a0j (b0k g_law_draw (hr.mono (by decide)) (a0c (pv 0) (a0c (pv 1) a0f))))))
  b0g)
  (a0i (d0a (a0s (c0e K hr.units) (pv 2) a0j (a0y _))
  (a0i (b0b (i:=7) c0d.nd rfl (by first | exact Or.inl rfl | exact Or.inr rfl) (b0k g_law_draw (hr.mono (by decide)) (a0c (pv 0) (a0c (pv 3) a0f))))
  (a0p (b0b (i:=6) c0d.nd rfl (by first | exact Or.inl rfl | exact Or.inr rfl) (a0r (u0b K rfl) rfl B.sum_ g1q (a0c (d0q ["_law_k"] [3,7,6] rfl (Blk.of (a0m h0l) n0y) (e0q rfl B.range_ (a0c (pv 1) a0f)) (λ_ _ _ _ nd=>(a0z (i:=0) nd rfl (by first | exact Or.inl rfl | exact Or.inr rfl))) (λ_ _ _ _=>(f0h (PW.pt (k0x (a0s (c0e K hr.units) (a0x m0i (pv 0) (pv 1)) (pv 2) (a0y _)) (i0d (a0s (c0e K hr.units) (a0x m0j (a0x x0g (pv 3) (pv 0)) a0j) a0j (a0y _))))))) (λ_ _ _ _=>(a0x p0t a0j (pv 0)))) a0f)))))
  b0g)
  (a0i (d0a (PW.pt (i0x (a0s (c0e K hr.units) (pv 6) a0j (a0y _)) (h0n (PW.pt (k0x (a0s (k0c K hr.units) (pv 4) (b0w a0f) (a0y _)) (i0d (a0s (c0e K hr.units) (b0k g_law_draw (hr.mono (by decide)) (a0c (pv 0) (a0c a0j a0f))) a0j (a0y _))))))))
  (a0p (b0b (i:=6) c0d.nd rfl (by first | exact Or.inl rfl | exact Or.inr rfl) (c0n (b0c K) (a0x (c0o K) (b0w (a0c a0j a0f)) (pv 4)) (a0x g0w (s0q m0f a0j) (b0k g_law_draw (hr.mono (by decide)) (a0c (pv 0) (a0c (a0x e0d a0j (a0r (b0e K) rfl B.len_ c0q (a0c (pv 4) a0f))) a0f)))) (λ_ _=>rfl))))
  b0g)
  (a0p (l0w (p0q K PySem.F.plainAttrs_list PySem.F.slot_list_append PySem.F.type_list_append h0q (pv 4) (a0c (pv 6) a0f))))))))))
  (a0p (b0d (e0c (a0c (pv 1) (a0c (j0a (i0m K) rfl B.tuple_ j0x (a0c (pv 4) a0f)) a0f)))))))))),(a0l (a0u (a0h a0w a0g (a0n (a0a a0b (a0a a0g a0d)))) rfl)
  (a0l (a0u (a0n (a0a a0b (a0a a0g a0d))) rfl)
  (a0l (a0u (a0h a0w a0g (a0n (a0a a0b (a0a a0g a0d)))) rfl)
  (a0l (a0u (b0i a0d) rfl)
  (a0l (f0m (pin:=(λ_=>false)) (e0l (a0a (a0h a0w a0g (a0n (a0a a0b (a0a a0g a0d)))) a0d)) (a0q rfl)
  (a0l (a0u (a0h a0w a0g (a0n (a0a a0b (a0a (a0h a0w (a0h e0y a0g a0b) a0g) a0d)))) rfl)
  (a0l (b0v (a0o (a0h c0f a0b a0g))
  (a0u (a0h a0w (a0h a0w (a0h e0y a0g (a0n (a0a a0b (a0a a0b a0d)))) (a0h e0y a0g (a0n (a0a a0b (a0a a0b a0d))))) (a0h e0y a0g (a0n (a0a a0b (a0a a0b a0d))))) rfl)
  b0a)
  (a0l (b0v (a0o (a0h c0f a0b a0g))
  (a0u (a0h e0y a0g (a0n (a0a a0b (a0a a0b a0d)))) rfl)
  b0a)
  (a0l (b0v (a0o (a0h c0f a0b a0g))
  (a0l (a0u (a0n (a0a a0b (a0a a0b a0d))) rfl)
  (a0u (b0f x0v (a0a (b0t (e0l (a0a a0b a0d)) (a0q rfl) (g0z (a0o (a0h c0f (a0h e0y a0b a0b) a0b)) (a0o (a0h c0f (a0h a0w (a0h e0y a0b a0b) a0g) a0g))) (a0h e0y a0g a0b)) a0d)) rfl))
  b0a)
  (a0l (b0v (d0x (a0o (a0h c0f a0b a0g)) (g0z (a0o (a0h k0d a0b (b0i a0d))) (a0o (a0h c0f (a0n (a0a a0b (a0a a0g a0d))) a0g))))
  (a0u (a0h b0p (a0h c0p (b0i (a0a a0g a0d)) a0b) (a0h a0w (i0v a0g) (a0n (a0a a0b (a0a (a0h a0w a0g (b0f b0q (a0a a0b a0d))) a0d))))) rfl)
  b0a)
  (j0n (l0v a0b (a0a a0b a0d)))))))))
  (a0v (c0l (a0a a0b (a0a (b0f j0w (a0a a0b a0d)) a0d)))))))))⟩) ?_
 rintro ss q ⟨n,rfl,hn,hq⟩
 refine⟨rfl,rfl,?_⟩
 refine cutS (λρ=>∃m:Nat,1<=m/\m<=12/\ρ=[.tp (n+1),nv m,.un,.un,.un,.un,.un,.un]) (λM hM=>⟨rfl,n,12,rfl,by omega,Dv.small (by decide) (by decide),λr hr=>hM _ ⟨1+r,by omega,by omega,by rw[<- p0d (show(1:Int)+(r:Int)=((1+r:Nat):Int)by omega)];rfl⟩⟩) ?_
 rintro _ ⟨m,m1,m2,rfl⟩
 have pm:2<=2^m/\2^m<=4096:=⟨Nat.pow_le_pow_right (n:=2) (by decide) m1,Nat.pow_le_pow_right (n:=2) (by decide) m2⟩
 have ep:(1:Int)*(2:Int)^((m:Int).toNat)=((2^m:Nat):Int):=by rw[a1g,Nat.shiftLeft_eq,Nat.one_mul]
 refine cutS (λρ=>∃way:Nat,ρ=[.tp (n+2),nv m,nv way,.un,.un,.un,.un,.un]) (λM hM=>⟨rfl,n+1,4,rfl,by omega,Dv.small (by decide) (by decide),λr hr=>hM _ ⟨r,rfl⟩⟩) ?_
 rintro _ ⟨way,rfl⟩
 refine cutS (λρ=>∃g:Nat,1<=g/\g<=4/\ρ=[.tp (n+3),nv m,nv way,nv g,.un,.un,.un,.un]) (λM hM=>⟨rfl,n+2,4,rfl,by omega,Dv.small (by decide) (by decide),λr hr=>hM _ ⟨1+r,by omega,by omega,by rw[<- p0d (show(1:Int)+(r:Int)=((1+r:Nat):Int)by omega)];rfl⟩⟩) ?_
 rintro _ ⟨g,g1,g2,rfl⟩
 refine cutS (λρ=>ρ=[.tp (n+3),nv m,nv way,nv g,.ow [],.un,.un,.un]) (λM hM=>⟨by simp,hM _ rfl⟩) ?_
 rintro _ rfl
 have pw:∀x:Nat,(1:Int)*(2:Int)^((x:Int).toNat)=((2^x:Nat):Int):=λx=>by rw[a1g,Nat.shiftLeft_eq,Nat.one_mul]
 refine cutS (λρ=>∃rows n' s5 s6 s7,z0h m rows/\n'<=n+300/\ρ=[.tp n',nv m,nv way,nv g,.ow (a0e rows),s5,s6,s7]) (λM hM=>⟨rfl,n+3,24,rfl,by omega,Dv.small (by decide) (by decide),λc hc=>⟨⟨by omega,by omega⟩,?_⟩⟩) ?_
 ·refine l0n (λk ρ=>∃rows n' s5 s6 s7,(∀r∈rows,1<=r/\r<2^m)/\rows.length=k/\n'<=n+4+9*k/\ρ=[.tp n',nv m,nv way,nv g,.ow (a0e rows),s5,s6,s7]) (λ_ _ _=>trivial) ?_ ?_ ⟨[],n+4,.un,.un,.un,(λr hr=>nomatch hr),rfl,by omega,rfl⟩
  ·rintro k _ M1 hk ⟨rows,n0,s5,s6,s7,hrows,hlen,hn0,rfl⟩ hM1
   have hk':k<25:=by omega
   refine cutS (λρ=>∃r:Nat,1<=r/\r<2^m/\ρ=[.tp (n0+1),nv m,nv way,nv g,.ow (a0e rows),.vl (.int (0+(k:Int))),nv r,s7]) (λM2 hM2=>⟨⟨by omega,by omega,by decide⟩,rfl,n0,(1:Int)*2^((m:Int).toNat) - 1,rfl,by omega,by rw[ep];exact Dv.small (by omega) (by omega),λr hr=>?_⟩) ?_
   ·rw[ep]at hr
    exact hM2 _ ⟨1+r,by omega,by omega,by rw[<- p0d (show(1:Int)+(r:Int)=((1+r:Nat):Int)by omega)];rfl⟩
   rintro _ ⟨r,hr1,hr2,rfl⟩
   refine cutS (λρ=>∃r n1:Nat,1<=r/\r<2^m/\n1<=n0+4/\ρ=[.tp n1,nv m,nv way,nv g,.ow (a0e rows),.vl (.int (0+(k:Int))),nv r,s7]) (λM2 hM2=>b0m rfl rfl (by simp[D.depth]) rfl (ite2 (λ_=>?_) λ_=>hM2 _ ⟨r,n0+1,hr1,hr2,by omega,rfl⟩)) ?_
   ·refine⟨rfl,n0+1,m,rfl,by omega,Dv.small (by omega) (by omega),λx hx=>⟨⟨by omega,by omega,by decide⟩,?_⟩⟩
    refine⟨rfl,n0+2,m,rfl,by omega,Dv.small (by omega) (by omega),λy hy=>⟨⟨by omega,by omega,by decide⟩,?_⟩⟩
    refine⟨rfl,n0+3,m,rfl,by omega,Dv.small (by omega) (by omega),λz hz=>⟨⟨by omega,by omega,by decide⟩,hM2 _ ⟨(2^x ||| 2^y) ||| 2^z,n0+4,?_,?_,by omega,?_⟩⟩⟩
    ·refine Nat.pos_of_ne_zero λe=>?_
     have:=congrArg (λt=>t.testBit z) e
     simp only[Nat.testBit_or,Nat.zero_testBit,Nat.testBit_two_pow_self,Bool.or_true]at this
     cases this
    ·exact Nat.or_lt_two_pow (Nat.or_lt_two_pow (Nat.pow_lt_pow_right (by decide) (by omega)) (Nat.pow_lt_pow_right (by decide) (by omega))) (Nat.pow_lt_pow_right (by decide) (by omega))
    ·have e:Builtin.bitOr (Builtin.bitOr ((1:Int)*(2:Int)^((x:Int).toNat)) ((1:Int)*(2:Int)^((y:Int).toNat))) ((1:Int)*(2:Int)^((z:Int).toNat))=(((2^x ||| 2^y) ||| 2^z:Nat):Int):=by rw[pw,pw,pw,p0s,p0s]
     rw[<- p0d e];rfl
   rintro _ ⟨r,n1,hr1,hr2,hn1,rfl⟩
   refine cutS (λρ=>∃r n2:Nat,1<=r/\r<2^m/\n2<=n1+1/\ρ=[.tp n2,nv m,nv way,nv g,.ow (a0e rows),.vl (.int (0+(k:Int))),nv r,s7]) (λM2 hM2=>b0m rfl rfl (by simp[D.depth]) rfl (ite2 (λ_=>?_) λ_=>hM2 _ ⟨r,n1,hr1,hr2,by omega,rfl⟩)) ?_
   ·refine⟨rfl,n1,m,rfl,by omega,Dv.small (by omega) (by omega),λx hx=>⟨⟨by omega,by omega,by decide⟩,hM2 _ ⟨2^x,n1+1,Nat.pos_of_ne_zero (by simp),Nat.pow_lt_pow_right (by decide) (by omega),by omega,?_⟩⟩⟩
    rw[<- p0d (pw x)];rfl
   rintro _ ⟨r,n2,hr1,hr2,hn2,rfl⟩
   refine cutS (λρ=>∃(r n3:Nat) (s7:Sv),r<2^m/\n3<=n2+1/\ρ=[.tp n3,nv m,nv way,nv g,.ow (a0e rows),.vl (.int (0+(k:Int))),nv r,s7]) (λM2 hM2=>b0m rfl rfl (by simp[D.depth]) rfl (ite2 (λ_=>?_) λ_=>hM2 _ ⟨r,n2,s7,hr2,by omega,rfl⟩)) ?_
   ·refine⟨rfl,n2,g,rfl,by omega,Dv.small (by omega) (by omega),λy hy=>?_⟩
    refine⟨⟨by omega,by omega⟩,by rw[d0s];omega,?_⟩
    rw[Int.toNat_natCast]
    refine f0k (λj acc ρ=>acc=(((List.range j).filter λk=>decide (k % g=y)&&r.testBit k).map λk=>((2^k:Nat):Int)).map D.int/\ρ=[.tp (n2+1),nv m,nv way,nv g,.ow (a0e rows),.vl (.int (0+(k:Int))),nv r,nv y]) (λ_ _ _ _ _=>trivial) ?_ ?_ _ ⟨rfl,rfl⟩
    ·rintro j d acc _ M4 hj ⟨rfl,rfl⟩ hM4
     obtain⟨lt,rfl⟩:=j0t hj
     rw[Int.zero_add]
     refine⟨by omega,b0m (b:=decide (j % g=y)) rfl rfl (by simp[D.depth]) ?_ ?_⟩
     ·show eqD (.int ((j:Int) % (g:Int))) (.int (y:Int))=_
      rw[<- Int.natCast_emod]
      unfold eqD
      rw[Bool.eq_iff_iff]
      simp only[beq_iff_eq,decide_eq_true_eq]
      omega
     have rs:∀b:Bool,(decide (j % g=y)&&r.testBit j)=b->((((List.range (j+1)).filter λk=>decide (k % g=y)&&r.testBit k).map λk=>((2^k:Nat):Int)).map D.int)=((((List.range j).filter λk=>decide (k % g=y)&&r.testBit k).map λk=>((2^k:Nat):Int)).map D.int)++(if b=true then[D.int ((2^j:Nat):Int)]else[]):=λb hb=>by
      rw[List.range_succ,List.filter_append,List.map_append,List.map_append]
      congr 1
      cases b <;> simp[List.filter_cons,hb]
     cases h1:decide (j % g=y)with
     | false=>exact hM4 _ _ ⟨by rw[rs false (by rw[h1];rfl)];simp,rfl⟩
     | true =>
      refine⟨Int.natCast_nonneg _,b0m rfl rfl (by simp[D.depth]) (c1z r j) ?_⟩
      cases h2:r.testBit j with
      | false=>exact hM4 _ _ ⟨by rw[rs false (by rw[h1,h2];rfl)];simp,rfl⟩
      | true =>
       refine⟨⟨by omega,by omega,by decide⟩,hM4 _ _ ⟨?_,rfl⟩⟩
       rw[rs true (by rw[h1,h2];rfl),if_pos rfl,<- pw j]
    ·rintro acc _ ⟨rfl,rfl⟩
     rw[d0s]
     have ps:=a1q (λk=>decide (k % g=y)&&r.testBit k) m
     refine v0t (ns:=((List.range m).filter λk=>decide (k % g=y)&&r.testBit k).map λk=>((2^k:Nat):Int)) rfl (λz hz=>?_) ?_ (hM2 _ ⟨(((List.range m).filter λk=>decide (k % g=y)&&r.testBit k).map λk=>2^k).sum,n2+1,nv y,ps,by omega,?_⟩)
     ·obtain⟨t,_,rfl⟩:=List.mem_map.mp hz
      exact Int.natCast_nonneg _
     ·rw[csum];omega
     ·rw[csum];rfl
   rintro _ ⟨r,n3,s7,hr2,hn3,rfl⟩
   refine cutS (λρ=>∃(r n4:Nat),1<=r/\r<2^m/\n4<=n3+2/\ρ=[.tp n4,nv m,nv way,nv g,.ow (a0e rows),.vl (.int (0+(k:Int))),nv r,s7]) (λM2 hM2=>?_) ?_
   ·by_cases h0:r=0
    ·refine gE0 (c:=true) (by subst h0;rfl) ?_
     refine⟨by simp,by rw[a0k];simp;omega,?_⟩
     refine⟨rfl,n3,_,rfl,by omega,Dv.small (by rw[a0k];omega) (by rw[a0k];omega),λx hx=>?_⟩
     rw[a0k]at hx
     have hx':x<(1::rows).length:=by rw[List.length_cons];omega
     refine j0g (ds:=a0e (1::rows)) (d:=nD ((1::rows).getD ((1::rows).length - 1 - x) 0)) rfl (x0z hx') ?_
     have hmem:(1::rows).getD ((1::rows).length - 1 - x) 0∈1::rows:=by
      rw[List.getD_eq_getElem?_getD,List.getElem?_eq_getElem (by omega)]
      exact List.getElem_mem (by omega)
     refine hM2 _ ⟨(1::rows).getD ((1::rows).length - 1 - x) 0,_,?_,?_,?_,rfl⟩
     ·rcases List.mem_cons.mp hmem with e | e
      ·rw[e];exact Nat.le_refl _
      ·exact(hrows _ e).1
     ·rcases List.mem_cons.mp hmem with e | e
      ·rw[e];omega
      ·exact(hrows _ e).2
     ·omega
    ·refine gE0 (c:=false) (decide_eq_false (by omega)) ?_
     refine⟨by simp,b0m (b:=decide (rows=[])) rfl rfl (d0d _) (by cases rows <;> rfl) ?_⟩
     by_cases h2:rows=[]
     ·rw[decide_eq_true h2]
      exact hM2 _ ⟨r,n3,by omega,hr2,by omega,rfl⟩
     ·rw[decide_eq_false h2]
      refine⟨rfl,n3,6,rfl,by omega,Dv.small (by decide) (by decide),λt ht=>?_⟩
      by_cases h3:t=0
      ·refine gE0 (c:=true) (by subst h3;rfl) ?_
       refine⟨by simp,by rw[a0k];simp;omega,?_⟩
       refine⟨rfl,n3+1,_,rfl,by omega,Dv.small (by rw[a0k];omega) (by rw[a0k];omega),λx hx=>?_⟩
       rw[a0k]at hx
       have hx':x<(1::rows).length:=by rw[List.length_cons];omega
       refine j0g (ds:=a0e (1::rows)) (d:=nD ((1::rows).getD ((1::rows).length - 1 - x) 0)) rfl (x0z hx') ?_
       have hmem:(1::rows).getD ((1::rows).length - 1 - x) 0∈1::rows:=by
        rw[List.getD_eq_getElem?_getD,List.getElem?_eq_getElem (by omega)]
        exact List.getElem_mem (by omega)
       refine hM2 _ ⟨(1::rows).getD ((1::rows).length - 1 - x) 0,_,?_,?_,?_,rfl⟩
       ·rcases List.mem_cons.mp hmem with e | e
        ·rw[e];exact Nat.le_refl _
        ·exact(hrows _ e).1
       ·rcases List.mem_cons.mp hmem with e | e
        ·rw[e];omega
        ·exact(hrows _ e).2
       ·omega
      ·refine gE0 (c:=false) (decide_eq_false (by omega)) ?_
       exact hM2 _ ⟨r,n3+1,by omega,hr2,by omega,rfl⟩
   rintro _ ⟨r,n4,hr1,hr2,hn4,rfl⟩
   refine⟨by rw[a0k];omega,hM1 _ ⟨rows++[r],n4,_,_,_,λx hx=>?_,by rw[List.length_append,hlen];rfl,by omega,by rw[f0d];rfl⟩⟩
   rcases List.mem_append.mp hx with hx | hx
   ·exact hrows x hx
   ·rw[List.mem_singleton.mp hx];exact⟨hr1,hr2⟩
  ·rintro _ ⟨rows,n',s5,s6,s7,hrows,hlen,hn',rfl⟩
   exact hM _ ⟨rows,n',s5,s6,s7,⟨m1,m2,⟨by omega,by omega,λr hr=>⟨(hrows r hr).1,by have:=(hrows r hr).2;omega⟩⟩,λr hr=>(hrows r hr).2⟩,by omega,rfl⟩
 rintro _ ⟨rows,n',s5,s6,s7,hR,hn',rfl⟩
 exact⟨by simp,hq m rows n' hR hn'⟩
theorem s0w (dn:DefN K mg "_law_wider" g0s ["_law_rows", "_law_places_here"])(B:BI mg):OkN P w K mg base 1 "_law_wider" ["_law_rows", "_law_places_here"] (spA K d1e):=by
 refine dn.aok2 (k:=0) h0b (λj=>j==0||j==1) [.un,.un,.un] d1e rfl (λf cdv A outer s H E hr=>have hu:=e0z hr;⟨_,(a0i (b0b (i:=2) h0b.nd rfl (by first | exact Or.inl rfl | exact Or.inr rfl) (j0a (z0c K) rfl B.list_ o0u (a0c (pv 1) a0f)))
  (a0i (h0p PassesOwn.never rfl (e0q rfl B.range_ (a0c (a0r (b0e K) rfl B.len_ c0q (a0c (pv 0) a0f)) a0f)) (a0z (i:=3) h0b.nd rfl (by first | exact Or.inl rfl | exact Or.inr rfl))
  (a0i (k0k (i:=4) ["_law_one"] [0,3] h0b.nd rfl (by first | exact Or.inl rfl | exact Or.inr rfl) rfl (Blk.of (a0m g0s) m0k) (b0z K (pv 1)) (λ_ _ _ _ nd=>(a0z (i:=0) nd rfl (by first | exact Or.inl rfl | exact Or.inr rfl))) (λ_ _ _ _=>(f0h (a0s (k0c K hr.units) (a0x m0j (c0n (b0c K) (pv 1) (pv 0) (λ_ _=>rfl)) (c0n (b0c K) (pv 1) (pv 2) (λ_ _=>rfl))) a0j (a0y _)))) (λ_ _ _ _=>(pv 0)))
  (a0p (d0a (PW.pt (k0x (a0s (i0f K) (pv 3) (pv 1) rfl) (i0d (a0s (k0c K hr.units) (pv 4) (b0w a0f) (a0y _)))))
  (a0p (l0w (p0q K PySem.F.plainAttrs_list PySem.F.slot_list_append PySem.F.type_list_append h0q (pv 2) (a0c (pv 3) a0f))))
  b0g))))
  (a0p (b0d (a0r (i0n K) rfl B.sorted_ h0x (a0c (pv 2) a0f)))))),(a0l (a0u (b0f c1s (a0a a0b a0d)) rfl)
  (a0l (f0m (pin:=(λ_=>false)) (e0l (a0a (b0f b0q (a0a a0b a0d)) a0d)) (a0q rfl)
  (a0l (h0a (b0t (b0n a0b) (a0q rfl) (a0o (a0h k0d (a0h a0w (a0h b0p a0b a0b) (a0h b0p a0b a0b)) a0g)) a0b) rfl)
  (b0v (g0z (a0o (a0h (x0i true) a0b a0b)) (a0o (a0h k0d a0b (b0i a0d))))
  (j0n (l0v a0b (a0a a0b a0d)))
  b0a)))
  (a0v (b0f i0l (a0a a0b a0d)))))⟩) ?_
 rintro ss q ⟨rows,C,s1,hs,rfl,hR,hC,hb,hq⟩
 have l24:=hR.l24
 have cl:=h0h hC hb
 rcases hs with rfl | rfl
 ·refine⟨rfl,rfl,?_⟩
  refine cutS (λρ=>ρ=[.vl (.tup (a0e rows)),.ow (a0e C),.ow (a0e C),.un,.un]) (λM hM=>hM _ rfl) ?_
  rintro _ rfl
  refine cutS (λρ=>∃F s3 s4,F.Nodup/\(∀x,x∈F↔x∈wid rows C)/\F.length<=48/\ρ=[.vl (.tup (a0e rows)),.ow (a0e C),.ow (a0e F),s3,s4]) (λM hM=>⟨⟨by omega,by rw[a0k];omega⟩,?_⟩) ?_
  ·rw[a0k,Int.toNat_natCast]
   refine l0n (λk ρ=>∃F s3 s4,F.Nodup/\(∀x,x∈F↔x∈C∨(x<k/\∃i∈C,adj rows i x))/\F.length<=24+k/\ρ=[.vl (.tup (a0e rows)),.ow (a0e C),.ow (a0e F),s3,s4]) (λ_ _ _=>trivial) ?_ ?_ ⟨C,.un,.un,hC.imp λh=>by omega,λx=>⟨.inl,λh=>h.resolve_right λz=>by omega⟩,by omega,rfl⟩
   ·rintro k _ M2 hk ⟨F,s3,s4,nd,hm,hfl,rfl⟩ hM2
    rw[Int.zero_add]
    refine cutS (λρ=>ρ=[.vl (.tup (a0e rows)),.ow (a0e C),.ow (a0e F),nv k,.ow (a0e (C.filter λi=>rw1 rows i &&& rw1 rows k != 0))]) (λM3 hM3=>⟨rfl,by rw[a0k];omega,?_⟩) ?_
    ·refine e0e nD (λi=>rw1 rows i &&& rw1 rows k != 0) nD rfl (λi acc M4 hi hM4=>?_) (hM3 _ rfl)
     refine e0i (i:=i) (ds:=a0e rows) (d:=nD (rw1 rows i)) rfl (by rw[show rw1 rows i=rows.getD i 0 from rfl];exact c0c (hb i hi)) ?_
     refine e0i (i:=k) (ds:=a0e rows) (d:=nD (rw1 rows k)) rfl (by rw[show rw1 rows k=rows.getD k 0 from rfl];exact c0c hk) ?_
     refine b0m (b:=!(rw1 rows i &&& rw1 rows k != 0)) rfl rfl (by simp[D.depth]) ?_ ?_
     ·show eqD (.int (Builtin.bitAnd ((rw1 rows i:Nat):Int) ((rw1 rows k:Nat):Int))) (.int 0)=_
      rw[k0s]
      unfold eqD
      rw[Bool.eq_iff_iff]
      simp
     ·cases hh:(rw1 rows i &&& rw1 rows k != 0)with
      | true=>rw[hh]at hM4;exact hM4
      | false=>rw[hh]at hM4;exact hM4
    rintro _ rfl
    have mt:((C.filter λi=>rw1 rows i &&& rw1 rows k != 0)=[])↔¬ ∃i∈C,adj rows i k:=by
     rw[List.filter_eq_nil_iff]
     unfold adj
     constructor
     ·rintro h ⟨i,hi,a⟩
      exact h i hi (by simpa using a)
     ·intro h i hi z
      exact h ⟨i,hi,by simpa using z⟩
    refine x0q (xs:=C) rfl ?_
    cases hc:C.contains k with
    | true =>
     have hc':k∈C:=List.contains_iff_mem.mp hc
     refine hM2 _ ⟨F,nv k,.ow (a0e (C.filter λi=>rw1 rows i &&& rw1 rows k != 0)),nd,λx=>?_,by omega,rfl⟩
     rw[hm x]
     constructor
     ·rintro(h | ⟨h1,h2⟩)
      ·exact .inl h
      ·exact .inr ⟨by omega,h2⟩
     ·rintro(h | ⟨h1,h2⟩)
      ·exact .inl h
      ·rcases Nat.lt_or_ge x k with z | z
       ·exact .inr ⟨z,h2⟩
       ·have:x=k:=by omega
        subst this;exact .inl hc'
    | false =>
     have hc':k∉C:=λz=>by rw[List.contains_iff_mem.mpr z]at hc;cases hc
     generalize hML:(C.filter λi=>rw1 rows i &&& rw1 rows k != 0)=ML at mt
     refine⟨by simp,b0m (b:=decide (ML=[])) rfl rfl (d0d _) ?_ ?_⟩
     ·cases ML <;> rfl
     by_cases e:ML=[]
     ·rw[decide_eq_true e]
      refine hM2 _ ⟨F,nv k,.ow (a0e ML),nd,λx=>?_,by omega,rfl⟩
      rw[hm x]
      constructor
      ·rintro(h | ⟨h1,h2⟩)
       ·exact .inl h
       ·exact .inr ⟨by omega,h2⟩
      ·rintro(h | ⟨h1,h2⟩)
       ·exact .inl h
       ·rcases Nat.lt_or_ge x k with z | z
        ·exact .inr ⟨z,h2⟩
        ·have:x=k:=by omega
         subst this;exact absurd h2 (mt.mp e)
     ·rw[decide_eq_false e]
      have ha:∃i∈C,adj rows i k:=by
       apply Classical.byContradiction
       intro z
       exact e (mt.mpr z)
      refine⟨by rw[a0k];omega,hM2 _ ⟨F++[k],nv k,.ow (a0e ML),?_,λx=>?_,by rw[List.length_append,List.length_singleton];omega,by rw[f0d];rfl⟩⟩
      ·refine List.nodup_append.mpr ⟨nd,List.nodup_cons.mpr ⟨(λh=>nomatch h),List.nodup_nil⟩,λa h1 b h2 e=>?_⟩
       rw[List.mem_singleton.mp h2]at e
       subst e
       rcases(hm a).mp h1 with z | z
       ·exact hc' z
       ·omega
      ·rw[List.mem_append,hm x,List.mem_singleton]
       constructor
       ·rintro((h | ⟨h1,h2⟩) | rfl)
        ·exact .inl h
        ·exact .inr ⟨by omega,h2⟩
        ·exact .inr ⟨by omega,ha⟩
       ·rintro(h | ⟨h1,h2⟩)
        ·exact .inl (.inl h)
        ·rcases Nat.lt_or_ge x k with z | z
         ·exact .inl (.inr ⟨z,h2⟩)
         ·exact .inr (by omega)
   ·rintro _ ⟨F,s3,s4,nd,hm,hfl,rfl⟩
    refine hM _ ⟨F,s3,s4,nd,λx=>?_,by omega,rfl⟩
    rw[hm x,i0u]
    constructor
    ·rintro(h | ⟨h1,h2⟩)
     ·exact⟨hb x h,.inl h⟩
     ·exact⟨h1,.inr h2⟩
    ·rintro⟨h1,h2 | h2⟩
     ·exact .inl h2
     ·exact .inr ⟨h1,h2⟩
  rintro _ ⟨F,s3,s4,nd,hm,hfl,rfl⟩
  refine g0p (ns:=castL F) (by rw[e0r];rfl) (by unfold castL;rw[List.length_map];omega) λns' pm up=>?_
  have:=w0t pm up nd (n0o rows C) hm
  subst this
  rw[e0r]
  exact hq
 ·refine⟨rfl,rfl,?_⟩
  refine cutS (λρ=>ρ=[.vl (.tup (a0e rows)),.vl (lstN C),.ow (a0e C),.un,.un]) (λM hM=>hM _ rfl) ?_
  rintro _ rfl
  refine cutS (λρ=>∃F s3 s4,F.Nodup/\(∀x,x∈F↔x∈wid rows C)/\F.length<=48/\ρ=[.vl (.tup (a0e rows)),.vl (lstN C),.ow (a0e F),s3,s4]) (λM hM=>⟨⟨by omega,by rw[a0k];omega⟩,?_⟩) ?_
  ·rw[a0k,Int.toNat_natCast]
   refine l0n (λk ρ=>∃F s3 s4,F.Nodup/\(∀x,x∈F↔x∈C∨(x<k/\∃i∈C,adj rows i x))/\F.length<=24+k/\ρ=[.vl (.tup (a0e rows)),.vl (lstN C),.ow (a0e F),s3,s4]) (λ_ _ _=>trivial) ?_ ?_ ⟨C,.un,.un,hC.imp λh=>by omega,λx=>⟨.inl,λh=>h.resolve_right λz=>by omega⟩,by omega,rfl⟩
   ·rintro k _ M2 hk ⟨F,s3,s4,nd,hm,hfl,rfl⟩ hM2
    rw[Int.zero_add]
    refine cutS (λρ=>ρ=[.vl (.tup (a0e rows)),.vl (lstN C),.ow (a0e F),nv k,.ow (a0e (C.filter λi=>rw1 rows i &&& rw1 rows k != 0))]) (λM3 hM3=>⟨by rw[a0k];omega,?_⟩) ?_
    ·refine e0e nD (λi=>rw1 rows i &&& rw1 rows k != 0) nD trivial (λi acc M4 hi hM4=>?_) (hM3 _ rfl)
     refine e0i (i:=i) (ds:=a0e rows) (d:=nD (rw1 rows i)) rfl (by rw[show rw1 rows i=rows.getD i 0 from rfl];exact c0c (hb i hi)) ?_
     refine e0i (i:=k) (ds:=a0e rows) (d:=nD (rw1 rows k)) rfl (by rw[show rw1 rows k=rows.getD k 0 from rfl];exact c0c hk) ?_
     refine b0m (b:=!(rw1 rows i &&& rw1 rows k != 0)) rfl rfl (by simp[D.depth]) ?_ ?_
     ·show eqD (.int (Builtin.bitAnd ((rw1 rows i:Nat):Int) ((rw1 rows k:Nat):Int))) (.int 0)=_
      rw[k0s]
      unfold eqD
      rw[Bool.eq_iff_iff]
      simp
     ·cases hh:(rw1 rows i &&& rw1 rows k != 0)with
      | true=>rw[hh]at hM4;exact hM4
      | false=>rw[hh]at hM4;exact hM4
    rintro _ rfl
    have mt:((C.filter λi=>rw1 rows i &&& rw1 rows k != 0)=[])↔¬ ∃i∈C,adj rows i k:=by
     rw[List.filter_eq_nil_iff]
     unfold adj
     constructor
     ·rintro h ⟨i,hi,a⟩
      exact h i hi (by simpa using a)
     ·intro h i hi z
      exact h ⟨i,hi,by simpa using z⟩
    refine x0q (xs:=C) rfl ?_
    cases hc:C.contains k with
    | true =>
     have hc':k∈C:=List.contains_iff_mem.mp hc
     refine hM2 _ ⟨F,nv k,.ow (a0e (C.filter λi=>rw1 rows i &&& rw1 rows k != 0)),nd,λx=>?_,by omega,rfl⟩
     rw[hm x]
     constructor
     ·rintro(h | ⟨h1,h2⟩)
      ·exact .inl h
      ·exact .inr ⟨by omega,h2⟩
     ·rintro(h | ⟨h1,h2⟩)
      ·exact .inl h
      ·rcases Nat.lt_or_ge x k with z | z
       ·exact .inr ⟨z,h2⟩
       ·have:x=k:=by omega
        subst this;exact .inl hc'
    | false =>
     have hc':k∉C:=λz=>by rw[List.contains_iff_mem.mpr z]at hc;cases hc
     generalize hML:(C.filter λi=>rw1 rows i &&& rw1 rows k != 0)=ML at mt
     refine⟨by simp,b0m (b:=decide (ML=[])) rfl rfl (d0d _) ?_ ?_⟩
     ·cases ML <;> rfl
     by_cases e:ML=[]
     ·rw[decide_eq_true e]
      refine hM2 _ ⟨F,nv k,.ow (a0e ML),nd,λx=>?_,by omega,rfl⟩
      rw[hm x]
      constructor
      ·rintro(h | ⟨h1,h2⟩)
       ·exact .inl h
       ·exact .inr ⟨by omega,h2⟩
      ·rintro(h | ⟨h1,h2⟩)
       ·exact .inl h
       ·rcases Nat.lt_or_ge x k with z | z
        ·exact .inr ⟨z,h2⟩
        ·have:x=k:=by omega
         subst this;exact absurd h2 (mt.mp e)
     ·rw[decide_eq_false e]
      have ha:∃i∈C,adj rows i k:=by
       apply Classical.byContradiction
       intro z
       exact e (mt.mpr z)
      refine⟨by rw[a0k];omega,hM2 _ ⟨F++[k],nv k,.ow (a0e ML),?_,λx=>?_,by rw[List.length_append,List.length_singleton];omega,by rw[f0d];rfl⟩⟩
      ·refine List.nodup_append.mpr ⟨nd,List.nodup_cons.mpr ⟨(λh=>nomatch h),List.nodup_nil⟩,λa h1 b h2 e=>?_⟩
       rw[List.mem_singleton.mp h2]at e
       subst e
       rcases(hm a).mp h1 with z | z
       ·exact hc' z
       ·omega
      ·rw[List.mem_append,hm x,List.mem_singleton]
       constructor
       ·rintro((h | ⟨h1,h2⟩) | rfl)
        ·exact .inl h
        ·exact .inr ⟨by omega,h2⟩
        ·exact .inr ⟨by omega,ha⟩
       ·rintro(h | ⟨h1,h2⟩)
        ·exact .inl (.inl h)
        ·rcases Nat.lt_or_ge x k with z | z
         ·exact .inl (.inr ⟨z,h2⟩)
         ·exact .inr (by omega)
   ·rintro _ ⟨F,s3,s4,nd,hm,hfl,rfl⟩
    refine hM _ ⟨F,s3,s4,nd,λx=>?_,by omega,rfl⟩
    rw[hm x,i0u]
    constructor
    ·rintro(h | ⟨h1,h2⟩)
     ·exact⟨hb x h,.inl h⟩
     ·exact⟨h1,.inr h2⟩
    ·rintro⟨h1,h2 | h2⟩
     ·exact .inl h2
     ·exact .inr ⟨h1,h2⟩
  rintro _ ⟨F,s3,s4,nd,hm,hfl,rfl⟩
  refine g0p (ns:=castL F) (by rw[e0r];rfl) (by unfold castL;rw[List.length_map];omega) λns' pm up=>?_
  have:=w0t pm up nd (n0o rows C) hm
  subst this
  rw[e0r]
  exact hq
theorem o0z (dn:DefN K mg "_law_classes" g0h ["_law_rows"])(B:BI mg)(g_law_wider:OkN P w K mg base 1 "_law_wider" ["_law_rows", "_law_places_here"] (spA K d1e)):OkN P w K mg base 2 "_law_classes" ["_law_rows"] (spA K o0w):=by
 refine dn.aok2 (k:=1) c0z (λj=>j==0) [.un,.un,.un,.un] o0w rfl (λf cdv A outer s H E hr=>have hu:=e0z hr;⟨_,(a0i (b0b (i:=1) c0z.nd rfl (by first | exact Or.inl rfl | exact Or.inr rfl) (b0w a0f))
  (a0i (h0p PassesOwn.never rfl (e0q rfl B.range_ (a0c (a0r (b0e K) rfl B.len_ c0q (a0c (pv 0) a0f)) a0f)) (a0z (i:=2) c0z.nd rfl (by first | exact Or.inl rfl | exact Or.inr rfl))
  (a0i (b0b (i:=3) c0z.nd rfl (by first | exact Or.inl rfl | exact Or.inr rfl) (b0w (a0c (pv 2) a0f)))
  (a0i (b0b (i:=4) c0z.nd rfl (by first | exact Or.inl rfl | exact Or.inr rfl) (b0k g_law_wider (hr.mono (by decide)) (a0c (pv 0) (a0c (pv 3) a0f))))
  (a0i (e1e PassesOwn.never (a0s q0w (a0r (b0e K) rfl B.len_ c0q (a0c (pv 4) a0f)) (a0r (b0e K) rfl B.len_ c0q (a0c (pv 3) a0f)) (a0y _))
  (a0i (b0b (i:=3) c0z.nd rfl (by first | exact Or.inl rfl | exact Or.inr rfl) (pv 4))
  (a0p (b0b (i:=4) c0z.nd rfl (by first | exact Or.inl rfl | exact Or.inr rfl) (b0k g_law_wider (hr.mono (by decide)) (a0c (pv 0) (a0c (pv 3) a0f)))))))
  (a0p (d0a (a0s (s0t K hr.units) (pv 3) (pv 1) rfl)
  (a0p (l0w (p0q K PySem.F.plainAttrs_list PySem.F.slot_list_append PySem.F.type_list_append h0q (pv 1) (a0c (pv 3) a0f))))
  b0g))))))
  (a0p (b0d (pv 1))))),(a0l (a0u (b0i a0d) rfl)
  (a0l (f0m (pin:=(λ_=>false)) (e0l (a0a (b0f b0q (a0a a0b a0d)) a0d)) (a0q rfl)
  (a0l (a0u (b0i (a0a a0b a0d)) rfl)
  (a0l (a0u (a0n (a0a a0b (a0a a0b a0d))) rfl)
  (a0l (a1c (a0o (a0h c0i (b0f b0q (a0a a0b a0d)) (b0f b0q (a0a a0b a0d))))
  (a0l (a0u a0b rfl)
  (a0u (a0n (a0a a0b (a0a a0b a0d))) rfl)))
  (b0v (a0o (a0h (b1a true) a0b a0b))
  (j0n (l0v a0b (a0a a0b a0d)))
  b0a)))))
  (a0v a0b)))⟩) ?_
 rintro ss q ⟨rows,rfl,hR,hq⟩
 have l24:=hR.l24
 refine⟨rfl,rfl,?_⟩
 refine cutS (λρ=>ρ=[.vl (.tup (a0e rows)),.ow [],.un,.un,.un]) (λM hM=>⟨by simp,hM _ rfl⟩) ?_
 rintro _ rfl
 refine cutS (λρ=>∃s2 s3 s4,ρ=[.vl (.tup (a0e rows)),.ow ((b0h rows rows.length).map lstN),s2,s3,s4]) (λM hM=>⟨⟨by omega,by rw[a0k];omega⟩,?_⟩) ?_
 ·rw[a0k,Int.toNat_natCast]
  refine l0n (λp ρ=>∃s2 s3 s4,ρ=[.vl (.tup (a0e rows)),.ow ((b0h rows p).map lstN),s2,s3,s4]) (λ_ _ _=>trivial) ?_ (λρ ⟨s2,s3,s4,e⟩=>hM ρ ⟨s2,s3,s4,e⟩) ⟨.un,.un,.un,rfl⟩
  rintro p _ M2 hp ⟨s2,s3,s4,rfl⟩ hM2
  rw[Int.zero_add]
  have cln:(b0h rows p).length<=p:=by
   unfold b0h
   rw[List.length_map]
   refine Nat.le_trans (List.length_filter_le _ _) ?_
   rw[List.length_range];exact Nat.le_refl _
  refine cutS (λρ=>ρ=[.vl (.tup (a0e rows)),.ow ((b0h rows p).map lstN),nv p,.ow (a0e [p]),s4]) (λM3 hM3=>⟨by simp,hM3 _ rfl⟩) ?_
  rintro _ rfl
  refine cutS (λρ=>ρ=[.vl (.tup (a0e rows)),.ow ((b0h rows p).map lstN),nv p,.ow (a0e [p]),.ow (a0e (wid rows [p]))]) (λM3 hM3=>⟨rfl,rows,[p],_,.inl rfl,rfl,hR,List.pairwise_singleton _ _,λi hi=>by rw[List.mem_singleton.mp hi];exact hp,hM3 _ rfl⟩) ?_
  rintro _ rfl
  refine cutS (λρ=>∃s3 s4,(s3 = .ow (a0e (comp rows p))∨s3 = .vl (lstN (comp rows p)))/\ρ=[.vl (.tup (a0e rows)),.ow ((b0h rows p).map lstN),nv p,s3,s4]) (λM3 hM3=>h1a (λρ=>∃C s3,(s3 = .ow (a0e C)∨s3 = .vl (lstN C))/\C.Pairwise (· < ·)/\p∈C/\(∀j∈C,Conn rows p j)/\ρ=[.vl (.tup (a0e rows)),.ow ((b0h rows p).map lstN),nv p,s3,.ow (a0e (wid rows C))]) (λρ=>match ρ with | [_,_,_,.ow C,_]=>100 - C.length | [_,_,_,.vl (.lst C),_]=>100 - C.length | _=>0) ?_ _ ⟨[p],.ow (a0e [p]),.inl rfl,List.pairwise_singleton _ _,by simp,λj hj=>by rw[List.mem_singleton.mp hj];exact .refl hp,rfl⟩) ?_
  ·rintro _ N ⟨C,s3,hs,up,hpC,hcon,rfl⟩ hN
   have hb:∀i∈C,i<rows.length:=λi hi=>(hcon i hi).lt.2
   have wl:=g1y rows C
   have cl:=h0h up hb
   have go:decide (((a0e C).length:Int)<((a0e (wid rows C)).length:Int))=decide (C.length<(wid rows C).length):=by rw[a0k,a0k,decide_eq_decide];omega
   have no:¬C.length<(wid rows C).length->C=comp rows p:=λh=>g1z up hpC hcon (by omega)
   have hl2:(a0e (wid rows C)).length=(wid rows C).length:=a0k _
   have hl1:(a0e C).length=C.length:=a0k _
   rcases hs with rfl | rfl
   ·show if decide (((a0e C).length:Int)<((a0e (wid rows C)).length:Int))=true then _ else _
    rw[go]
    by_cases h:C.length<(wid rows C).length
    ·rw[if_pos (decide_eq_true h)]
     refine cutS (λρ=>∃s4,ρ=[.vl (.tup (a0e rows)),.ow ((b0h rows p).map lstN),nv p,.vl (lstN (wid rows C)),s4]) (λM4 hM4=>hM4 _ ⟨_,rfl⟩) ?_
     rintro _ ⟨s4,rfl⟩
     refine⟨rfl,rows,wid rows C,_,.inr rfl,rfl,hR,n0o rows C,λi hi=>(i0u.mp hi).1,hN _ ⟨wid rows C,.vl (lstN (wid rows C)),.inr rfl,n0o rows C,u0o hb hpC,λj hj=>z0l hcon hj,rfl⟩ ?_⟩
     show 100 - (a0e (wid rows C)).length<100 - (a0e C).length
     omega
    ·rw[if_neg (by simpa using h)]
     have e:=no h
     refine hM3 _ ⟨.ow (a0e C),.ow (a0e (wid rows C)),.inl (by rw[e]),rfl⟩
   ·show if decide (((a0e C).length:Int)<((a0e (wid rows C)).length:Int))=true then _ else _
    rw[go]
    by_cases h:C.length<(wid rows C).length
    ·rw[if_pos (decide_eq_true h)]
     refine cutS (λρ=>∃s4,ρ=[.vl (.tup (a0e rows)),.ow ((b0h rows p).map lstN),nv p,.vl (lstN (wid rows C)),s4]) (λM4 hM4=>hM4 _ ⟨_,rfl⟩) ?_
     rintro _ ⟨s4,rfl⟩
     refine⟨rfl,rows,wid rows C,_,.inr rfl,rfl,hR,n0o rows C,λi hi=>(i0u.mp hi).1,hN _ ⟨wid rows C,.vl (lstN (wid rows C)),.inr rfl,n0o rows C,u0o hb hpC,λj hj=>z0l hcon hj,rfl⟩ ?_⟩
     show 100 - (a0e (wid rows C)).length<100 - (a0e C).length
     omega
    ·rw[if_neg (by simpa using h)]
     have e:=no h
     refine hM3 _ ⟨.vl (lstN C),.ow (a0e (wid rows C)),.inr (by rw[e]),rfl⟩
  rintro _ ⟨s3,s4,hs,rfl⟩
  have e2:(((b0h rows p).map lstN).any λe=>eqD e (lstN (comp rows p)))=decide (comp rows p∈b0h rows p):=by
   rw[List.any_map,Bool.eq_iff_iff,List.any_eq_true,decide_eq_true_eq]
   constructor
   ·rintro⟨C',h1,h2⟩
    have h3:eqD (lstN C') (lstN (comp rows p))=true:=h2
    rw[l0o]at h3
    rw[<- of_decide_eq_true h3];exact h1
   ·intro h
    exact⟨_,h,e0j _⟩
  have dep:∀e∈(b0h rows p).map lstN,e.depth<=60:=λe he=>by
   obtain⟨C',_,rfl⟩:=List.mem_map.mp he
   exact d0d _
  obtain⟨cs1,cs2⟩:=y0z hp
  rcases hs with rfl | rfl
  ·refine r0n (d:=lstN (comp rows p)) rfl rfl dep e2 ?_
   by_cases h:comp rows p∈b0h rows p
   ·rw[decide_eq_true h]
    exact hM2 _ ⟨_,_,_,by rw[cs1 h]⟩
   ·rw[decide_eq_false h]
    refine⟨by rw[List.length_map];omega,hM2 _ ⟨nv p,.vl (lstN (comp rows p)),s4,?_⟩⟩
    rw[cs2 h,List.map_append];rfl
  ·refine r0n (d:=lstN (comp rows p)) rfl rfl dep e2 ?_
   by_cases h:comp rows p∈b0h rows p
   ·rw[decide_eq_true h]
    exact hM2 _ ⟨_,_,_,by rw[cs1 h]⟩
   ·rw[decide_eq_false h]
    refine⟨by rw[List.length_map];omega,hM2 _ ⟨nv p,.vl (lstN (comp rows p)),s4,?_⟩⟩
    rw[cs2 h,List.map_append];rfl
 rintro _ ⟨s2,s3,s4,rfl⟩
 exact hq
end
def hgN (rows C:List Nat):Nat->List Nat
 | 0=>C.take 1
 | k+1=>C.filter λp=>decide (rw1 rows p &&& orN rows (hgN rows C k)≠0)
theorem o0f {rows C:List Nat}{k p:Nat}:p∈hgN rows C (k+1)↔p∈C/\∃i∈hgN rows C k,adj rows i p:=by
 show p∈C.filter (λp=>decide (rw1 rows p &&& orN rows (hgN rows C k)≠0))↔_
 rw[List.mem_filter,decide_eq_true_eq]
 refine and_congr Iff.rfl ?_
 have h:=n0v (rows:=rows) (r:=rw1 rows p) (hgN rows C k) 0
 rw[Nat.zero_and]at h
 constructor
 ·intro n
  apply Classical.byContradiction
  intro z
  refine n ?_
  rw[Nat.and_comm]
  exact h.mpr ⟨rfl,λi hi=>Classical.byContradiction λy=>z ⟨i,hi,y⟩⟩
 ·rintro⟨i,hi,a⟩ e
  rw[Nat.and_comm]at e
  exact a ((h.mp e).2 i hi)
theorem o0e {rows C:List Nat}:∀k,(hgN rows C k).Sublist C
 | 0=>List.take_sublist 1 C
 | k+1=>List.filter_sublist
theorem l1u {rows C:List Nat}(hR:c0y rows)(hC:∀i∈C,i<rows.length){k x:Nat}(h:x∈hgN rows C k):x∈hgN rows C (k+1):=by
 have hx:=(o0e k).subset h
 refine o0f.mpr ⟨hx,x,h,?_⟩
 unfold adj
 rw[Nat.and_self]
 have:=(hR.at (hC x hx)).1
 omega
theorem i1t {rows C:List Nat}(hR:c0y rows)(hC:∀i∈C,i<rows.length){k x:Nat}:∀m,x∈hgN rows C k->x∈hgN rows C (k+m)
 | 0,h=>h
 | m+1,h=>l1u hR hC (i1t hR hC m h)
theorem b1u {rows C:List Nat}{k:Nat}(h:∀x∈hgN rows C (k+1),x∈hgN rows C k):∀m x,x∈hgN rows C (k+m)->x∈hgN rows C k
 | 0,_,h=>h
 | m+1,x,hx=>by
  obtain⟨h1,i,hi,a⟩:=o0f.mp hx
  exact h x (o0f.mpr ⟨h1,i,b1u h m i hi,a⟩)
theorem b1v {rows C:List Nat}(hR:c0y rows)(hC:∀i∈C,i<rows.length)(hn:C≠[])(nd:C.Nodup):∀k,(∃m,m<=k/\∀x∈hgN rows C (m+1),x∈hgN rows C m)∨k+1<=(hgN rows C k).length
 | 0=>by
  refine .inr ?_
  unfold hgN
  rw[List.length_take]
  have:=List.length_pos_iff.mpr hn
  omega
 | k+1=>by
  rcases b1v hR hC hn nd k with⟨m,hm,h⟩ | h
  ·exact .inl ⟨m,by omega,h⟩
  by_cases z:∀x∈hgN rows C (k+1),x∈hgN rows C k
  ·exact .inl ⟨k,by omega,z⟩
  ·refine .inr ?_
   obtain⟨x,hx⟩:=Classical.not_forall.mp z
   obtain⟨h1,h2⟩:=Classical.not_imp.mp hx
   have:=List.Nodup.length_le_of_subset (l₁:=x::hgN rows C k) (List.nodup_cons.mpr ⟨h2,nd.sublist (o0e k)⟩) (l₂:=hgN rows C (k+1)) λy hy=>by
    rcases List.mem_cons.mp hy with rfl | q
    ·exact h1
    ·exact l1u hR hC q
   rw[List.length_cons]at this
   omega
theorem l1v {rows C:List Nat}(hR:c0y rows)(hC:∀i∈C,i<rows.length)(hn:C≠[])(nd:C.Nodup){k x:Nat}(h:x∈hgN rows C k):x∈hgN rows C C.length:=by
 rcases b1v hR hC hn nd C.length with⟨m,hm,g⟩ | g
 ·have:x∈hgN rows C m:=by
   rcases Nat.le_total k m with q | q
   ·obtain⟨d,rfl⟩:=Nat.exists_eq_add_of_le q
    exact i1t hR hC d h
   ·obtain⟨d,rfl⟩:=Nat.exists_eq_add_of_le q
    exact b1u g d x h
  obtain⟨d,e⟩:=Nat.exists_eq_add_of_le hm
  rw[e]
  exact i1t hR hC d this
 ·have:=(o0e (rows:=rows) (C:=C) C.length).length_le
  omega
theorem g1t {C:List Nat}{p:Nat}(h:p∈C):∃j,j<C.length/\C.getD j 0=p:=by
 obtain⟨k,hk,e⟩:=List.getElem_of_mem h
 exact⟨k,hk,by rw[List.getD_eq_getElem?_getD,List.getElem?_eq_getElem hk];exact e⟩
theorem b1h {C:List Nat}{j:Nat}(h:j<C.length):C.getD j 0∈C:=by
 rw[List.getD_eq_getElem?_getD,List.getElem?_eq_getElem h];exact List.getElem_mem h
theorem m1l {C:List Nat}(nd:C.Nodup){i j:Nat}(hi:i<C.length)(hj:j<C.length)(e:C.getD i 0=C.getD j 0):i=j:=by
 rw[List.getD_eq_getElem?_getD,List.getD_eq_getElem?_getD,List.getElem?_eq_getElem hi,List.getElem?_eq_getElem hj]at e
 exact l1f nd hi hj e
theorem b1w {rows C:List Nat}(nd:C.Nodup):∀k j,j<C.length->C.getD j 0∈hgN rows C k->Conn (subR rows C) 0 j
 | 0,j,hj,h=>by
  have e:hgN rows C 0=[C.getD 0 0]:=by
   cases C with
   | nil=>exact absurd hj (by simp)
   | cons c C=>rfl
  rw[e,List.mem_singleton]at h
  rw[m1l nd hj (by omega) h]
  exact .refl (by rw[e0v];omega)
 | k+1,j,hj,h=>by
  obtain⟨_,i,hi,a⟩:=o0f.mp h
  obtain⟨i',hi',rfl⟩:=g1t ((o0e k).subset hi)
  refine(b1w nd k i' hi' hi).step (by rw[e0v];exact hj) ?_
  unfold adj
  rw[w0s hi',w0s hj]
  exact a
theorem j1g {rows C:List Nat}{i j:Nat}(c:Conn (subR rows C) i j)(e:i=0):∃k,C.getD j 0∈hgN rows C k:=by
 induction c with
 | refl h =>
  subst e
  refine⟨0,?_⟩
  cases C with
  | nil=>rw[e0v]at h;exact absurd h (by simp)
  | cons c C=>unfold hgN;simp
 | step c h a ih =>
  rename_i y z
  obtain⟨k,hk⟩:=ih
  have hy:y<C.length:=by have:=c.lt.2;rwa [e0v]at this
  rw[e0v]at h
  refine⟨k+1,o0f.mpr ⟨b1h h,_,hk,?_⟩⟩
  unfold adj at a
  rw[w0s hy,w0s h]at a
  exact a
theorem i1u {rows C:List Nat}(hR:c0y rows)(hC:∀i∈C,i<rows.length)(hp:plOk C=true):decide (hgN rows C C.length=C)=k0a rows C:=by
 obtain⟨hn,up⟩:=of_decide_eq_true hp
 have nd:C.Nodup:=up.imp λh=>by omega
 have l1:=List.length_pos_iff.mpr hn
 rw[Bool.eq_iff_iff,decide_eq_true_eq]
 unfold k0a
 rw[decide_eq_true_eq]
 constructor
 ·intro e
  have to0:∀j,j<(subR rows C).length->Conn (subR rows C) 0 j:=λj hj=>by
   rw[e0v]at hj
   exact b1w nd C.length j hj (by rw[e];exact b1h hj)
  exact f1b (by rw[e0v];exact l1) λi j hi hj=>(to0 i hi).symm.trans (to0 j hj)
 ·intro h
  refine(o0e C.length).eq_of_length_le (List.Nodup.length_le_of_subset nd λx hx=>?_)
  obtain⟨j,hj,rfl⟩:=g1t hx
  obtain⟨k,hk⟩:=j1g (f1j h (i:=0) (j:=j) (by rw[e0v];exact l1) (by rw[e0v];exact hj)) rfl
  exact l1v hR hC hn nd hk
theorem e1m {rows:List Nat}{d:D}{n n':Int}(h:n0b rows d n)(h':n0b rows d n'):n=n':=by
 rcases h with⟨ps,e,_,_,rfl⟩ | ⟨L,e,_,_,rfl⟩ <;> rcases h' with⟨ps',e',_,_,rfl⟩ | ⟨L',e',_,_,rfl⟩ <;> rw[e]at e' <;> injection e' with e' <;> injection e' with e1 e2
 ·injection e2 with e2
  rw[d0t e2]
 ·injection e1 with e1
  exact absurd e1 (by decide)
 ·injection e1 with e1
  exact absurd e1 (by decide)
 ·injection e2 with e2
  injection e2 with e2
  have:L=L':=by
   have key:∀ {a b:List (List Nat)},a.map lstN=b.map lstN->a=b:=by
    intro a
    induction a with
    | nil=>intro b h;cases b with
     | nil=>rfl
     | cons y b=>cases h
    | cons x a ih=>intro b h;cases b with
     | nil=>cases h
     | cons y b =>
      rw[List.map_cons,List.map_cons,List.cons.injEq]at h
      rw[d0t h.1,ih h.2]
   exact key e2
  rw[this]
theorem r0r (ds:List D):eqD (.lst ds) (.lst [])=decide (ds=[]):=by cases ds <;> simp[eqD,eqDs]
theorem m1v {C:List Nat}(up:C.Pairwise (· < ·)){i:Nat}(h:i+1<C.length):C.getD i 0<C.getD (i+1) 0:=by
 rw[List.getD_eq_getElem?_getD,List.getD_eq_getElem?_getD,List.getElem?_eq_getElem (by omega),List.getElem?_eq_getElem h]
 exact List.pairwise_iff_getElem.mp up i (i+1) (by omega) h (by omega)
theorem m1u {C:List Nat}(h:∀i,i+1<C.length->C.getD i 0<C.getD (i+1) 0):C.Pairwise (· < ·):=by
 have key:∀d i,i+d+1<C.length->C.getD i 0<C.getD (i+d+1) 0:=by
  intro d
  induction d with
  | zero=>exact h
  | succ d ih=>intro i hi;exact Nat.lt_trans (ih i (by omega)) (h (i+d+1) (by omega))
 refine List.pairwise_iff_getElem.mpr λi j hi hj ij=>?_
 have:=key (j - i - 1) i (by omega)
 rw[show i+(j - i - 1)+1=j by omega]at this
 rw[List.getD_eq_getElem?_getD,List.getD_eq_getElem?_getD,List.getElem?_eq_getElem hi,List.getElem?_eq_getElem hj]at this
 exact this
def s0f:ASp:=λss q=>∃(rows:List Nat) (d:D),ss=[.vl d,nv rows.length]/\c0y rows/\lnD d=true/\d.depth<=50/\q (.d (.bl (plD rows d))) [.vl d,nv rows.length]
def w0i:ASp:=λss q=>∃(rows C:List Nat),ss=[.vl (.tup (a0e rows)),.vl (lstN C)]/\c0y rows/\(∀i∈C,i<rows.length)/\plOk C=true/\q (.d (.bl (k0a rows C))) [.vl (.tup (a0e rows)),.vl (lstN C)]
section
variable {P:Program}{w:World}{K:PySem.W.Frag}{mg:Str->Option Value}{base:Heap}
theorem b1c (dn:DefN K mg "_law_is" n0d ["_law_thing_here", "_law_low", "_law_beyond"])(B:BI mg):OkN P w K mg base 1 "_law_is" ["_law_thing_here", "_law_low", "_law_beyond"] (spA K d1g):=by
 refine dn.aok2 (k:=0) a1j (λj=>j==0||j==1||j==2) [] d1g rfl (λf cdv A outer s H E hr=>have hu:=e0z hr;⟨_,(a0p (b0d (k0b (a0r (d0k K) rfl B.isinstance_ b0u (a0c (pv 0) (a0c (m0w rfl B.int_ g1s) a0f))) (k0b (g1d (a0r (d0k K) rfl B.isinstance_ b0u (a0c (pv 0) (a0c (m0w rfl B.bool_ w0e) a0f)))) (k0b (f0z a1y (pv 1) (pv 0) (a0y _)) (n0t (f0z s0v (pv 0) (pv 2) (a0y _)))))))),(a0v (f0q (b0f e0u (a0a a0b (a0a i0p a0d))) (f0q (w0q (b0f e0u (a0a a0b (a0a i0p a0d)))) (f0q (a0h c0i a0b a0b) (a0h c0i a0b a0b)))))⟩) ?_
 rintro ss q ⟨d,lo,be,rfl,hq⟩
 refine⟨rfl,rfl,?_⟩
 cases d with
 | non=>exact a0t rfl m0p hq
 | str _=>exact a0t rfl m0o hq
 | tup _=>exact a0t rfl k0f hq
 | lst _=>exact a0t rfl l0j hq
 | bl b=>exact a0t rfl l0l (a0t rfl h0i hq)
 | int i =>
  refine a0t rfl m0q (a0t rfl l0k ?_)
  refine iteT (ite2 (λh=>?_) λh=>?_)
  ·rw[show d0w lo (be - 1) (.int i)=decide (i<be)by
    simp only[d0w];rw[show decide (lo<=i)=true from h,Bool.true_and,Bool.eq_iff_iff];simp;omega]at hq
   exact hq
  ·rw[show d0w lo (be - 1) (.int i)=false by
    simp only[d0w];rw[show decide (lo<=i)=false by simpa using h];rfl]at hq
   exact hq
theorem q0z (dn:DefN K mg "_law_places" f0b ["_law_thing_here", "_law_many"])(B:BI mg)(g_law_is:OkN P w K mg base 1 "_law_is" ["_law_thing_here", "_law_low", "_law_beyond"] (spA K d1g)):OkN P w K mg base 2 "_law_places" ["_law_thing_here", "_law_many"] (spA K s0f):=by
 refine dn.aok2 (k:=1) q0r (λj=>j==0||j==1) [] s0f rfl (λf cdv A outer s H E hr=>have hu:=e0z hr;⟨_,(a0i (d0a (PW.pt (i0x (f0l (g0d (a0r (d0k K) rfl B.isinstance_ b0u (a0c (pv 0) (a0c (m0w rfl B.list_ o0u) a0f))))) (i0x (a0s (c0e K hr.units) (pv 0) (b0w a0f) (a0y _)) (h0n (f0l (g0d (a0r (o0t K rfl) rfl B.all_ c1v (a0c (d0q ["_law_one"] [1] rfl (Blk.of (a0m f0b) i0g) (b0z K (pv 0)) (λ_ _ _ _ nd=>(a0z (i:=0) nd rfl (by first | exact Or.inl rfl | exact Or.inr rfl))) (λ_ _ _ _=>f0i) (λ_ _ _ _=>(b0k g_law_is (hr.mono (by decide)) (a0c (pv 0) (a0c a0j (a0c (pv 1) a0f)))))) a0f))))))))
  (a0p (b0d j0z))
  b0g)
  (a0p (b0d (f0z (c0e K hr.units) (d0q ["_law_at"] [0] rfl (Blk.of (a0m f0b) i0g) (a1u rfl B.range_ (a0c a0j (a0c (a0r (b0e K) rfl B.len_ c0q (a0c (pv 0) a0f)) a0f))) (λ_ _ _ _ nd=>(a0z (i:=0) nd rfl (by first | exact Or.inl rfl | exact Or.inr rfl))) (λ_ _ _ _=>(f0h (a0s y0p (c0n (b0c K) (pv 1) (a0x g0w (pv 0) a0j) (λ_ _=>rfl)) (c0n (b0c K) (pv 1) (pv 0) (λ_ _=>rfl)) (a0y _)))) (λ_ _ _ _=>(pv 0))) (b0w a0f) (a0y _))))),(a0l (b0v (d0x (c0r (f0s (b0f e0u (a0a a0b (a0a i0p a0d))))) (d0x (a0o (a0h c0f a0b (b0i a0d))) (c0r (f0s (b0f r0y (a0a (b0t (b0n a0b) (a0q rfl) d0r (a0n (a0a a0b (a0a a0g (a0a a0b a0d))))) a0d))))))
  (a0v g0c)
  b0a)
  (a0v (a0h c0f (b0t (z0r (a0a a0g (a0a (b0f b0q (a0a a0b a0d)) a0d))) (a0q rfl) (a0o (a0h c0i (a0h b0p a0b (a0h a0w a0b a0g)) (a0h b0p a0b a0b))) a0b) (b0i a0d))))⟩) ?_
 rintro ss q ⟨rows,d,rfl,hR,hln,hdp,hq⟩
 have l24:=hR.l24
 have l1:=hR.l1
 have no:(∀C,d≠lstN C)->q (.d (.bl false)) [.vl d,nv rows.length]:=λh=>by
  have:plD rows d=false:=b_no f0o (by rintro⟨C,e,_⟩;exact h C e)
  rw[this]at hq;exact hq
 refine⟨rfl,rfl,?_⟩
 cases d with
 | non=>exact a0t rfl g0m (no (λC h=>by cases h))
 | str _=>exact a0t rfl g0l (no (λC h=>by cases h))
 | int _=>exact a0t rfl g0n (no (λC h=>by cases h))
 | bl _=>exact a0t rfl f0r (no (λC h=>by cases h))
 | tup _=>exact a0t rfl f0j (no (λC h=>by cases h))
 | lst ds =>
  have hln1:ds.length<50:=by simp only[lnD,Bool.and_eq_true,decide_eq_true_eq]at hln;exact hln.1
  have hd1:(D.lst ds).depth<=60:=by omega
  refine cutS (λρ=>(∃C,ds=a0e C/\C≠[]/\∀i∈C,i<rows.length)/\ρ=[.vl (.lst ds),nv rows.length]) (λM hM=>?_) ?_
  ·refine a0t rfl d0m ?_
   refine⟨by simp,b0m (b:=decide (ds=[])) (d:=.lst ds) (e:=.lst []) rfl rfl hd1 (by cases ds <;> simp[eqD,eqDs]) ?_⟩
   by_cases hd0:ds=[]
   ·rw[decide_eq_true hd0]
    subst hd0
    have:plD rows (.lst [])=false:=n0f (C:=[]) (λ_ h=>nomatch h)
    rw[this]at hq
    exact hq
   ·rw[decide_eq_false hd0]
    refine⟨by omega,?_⟩
    have em:ds=ds.map id:=by simp
    rw[em]
    refine d0e id (λd=>.bl (d0w 0 ((rows.length:Int) - 1) d)) trivial (λd acc M2 hd hM2=>?_) ?_
    ·exact⟨rfl,d,0,_,rfl,hM2⟩
    ·refine v0v (bs:=ds.map λd=>d0w 0 ((rows.length:Int) - 1) d) (by rw[List.map_map];rfl) ?_
     cases ha:(ds.map λd=>d0w 0 ((rows.length:Int) - 1) d).all id with
     | true =>
      obtain⟨C,e,hC⟩:=l0t (n:=rows.length) (ds:=ds) λd hd=>by
       rw[List.all_map,List.all_eq_true]at ha
       exact ha d hd
      rw[<- em]
      exact hM _ ⟨⟨C,e,λz=>hd0 (by rw[e,z];rfl),hC⟩,rfl⟩
     | false =>
      rw[<- em]
      have:plD rows (.lst ds)=false:=by
       refine b_no f0o ?_
       rintro⟨C,e,hC,_⟩
       unfold lstN at e
       injection e with e
       subst e
       rw[List.all_map,List.all_eq_false]at ha
       obtain⟨d,hd,hw⟩:=ha
       obtain⟨i,hi,rfl⟩:=List.mem_map.mp hd
       have:=hC i hi
       exact hw (by show d0w 0 ((rows.length:Int) - 1) (nD i)=true;unfold nD d0w;simp;omega)
      rw[this]at hq
      exact hq
  rintro _ ⟨⟨C,rfl,cn,hC⟩,rfl⟩
  rw[show D.lst (a0e C)=lstN C from rfl,n0f hC]at hq
  rw[a0k]at hln1
  have cp:=List.length_pos_iff.mpr cn
  have e:plOk C=decide (((List.range (C.length - 1)).filter λi=>decide (C.getD (i+1) 0<=C.getD i 0))=[]):=by
   unfold plOk
   rw[decide_eq_decide]
   constructor
   ·rintro⟨_,up⟩
    rw[List.filter_eq_nil_iff]
    intro i hi
    rw[List.mem_range]at hi
    have:=m1v up (i:=i) (by omega)
    rw[decide_eq_true_eq];omega
   ·intro h
    refine⟨cn,m1u λi hi=>?_⟩
    have:=List.filter_eq_nil_iff.mp h i (List.mem_range.mpr (by omega))
    rw[decide_eq_true_eq]at this
    omega
  have el:(((a0e C).length:Nat):Int) - 1=((C.length - 1:Nat):Int):=by rw[a0k];omega
  refine⟨⟨by omega,by omega,by omega,by rw[a0k];omega⟩,by rw[d0s,el];omega,?_⟩
  rw[el,Int.toNat_natCast]
  unfold rngD
  refine e0e (λi:Nat=>D.int (1+(i:Nat))) (λi=>decide (C.getD (i+1) 0<=C.getD i 0)) (λi=>D.int (1+(i:Nat))) trivial (λi acc M2 hi hM2=>?_) ?_
  ·have hi':=List.mem_range.mp hi
   have e1:(1:Int)+(i:Nat) - 1=(i:Nat):=by omega
   have e2:(1:Int)+(i:Nat)=((i+1:Nat):Int):=by omega
   refine j0g (i:=1+(i:Nat) - 1) (ds:=a0e C) (d:=nD (C.getD i 0)) rfl (by rw[e1];exact c0c (by omega)) ?_
   refine j0g (i:=1+(i:Nat)) (ds:=a0e C) (d:=nD (C.getD (i+1) 0)) rfl (by rw[e2];exact c0c (by omega)) ?_
   have e3:decide (((C.getD (i+1) 0:Nat):Int)<=((C.getD i 0:Nat):Int))=decide (C.getD (i+1) 0<=C.getD i 0):=by rw[decide_eq_decide];omega
   show if decide (((C.getD (i+1) 0:Nat):Int)<=((C.getD i 0:Nat):Int))=true then _ else _
   rw[e3]
   by_cases h:decide (C.getD (i+1) 0<=C.getD i 0)=true
   ·rw[if_pos h]at hM2 ⊢
    exact hM2
   ·rw[if_neg h]at hM2 ⊢
    exact hM2
  refine⟨by simp,b0m (b:=plOk C) (e:=.lst []) rfl rfl ?_ ?_ hq⟩
  ·rw[show(λi:Nat=>D.int (1+(i:Nat)))=D.int ∘ λi:Nat=>(1+(i:Nat):Int)from rfl,<- List.map_map,D.depth,o0i]
   decide
  ·rw[r0r,e,decide_eq_decide,List.map_eq_nil_iff]
theorem s0y (dn:DefN K mg "_law_hangs" g0u ["_law_rows", "_law_places_here"])(B:BI mg):OkN P w K mg base 1 "_law_hangs" ["_law_rows", "_law_places_here"] (spA K w0i):=by
 refine dn.aok2 (k:=0) d0y (λj=>j==0||j==1) [.un,.un,.un,.un] w0i rfl (λf cdv A outer s H E hr=>have hu:=e0z hr;⟨_,(a0i (b0b (i:=2) d0y.nd rfl (by first | exact Or.inl rfl | exact Or.inr rfl) (c0b (c0g K) (pv 1) d0h (c0m a0j)))
  (a0i (h0p PassesOwn.never rfl (b0z K (pv 1)) (a0z (i:=3) d0y.nd rfl (by first | exact Or.inl rfl | exact Or.inr rfl))
  (a0i (b0b (i:=4) d0y.nd rfl (by first | exact Or.inl rfl | exact Or.inr rfl) a0j)
  (a0i (h0p PassesOwn.never rfl (b0z K (pv 2)) (a0z (i:=5) d0y.nd rfl (by first | exact Or.inl rfl | exact Or.inr rfl))
  (a0p (b0b (i:=4) d0y.nd rfl (by first | exact Or.inl rfl | exact Or.inr rfl) (a0x i1c (pv 4) (c0n (b0c K) (pv 0) (pv 5) (λ_ _=>rfl))))))
  (a0p (k0k (i:=2) ["_law_one"] [0,4] d0y.nd rfl (by first | exact Or.inl rfl | exact Or.inr rfl) rfl (Blk.of (a0m g0u) m0m) (b0z K (pv 1)) (λ_ _ _ _ nd=>(a0z (i:=0) nd rfl (by first | exact Or.inl rfl | exact Or.inr rfl))) (λ_ _ _ _=>(f0h (a0s (k0c K hr.units) (a0x m0j (c0n (b0c K) (pv 1) (pv 0) (λ_ _=>rfl)) (pv 2)) a0j (a0y _)))) (λ_ _ _ _=>(pv 0)))))))
  (a0p (b0d (f0z (c0e K hr.units) (pv 2) (pv 1) (a0y _)))))),(a0l (a0u (d0p a0b d0n (b0r a0g)) rfl)
  (a0l (f0m (pin:=(λj=>j==1)) (b0n a0b) (a0q rfl)
  (a0l (a0u a0g rfl)
  (a0l (f0m (pin:=(λj=>j==2)) (b0n a0b) (a0q rfl)
  (a0u (a0h a0w a0b (a0h b0p a0b a0b)) rfl))
  (h0a (b0t (b0n a0b) (a0q rfl) (a0o (a0h k0d (a0h a0w (a0h b0p a0b a0b) a0b) a0g)) a0b) rfl))))
  (a0v (a0h c0f a0b a0b))))⟩) ?_
 rintro ss q ⟨rows,C,rfl,hR,hC,hp,hq⟩
 have l24:=hR.l24
 have cl:=h0e hp hC
 have hh:=i1u hR hC hp
 refine⟨rfl,rfl,?_⟩
 refine cutS (λρ=>ρ=[.vl (.tup (a0e rows)),.vl (lstN C),.ow (a0e (hgN rows C 0)),.un,.un,.un]) (λM hM=>?_) ?_
 ·refine hM _ ?_
  have e:cutD (a0e C) none (some 1)=a0e (hgN rows C 0):=by
   unfold hgN a0e
   rw[show(1:Int)=((1:Nat):Int)from rfl,o0l,List.map_take]
  rw[<- e]
  rfl
 rintro _ rfl
 refine cutS (λρ=>∃s3 s4 s5,ρ=[.vl (.tup (a0e rows)),.vl (lstN C),.ow (a0e (hgN rows C C.length)),s3,s4,s5]) (λM hM=>?_) ?_
 ·refine i0i nD (λk ρ=>∃s3 s4 s5,ρ=[.vl (.tup (a0e rows)),.vl (lstN C),.ow (a0e (hgN rows C k)),s3,s4,s5]) (λ_ _ _=>trivial) ?_ (λρ ⟨s3,s4,s5,e⟩=>hM ρ ⟨s3,s4,s5,e⟩) ⟨.un,.un,.un,rfl⟩
  rintro k p _ M2 hk ⟨s3,s4,s5,rfl⟩ hM2
  have hin:∀i∈hgN rows C k,i<rows.length:=λi hi=>hC i ((o0e k).subset hi)
  have hle:=(o0e (rows:=rows) (C:=C) k).length_le
  refine cutS (λρ=>ρ=[.vl (.tup (a0e rows)),.vl (lstN C),.ow (a0e (hgN rows C k)),nv p,nv 0,s5]) (λM3 hM3=>hM3 _ rfl) ?_
  rintro _ rfl
  refine cutS (λρ=>∃s5,ρ=[.vl (.tup (a0e rows)),.vl (lstN C),.ow (a0e (hgN rows C k)),nv p,nv (orN rows (hgN rows C k)),s5]) (λM3 hM3=>⟨rfl,i0i nD (λj ρ=>∃s5,ρ=[.vl (.tup (a0e rows)),.vl (lstN C),.ow (a0e (hgN rows C k)),nv p,nv (orN rows ((hgN rows C k).take j)),s5]) (λ_ _ ⟨_,e⟩=>by rw[e];rfl) ?_ ?_ ⟨s5,rfl⟩⟩) ?_
  ·rintro j x _ M4 hj ⟨s5,rfl⟩ hM4
   have hx:=hin x (List.mem_of_getElem? hj)
   refine e0i (i:=x) (ds:=a0e rows) (d:=nD (rw1 rows x)) rfl (by rw[show rw1 rows x=rows.getD x 0 from rfl];exact c0c hx) ?_
   refine hM4 _ ⟨nv x,?_⟩
   have e:orN rows ((hgN rows C k).take (j+1))=orN rows ((hgN rows C k).take j) ||| rw1 rows x:=by
    unfold orN
    rw[List.take_add_one,hj,List.foldl_append];rfl
   rw[e,<- p0d (p0s _ _)]
   rfl
  ·rintro _ ⟨s5,rfl⟩
   rw[List.take_length]
   exact hM3 _ ⟨s5,rfl⟩
  rintro _ ⟨s5,rfl⟩
  refine⟨by rw[a0k];omega,?_⟩
  refine e0e nD (λp=>decide (rw1 rows p &&& orN rows (hgN rows C k)≠0)) nD trivial (λx acc M3 hx hM3=>?_) ?_
  ·have hx':=hC x hx
   refine e0i (i:=x) (ds:=a0e rows) (d:=nD (rw1 rows x)) rfl (by rw[show rw1 rows x=rows.getD x 0 from rfl];exact c0c hx') ?_
   refine b0m (b:=decide (rw1 rows x &&& orN rows (hgN rows C k)=0)) rfl rfl (by simp[D.depth]) ?_ ?_
   ·show eqD (.int (Builtin.bitAnd ((rw1 rows x:Nat):Int) ((orN rows (hgN rows C k):Nat):Int))) (.int 0)=_
    rw[k0s]
    unfold eqD
    show decide ((((rw1 rows x &&& orN rows (hgN rows C k):Nat)):Int)=0)=_
    rw[decide_eq_decide];omega
   ·by_cases h:rw1 rows x &&& orN rows (hgN rows C k)=0
    ·rw[decide_eq_true h]
     rw[if_neg (by simp[h])]at hM3
     exact hM3
    ·rw[decide_eq_false h]
     rw[if_pos (by simp[h])]at hM3
     exact hM3
  ·exact hM2 _ ⟨_,_,_,rfl⟩
 rintro _ ⟨s3,s4,s5,rfl⟩
 refine b0m (b:=k0a rows C) rfl rfl (d0d _) ?_ hq
 rw[<- hh,<- l0o];rfl
end
def s0g:ASp:=λss q=>∃(m:Nat) (rows:List Nat) (d:D),ss=[.vl (b0o m rows),.vl d]/\z0h m rows/\lnD d=true/\d.depth<=50/\(∀n,n0b rows d n->q (.d (.int n)) [.vl (b0o m rows),.vl d])/\((∀n,¬n0b rows d n)->q (.d .non) [.vl (b0o m rows),.vl d])
theorem i1b {m:Nat}{rows:List Nat}(h:z0h m rows){C:List Nat}(hC:∀i∈C,i<rows.length):orN rows C<2^m:=by
 have key:∀(C:List Nat) (a:Nat),(∀i∈C,i<rows.length)->a<2^m->C.foldl (λa i=>a ||| rw1 rows i) a<2^m:=by
  intro C
  induction C with
  | nil=>intro a _ h;exact h
  | cons c C ih =>
   intro a hc ha
   refine ih _ (λi hi=>hc i (List.mem_cons_of_mem _ hi)) (Nat.or_lt_two_pow ha ?_)
   refine h.2.2.2 _ ?_
   unfold rw1
   rw[List.getD_eq_getElem?_getD,List.getElem?_eq_getElem (hc c (List.mem_cons_self ..))]
   exact List.getElem_mem _
 exact key C 0 hC (Nat.two_pow_pos m)
theorem g1e {rows:List Nat}{x:Str}{e:D}{n:Int}(hx:x ≠ "hang")(h:n0b rows (.tup [.str x,e]) n):x = "unlike" /\ ∃ps,e=lstN ps/\(∀i∈ps,i<rows.length)/\h0z rows ps=true/\n=unlL rows ps:=by
 rcases h with⟨ps,e',a,b,c⟩ | ⟨L,e',_⟩
 ·injection e' with e'
  injection e' with e1 e2
  injection e1 with e1
  injection e2 with e2
  exact⟨e1,ps,e2,a,b,c⟩
 ·injection e' with e'
  injection e' with e1 e2
  injection e1 with e1
  exact absurd e1 hx
theorem g1f {rows:List Nat}{x:Str}{e:D}{n:Int}(hx:x ≠ "unlike")(h:n0b rows (.tup [.str x,e]) n):x = "hang" /\ ∃L:List (List Nat),e = .lst (L.map lstN)/\(∀C∈L,∀i∈C,i<rows.length)/\r0w rows L=true/\n=l0m rows L:=by
 rcases h with⟨ps,e',_⟩ | ⟨L,e',a,b,c⟩
 ·injection e' with e'
  injection e' with e1 e2
  injection e1 with e1
  exact absurd e1 hx
 ·injection e' with e'
  injection e' with e1 e2
  injection e1 with e1
  injection e2 with e2
  exact⟨e1,L,e2,a,b,c⟩
theorem b1i:∀ {a b:List (List Nat)},a.map lstN=b.map lstN->a=b
 | [],[],_=>rfl
 | [],_::_,h=>by cases h
 | _::_,[],h=>by cases h
 | x::a,y::b,h=>by
  rw[List.map_cons,List.map_cons,List.cons.injEq]at h
  rw[d0t h.1,b1i h.2]
theorem t0v:∀ {ds:List D} {d:D},d∈ds->d.depth<=depths ds
 | e::ds,d,h=>by
  simp only[depths]
  rcases List.mem_cons.mp h with rfl | q
  ·omega
  ·have:=t0v q;omega
section
variable {P:Program}{w:World}{K:PySem.W.Frag}{mg:Str->Option Value}{base:Heap}
theorem r0a (dn:DefN K mg "_law_number" c0j ["_law_wish_here", "_law_paper_here"])(B:BI mg)(g_law_places:OkN P w K mg base 2 "_law_places" ["_law_thing_here", "_law_many"] (spA K s0f))(g_law_hangs:OkN P w K mg base 1 "_law_hangs" ["_law_rows", "_law_places_here"] (spA K w0i))(g_law_weight:OkN P w K mg base 1 "_law_weight" ["_law_row"] (spA K n0l)):OkN P w K mg base 3 "_law_number" ["_law_wish_here", "_law_paper_here"] (spA K s0g):=by
 refine dn.aok2 (k:=2) c0h (λj=>j==0||j==1) [.un,.un,.un,.un,.un,.un] s0g rfl (λf cdv A outer s H E hr=>have hu:=e0z hr;⟨_,(a0i (b0b (i:=2) c0h.nd rfl (by first | exact Or.inl rfl | exact Or.inr rfl) (c0n (b0c K) (pv 0) a0j (λ_ _=>rfl)))
  (a0i (d0a (PW.pt (i0x (f0l (g0d (a0r (d0k K) rfl B.isinstance_ b0u (a0c (pv 1) (a0c (m0w rfl B.tuple_ j0x) a0f))))) (i0x (a0s (k0c K hr.units) (a0r (b0e K) rfl B.len_ c0q (a0c (pv 1) a0f)) a0j (a0y _)) (h0n (f0l (g0d (a0r (d0k K) rfl B.isinstance_ b0u (a0c (c0n (b0c K) (pv 1) a0j (λ_ _=>rfl)) (a0c (m0w rfl B.str_ m1g) a0f)))))))))
  (a0p (b0d i0z))
  b0g)
  (a0i (d0a (PW.pt (k0x (a0s (c0e K hr.units) (c0n (b0c K) (pv 1) a0j (λ_ _=>rfl)) c0x (a0y _)) (i0d (g0d (b0k g_law_places (hr.mono (by decide)) (a0c (c0n (b0c K) (pv 1) a0j (λ_ _=>rfl)) (a0c (a0r (b0e K) rfl B.len_ c0q (a0c (pv 2) a0f)) a0f)))))))
  (a0i (k0k (i:=3) ["_law_place"] [2] c0h.nd rfl (by first | exact Or.inl rfl | exact Or.inr rfl) rfl (Blk.of (a0m c0j) e0h) (b0z K (c0n (b0c K) (pv 1) a0j (λ_ _=>rfl))) (λ_ _ _ _ nd=>(a0z (i:=0) nd rfl (by first | exact Or.inl rfl | exact Or.inr rfl))) (λ_ _ _ _=>f0i) (λ_ _ _ _=>(c0n (b0c K) (pv 1) (pv 0) (λ_ _=>rfl))))
  (a0i (d0a (PW.pt (i0x (a0s s0v (s0r K rfl rfl B.len_ rfl B.set_ (a0c (pv 3) a0f)) (a0r (b0e K) rfl B.len_ c0q (a0c (pv 3) a0f)) (a0y _)) (h0n (a0s s0v (a0r (o0s K rfl) rfl B.min_ c1u (a0c (d0q ["_law_row"] [] rfl (Blk.of (a0m c0j) e0h) (b0z K (pv 3)) (λ_ _ _ _ nd=>(a0z (i:=0) nd rfl (by first | exact Or.inl rfl | exact Or.inr rfl))) (λ_ _ _ _=>f0i) (λ_ _ _ _=>(b0k g_law_weight (hr.mono (by decide)) (a0c (pv 0) a0f)))) a0f)) a0j (a0y _)))))
  (a0p (b0d i0z))
  b0g)
  (a0p (b0d (a0x g0w (a0x e0d (a0r (b0e K) rfl B.len_ c0q (a0c (pv 3) a0f)) (a0r (o0s K rfl) rfl B.min_ c1u (a0c (d0q ["_law_row"] [] rfl (Blk.of (a0m c0j) e0h) (b0z K (pv 3)) (λ_ _ _ _ nd=>(a0z (i:=0) nd rfl (by first | exact Or.inl rfl | exact Or.inr rfl))) (λ_ _ _ _=>f0i) (λ_ _ _ _=>(b0k g_law_weight (hr.mono (by decide)) (a0c (pv 0) a0f)))) a0f))) a0j)))))
  b0g)
  (a0i (d0a (PW.pt (i0x (a0s (k0c K hr.units) (c0n (b0c K) (pv 1) a0j (λ_ _=>rfl)) c0x (a0y _)) (i0x (f0l (g0d (a0r (d0k K) rfl B.isinstance_ b0u (a0c (c0n (b0c K) (pv 1) a0j (λ_ _=>rfl)) (a0c (m0w rfl B.list_ o0u) a0f))))) (h0n (a0s (c0e K hr.units) (c0n (b0c K) (pv 1) a0j (λ_ _=>rfl)) (b0w a0f) (a0y _))))))
  (a0p (b0d i0z))
  b0g)
  (a0i (b0b (i:=4) c0h.nd rfl (by first | exact Or.inl rfl | exact Or.inr rfl) (b0w a0f))
  (a0i (b0b (i:=5) c0h.nd rfl (by first | exact Or.inl rfl | exact Or.inr rfl) a0j)
  (a0i (h0p PassesOwn.never rfl (b0z K (c0n (b0c K) (pv 1) a0j (λ_ _=>rfl))) (a0z (i:=6) c0h.nd rfl (by first | exact Or.inl rfl | exact Or.inr rfl))
  (a0i (d0a (PW.pt (i0x (f0l (g0d (b0k g_law_places (hr.mono (by decide)) (a0c (pv 6) (a0c (a0r (b0e K) rfl B.len_ c0q (a0c (pv 2) a0f)) a0f))))) (h0n (f0l (g0d (b0k g_law_hangs (hr.mono (by decide)) (a0c (pv 2) (a0c (pv 6) a0f))))))))
  (a0p (b0d i0z))
  b0g)
  (a0i (e1f (i:=7) ["_law_k"] [6,2] c0h.nd rfl (by first | exact Or.inl rfl | exact Or.inr rfl) rfl (BlkC.of (a0m c0j) e0h) (e0q rfl B.range_ (a0c (c0n (b0c K) (pv 0) a0j (λ_ _=>rfl)) a0f)) (λ_ _ _ _ nd=>(a0z (i:=0) nd rfl (by first | exact Or.inl rfl | exact Or.inr rfl))) (λ_ _ _ _=>(f0h (a0s (k0c K hr.units) (d0q ["_law_at"] [2,0] rfl (Blk.inC (a0m c0j) ["_law_k", "_law_places_here", "_law_rows"]) (b0z K (pv 1)) (λ_ _ _ _ nd=>(a0z (i:=0) nd rfl (by first | exact Or.inl rfl | exact Or.inr rfl))) (λ_ _ _ _=>(f0h (a0s (c0e K hr.units) (a0x m0j (a0x x0g (c0n (b0c K) (pv 1) (pv 0) (λ_ _=>rfl)) (pv 2)) a0j) a0j (a0y _)))) (λ_ _ _ _=>(pv 0))) (b0w a0f) (a0y _)))) (λ_ _ _ _=>(pv 0)))
  (a0i (d0a (a0s (k0c K hr.units) (d0q ["_law_k"] [4] rfl (Blk.of (a0m c0j) e0h) (b0z K (pv 7)) (λ_ _ _ _ nd=>(a0z (i:=0) nd rfl (by first | exact Or.inl rfl | exact Or.inr rfl))) (λ_ _ _ _=>(f0h (a0s (y0o K) (pv 0) (pv 1) rfl))) (λ_ _ _ _=>(pv 0))) (b0w a0f) (a0y _))
  (a0p (b0d i0z))
  b0g)
  (a0i (b0b (i:=4) c0h.nd rfl (by first | exact Or.inl rfl | exact Or.inr rfl) (a0x (c0o K) (pv 4) (pv 7)))
  (a0p (b0b (i:=5) c0h.nd rfl (by first | exact Or.inl rfl | exact Or.inr rfl) (a0x g0w (a0x e0d (pv 5) (a0r (b0e K) rfl B.len_ c0q (a0c (pv 7) a0f))) a0j))))))))
  (a0p (b0d (pv 5)))))))))),(a0l (a0u (a0h b0p a0b a0g) rfl)
  (a0l (b0v (d0x (c0r (f0s (b0f e0u (a0a a0b (a0a i0p a0d))))) (d0x (a0o (a0h k0d (b0f b0q (a0a a0b a0d)) a0g)) (c0r (f0s (b0f e0u (a0a (a0h b0p a0b a0g) (a0a i0p a0d)))))))
  (a0v g0q)
  b0a)
  (a0l (b0v (g0z (a0o (a0h c0f (a0h b0p a0b a0g) d0o)) (f0s (a0n (a0a (a0h b0p a0b a0g) (a0a (b0f b0q (a0a a0b a0d)) a0d)))))
  (a0l (h0a (b0t (b0n (a0h b0p a0b a0g)) (a0q rfl) d0r (a0h b0p a0b a0b)) rfl)
  (a0l (b0v (d0x (a0o (a0h c0i (p0l (a0a a0b a0d)) (b0f b0q (a0a a0b a0d)))) (a0o (a0h c0i (b0f o0r (a0a (b0t (b0n a0b) (a0q rfl) d0r (a0n (a0a a0b a0d))) a0d)) a0g)))
  (a0v g0q)
  b0a)
  (a0v (a0h a0w (a0h a0w (b0f b0q (a0a a0b a0d)) (b0f o0r (a0a (b0t (b0n a0b) (a0q rfl) d0r (a0n (a0a a0b a0d))) a0d))) a0g))))
  b0a)
  (a0l (b0v (d0x (a0o (a0h k0d (a0h b0p a0b a0g) d0o)) (d0x (c0r (f0s (b0f e0u (a0a (a0h b0p a0b a0g) (a0a i0p a0d))))) (a0o (a0h c0f (a0h b0p a0b a0g) (b0i a0d)))))
  (a0v g0q)
  b0a)
  (a0l (a0u (b0i a0d) rfl)
  (a0l (a0u a0g rfl)
  (a0l (f0m (pin:=(λ_=>false)) (b0n (a0h b0p a0b a0g)) (a0q rfl)
  (a0l (b0v (d0x (c0r (f0s (a0n (a0a a0b (a0a (b0f b0q (a0a a0b a0d)) a0d))))) (c0r (f0s (a0n (a0a a0b (a0a a0b a0d))))))
  (a0v g0q)
  b0a)
  (a0l (h0a (b0t (e0l (a0a (a0h b0p a0b a0g) a0d)) (a0q rfl) (a0o (a0h k0d (b0t (b0n a0b) (a0q rfl) (a0o (a0h c0f (a0h a0w (a0h e0y (a0h b0p a0b a0b) a0b) a0g) a0g)) a0b) (b0i a0d))) a0b) rfl)
  (a0l (b0v (a0o (a0h k0d (b0t (b0n a0b) (a0q rfl) (a0o (a0h (x0i false) a0b a0b)) a0b) (b0i a0d)))
  (a0v g0q)
  b0a)
  (a0l (a0u (a0h c0p a0b a0b) rfl)
  (a0u (a0h a0w (a0h a0w a0b (b0f b0q (a0a a0b a0d))) a0g) rfl))))))
  (a0v a0b))))))))⟩) ?_
 rintro ss q ⟨m,rows,d,rfl,hRM,hln,hdp,hqn,hq0⟩
 have hR:=hRM.2.2.1
 have l24:=hR.l24
 refine⟨rfl,rfl,?_⟩
 refine cutS (λρ=>ρ=[.vl (b0o m rows),.vl d,.vl (.tup (a0e rows)),.un,.un,.un,.un,.un]) (λM hM=>e0i (i:=1) (ds:=[nD m,.tup (a0e rows)]) (d:=.tup (a0e rows)) rfl rfl (hM _ rfl)) ?_
 rintro _ rfl
 have no:(∀x e,d ≠ .tup [.str x,e])->q (.d .non) [.vl (b0o m rows),.vl d]:=λh=>hq0 (by
  rintro n (⟨ps,e,_⟩ | ⟨L,e,_⟩)
  ·exact h _ _ e
  ·exact h _ _ e)
 refine cutS (λρ=>(∃x e,d = .tup [.str x,e])/\ρ=[.vl (b0o m rows),.vl d,.vl (.tup (a0e rows)),.un,.un,.un,.un,.un]) (λM hM=>?_) ?_
 ·cases d with
  | non=>exact a0t rfl k0h (no (λ_ _ h=>by cases h))
  | str _=>exact a0t rfl k0g (no (λ_ _ h=>by cases h))
  | int _=>exact a0t rfl k0i (no (λ_ _ h=>by cases h))
  | bl _=>exact a0t rfl j0f (no (λ_ _ h=>by cases h))
  | lst _=>exact a0t rfl j0e (no (λ_ _ h=>by cases h))
  | tup ds =>
   refine a0t rfl i0t (b0m (b:=decide (ds.length=2)) rfl rfl (by simp[D.depth]) (by
    unfold eqD
    show decide (((ds.length:Nat):Int)=2)=_
    rw[decide_eq_decide];omega) ?_)
   by_cases hl:ds.length=2
   ·rw[decide_eq_true hl]
    match ds,hl with
    | [x,e],_ =>
     refine e0i (i:=0) (ds:=[x,e]) (d:=x) rfl rfl ?_
     cases x with
     | str x=>exact a0t rfl t0i (hM _ ⟨⟨x,e,rfl⟩,rfl⟩)
     | non=>exact a0t rfl t0j (no (λ_ _ h=>by cases h))
     | int _=>exact a0t rfl t0k (no (λ_ _ h=>by cases h))
     | bl _=>exact a0t rfl r0h (no (λ_ _ h=>by cases h))
     | lst _=>exact a0t rfl r0g (no (λ_ _ h=>by cases h))
     | tup _=>exact a0t rfl p0h (no (λ_ _ h=>by cases h))
   ·rw[decide_eq_false hl]
    exact no (λx e h=>by injection h with h;rw[h]at hl;exact hl rfl)
 rintro _ ⟨⟨x,e,rfl⟩,rfl⟩
 clear no
 simp only[lnD,lnDs,Bool.and_eq_true]at hln
 simp only[D.depth,depths]at hdp
 have unl_pl:∀ps,h0z rows ps=true->plOk ps=true:=λps h=>by
  unfold h0z at h
  rw[Bool.and_eq_true,Bool.and_eq_true]at h
  exact h.1.1
 refine cutS (λρ=>(x ≠ "unlike" ∨ plD rows e=false)/\ρ=[.vl (b0o m rows),.vl (.tup [.str x,e]),.vl (.tup (a0e rows)),.un,.un,.un,.un,.un]) (λM hM=>?_) ?_
 ·have ex:eqD (.str x) (.str "unlike")=decide (x = "unlike"):=rfl
  by_cases hx:x = "unlike"
  ·subst hx
   refine e0i (i:=0) (ds:=[.str "unlike",e]) (d:=.str "unlike") rfl rfl (b0m (b:=true) rfl rfl (by simp[D.depth]) (by rw[ex];rfl) ?_)
   refine e0i (i:=1) (ds:=[.str "unlike",e]) (d:=e) rfl rfl ?_
   refine⟨rfl,rows,e,by rw[a0k];rfl,hR,hln.2.2.1,by omega,?_⟩
   cases hp:plD rows e with
   | false=>exact hM _ ⟨.inr hp,rfl⟩
   | true =>
    obtain⟨ps,rfl,hps,hpl⟩:=f0o.mp hp
    have hl:=h0e hpl hps
    have hn:=(of_decide_eq_true hpl).1
    dsimp only[if_true]
    rw[if_pos rfl]
    refine cutS (λρ=>ρ=[.vl (b0o m rows),.vl (.tup [.str "unlike",lstN ps]),.vl (.tup (a0e rows)),.ow (a0e (subR rows ps)),.un,.un,.un,.un]) (λM2 hM2=>by
     refine e0i (i:=1) (ds:=[.str "unlike",lstN ps]) (d:=lstN ps) rfl rfl ?_
     refine⟨by rw[a0k];omega,?_⟩
     have e0:a0e (subR rows ps)=ps.map λp=>nD (rw1 rows p):=by unfold a0e subR;rw[List.map_map];rfl
     refine d0e nD (λp=>nD (rw1 rows p)) trivial (λp acc M3 hp hM3=>?_) (by rw[<- e0];exact hM2 _ rfl)
     exact e0i (i:=p) (ds:=a0e rows) (d:=nD (rw1 rows p)) rfl (by rw[show rw1 rows p=rows.getD p 0 from rfl];exact c0c (hps p hp)) hM3) ?_
    rintro _ rfl
    have hnum:h0z rows ps=true->q (.d (.int (unlL rows ps))) [.vl (b0o m rows),.vl (.tup [.str "unlike",lstN ps])]:=λh=>hqn _ (.inl ⟨ps,rfl,hps,h,rfl⟩)
    have hnon:h0z rows ps=false->q (.d .non) [.vl (b0o m rows),.vl (.tup [.str "unlike",lstN ps])]:=λh=>hq0 λn hn=>by
     obtain⟨_,ps',h1,_,h3,_⟩:=g1e (by decide) hn
     rw[<- d0t h1,h]at h3;cases h3
    have ci:(castL (subR rows ps)).Nodup↔(subR rows ps).Nodup:=by
     unfold castL
     constructor
     ·intro h
      exact(List.pairwise_map.mp h).imp λh e=>h (by rw[e])
     ·intro h
      exact List.pairwise_map.mpr (h.imp λh e=>h (Int.ofNat_inj.mp e))
    have len:(castL (subR rows ps)).length=(a0e (subR rows ps)).length:=by unfold castL a0e;rw[List.length_map,List.length_map]
    have sln:(a0e (subR rows ps)).length=ps.length:=by rw[a0k,e0v]
    have cle:cntS (castL (subR rows ps))<=(castL (subR rows ps)).length:=PyProof.Rows.firstMet_length_le (λi=>(castL (subR rows ps)).getD i 0) _
    have mins:∀ {ρ:En} {q:Ko},ps≠[]->(∀M:Int,M∈ps.map (λp=>((wt (rw1 rows p):Nat):Int))->(∀a∈ps.map (λp=>((wt (rw1 rows p):Nat):Int)),M<=a)->q (.d (.int M)) ρ)->gMin1 [R.frz (.f (ps.map λp=>nD (wt (rw1 rows p))))] ρ q:=λhn h=>r0l (ns:=ps.map λp=>((wt (rw1 rows p):Nat):Int)) (by rw[List.map_map];rfl) (λz=>hn (List.map_eq_nil_iff.mp z)) h
    have hr4:∀r∈subR rows ps,r<4096:=λr hr=>by
     unfold subR at hr
     obtain⟨i,hi,rfl⟩:=List.mem_map.mp hr
     exact(hR.at (hps i hi)).2
    have em:(subR rows ps).map (λr=>nD (wt r))=ps.map λp=>nD (wt (rw1 rows p)):=by unfold subR;rw[List.map_map];rfl
    refine cutS (λρ=>h0z rows ps=true/\ρ=[.vl (b0o m rows),.vl (.tup [.str "unlike",lstN ps]),.vl (.tup (a0e rows)),.ow (a0e (subR rows ps)),.un,.un,.un,.un]) (λM2 hM2=>?_) ?_
    ·refine q0a (ns:=castL (subR rows ps)) (by rw[e0r];rfl) (by unfold castL;rw[List.length_map,e0v];omega) ?_
     have go:decide ((((cntS (castL (subR rows ps)):Nat):Int))<(((a0e (subR rows ps)).length:Nat):Int)) = !decide (subR rows ps).Nodup:=by
      rw[Bool.eq_iff_iff,decide_eq_true_eq,Bool.not_eq_true',decide_eq_false_iff_not,<- ci,<- x0t]
      omega
     show if decide ((((cntS (castL (subR rows ps)):Nat):Int))<(((a0e (subR rows ps)).length:Nat):Int))=true then _ else _
     rw[go]
     by_cases hnd:(subR rows ps).Nodup
     ·rw[decide_eq_true hnd]
      refine⟨rfl,by rw[sln];omega,?_⟩
      refine d0e nD (λr=>nD (wt r)) rfl (λr acc M3 hr hM3=>⟨rfl,r,rfl,hr4 r hr,hM3⟩) ?_
      rw[em]
      refine mins hn λMn h1 h2=>?_
      obtain⟨p0,hp0,rfl⟩:=List.mem_map.mp h1
      have e2:h0z rows ps = !decide (wt (rw1 rows p0)<2):=by
       unfold h0z
       rw[hpl,decide_eq_true hnd,Bool.true_and,Bool.true_and,Bool.eq_iff_iff,List.all_eq_true,Bool.not_eq_true',decide_eq_false_iff_not]
       constructor
       ·intro h
        have:=of_decide_eq_true (h p0 hp0)
        omega
       ·intro h p hp
        have:=h2 _ (List.mem_map.mpr ⟨p,hp,rfl⟩)
        exact decide_eq_true (by omega)
      show if decide (((wt (rw1 rows p0):Nat):Int)<2)=true then _ else _
      have e3:decide (((wt (rw1 rows p0):Nat):Int)<2)=decide (wt (rw1 rows p0)<2):=by rw[decide_eq_decide];omega
      rw[e3]
      by_cases h5:wt (rw1 rows p0)<2
      ·rw[decide_eq_true h5]at e2 ⊢
       exact hnon e2
      ·rw[decide_eq_false h5]at e2 ⊢
       exact hM2 _ ⟨e2,rfl⟩
     ·rw[decide_eq_false hnd]
      exact hnon (by unfold h0z;rw[decide_eq_false hnd,Bool.and_false,Bool.false_and])
    rintro _ ⟨hok,rfl⟩
    refine⟨rfl,by rw[sln];omega,?_⟩
    refine d0e nD (λr=>nD (wt r)) rfl (λr acc M3 hr hM3=>⟨rfl,r,rfl,hr4 r hr,hM3⟩) ?_
    rw[em]
    refine mins hn λMn h1 h2=>?_
    have:=hnum hok
    unfold unlL at this
    rw[b1f h1 h2]at this
    show q (.d (.int ((((a0e (subR rows ps)).length:Nat):Int)+Mn - 2))) _
    rw[sln]
    exact this
  ·refine e0i (i:=0) (ds:=[.str x,e]) (d:=.str x) rfl rfl (b0m (b:=false) rfl rfl (by simp[D.depth]) (by rw[ex,decide_eq_false hx]) ?_)
   exact hM _ ⟨.inl hx,rfl⟩
 rintro _ ⟨hx,rfl⟩
 have nn:x ≠ "hang" -> ∀n,¬n0b rows (.tup [.str x,e]) n:=λh n hn=>by
  obtain⟨h1,ps,rfl,h2,h3,_⟩:=g1e h hn
  rcases hx with z | z
  ·exact z h1
  ·have:=f0o.mpr ⟨ps,rfl,h2,unl_pl ps h3⟩
   rw[z]at this;cases this
 refine cutS (λρ=>(∃ds,ds≠[]/\x = "hang" /\ e = .lst ds)/\ρ=[.vl (b0o m rows),.vl (.tup [.str x,e]),.vl (.tup (a0e rows)),.un,.un,.un,.un,.un]) (λM hM=>?_) ?_
 ·have ex:eqD (.str x) (.str "hang")=decide (x = "hang"):=rfl
  refine e0i (i:=0) (ds:=[.str x,e]) (d:=.str x) rfl rfl (b0m (b:=decide (x = "hang")) rfl rfl (by simp[D.depth]) ex ?_)
  by_cases hh:x = "hang"
  ·rw[decide_eq_true hh]
   have out:(∀ds,e = .lst ds->ds=[])->q (.d .non) [.vl (b0o m rows),.vl (.tup [.str x,e])]:=λh=>hq0 λn hn=>by
    obtain⟨_,L,h1,h2,h3,_⟩:=g1f (by rw[hh];decide) hn
    have:=h _ h1
    rw[List.map_eq_nil_iff.mp this]at h3
    cases h3
   refine e0i (i:=1) (ds:=[.str x,e]) (d:=e) rfl rfl ?_
   cases e with
   | non=>exact a0t rfl g0m (out (λ_ h=>by cases h))
   | str _=>exact a0t rfl g0l (out (λ_ h=>by cases h))
   | int _=>exact a0t rfl g0n (out (λ_ h=>by cases h))
   | bl _=>exact a0t rfl f0r (out (λ_ h=>by cases h))
   | tup _=>exact a0t rfl f0j (out (λ_ h=>by cases h))
   | lst ds =>
    refine a0t rfl d0m ?_
    refine e0i (i:=1) (ds:=[.str x,.lst ds]) (d:=.lst ds) rfl rfl ?_
    refine⟨by simp,b0m (b:=decide (ds=[])) (d:=.lst ds) (e:=.lst []) rfl rfl (by omega) (r0r ds) ?_⟩
    by_cases hd:ds=[]
    ·rw[decide_eq_true hd]
     exact out (λds' h=>by injection h with h;rw[<- h];exact hd)
    ·rw[decide_eq_false hd]
     exact hM _ ⟨⟨ds,hd,hh,rfl⟩,rfl⟩
  ·rw[decide_eq_false hh]
   exact hq0 (nn hh)
 rintro _ ⟨⟨ds,hne,rfl,rfl⟩,rfl⟩
 clear nn hx
 have hcl:∀n,n0b rows (.tup [.str "hang",.lst ds]) n->goD rows ds 0=true:=λn hn=>by
  obtain⟨_,L,h1,h2,h3,_⟩:=g1f (by decide) hn
  rw[<- c1r hne]
  exact k0p.mpr ⟨L,h1,h2,h3⟩
 have out:goD rows ds 0=false->q (.d .non) [.vl (b0o m rows),.vl (.tup [.str "hang",.lst ds])]:=λh=>hq0 λn hn=>by
  have:=hcl n hn
  rw[h]at this;cases this
 simp only[lnD,Bool.and_eq_true,decide_eq_true_eq]at hln
 have hall:=r0f hln.2.2.1.2
 have hl5:=hln.2.2.1.1
 simp only[D.depth,depths]at hdp
 refine cutS (λρ=>ρ=[.vl (b0o m rows),.vl (.tup [.str "hang",.lst ds]),.vl (.tup (a0e rows)),.un,.ow [],.un,.un,.un]) (λM hM=>⟨by simp,hM _ rfl⟩) ?_
 rintro _ rfl
 refine cutS (λρ=>ρ=[.vl (b0o m rows),.vl (.tup [.str "hang",.lst ds]),.vl (.tup (a0e rows)),.un,.ow [],.vl (.int 0),.un,.un]) (λM hM=>hM _ rfl) ?_
 rintro _ rfl
 refine cutS (λρ=>∃(L:List (List Nat)) (s4 s6 s7:Sv),ds=L.map lstN/\(∀C∈L,∀i∈C,i<rows.length)/\r0w rows L=true/\ρ=[.vl (b0o m rows),.vl (.tup [.str "hang",.lst ds]),.vl (.tup (a0e rows)),.un,s4,.vl (.int (l0m rows L)),s6,s7]) (λM hM=>e0i (i:=1) (ds:=[.str "hang",.lst ds]) (d:=.lst ds) rfl rfl ?_) ?_
 ·refine j0v (λk ρ=>∃(L:List (List Nat)) (tk:Nat) (ms:List Nat) (s6 s7:Sv),ds.take k=L.map lstN/\(∀C∈L,∀i∈C,i<rows.length)/\goD rows ds 0=goD rows (ds.drop k) tk/\(∀x,x∈ms↔tk.testBit x=true)/\ms.length<=12*k/\ρ=[.vl (b0o m rows),.vl (.tup [.str "hang",.lst ds]),.vl (.tup (a0e rows)),.un,.ow (a0e ms),.vl (.int (l0m rows L)),s6,s7]) (λ_ _ _ _=>trivial) ?_ ?_ _ ⟨[],0,[],.un,.un,rfl,(λ_ h=>nomatch h),rfl,by simp,by simp,rfl⟩
  ·rintro k d _ M2 hk ⟨L,tk,ms,s6,s7,htk,hL,hgo,hms,hml,rfl⟩ hM2
   have hkl:=(List.getElem?_eq_some_iff.mp hk).1
   have hd:ds.drop k=d::ds.drop (k+1):=by
    have lt:=(List.getElem?_eq_some_iff.mp hk).1
    rw[List.drop_eq_getElem_cons lt]
    congr 1
    rw[List.getElem?_eq_getElem lt]at hk
    exact Option.some.inj hk
   rw[hd]at hgo
   have hld:=hall d (List.mem_of_getElem? hk)
   have hdd:d.depth<=50:=by
    have:=t0v (List.mem_of_getElem? hk)
    omega
   have no:(¬ ∃C,d=lstN C/\(∀i∈C,i<rows.length)/\plOk C=true/\k0a rows C=true/\tk &&& orN rows C=0/\goD rows (ds.drop (k+1)) (tk ||| orN rows C)=true)->goD rows ds 0=false:=λh=>by rw[hgo];exact b_no n0i h
   refine cutS (λρ=>∃C,d=lstN C/\(∀i∈C,i<rows.length)/\plOk C=true/\k0a rows C=true/\ρ=[.vl (b0o m rows),.vl (.tup [.str "hang",.lst ds]),.vl (.tup (a0e rows)),.un,.ow (a0e ms),.vl (.int (l0m rows L)),.vl (lstN C),s7]) (λM3 hM3=>⟨rfl,rows,d,by rw[a0k];rfl,hR,hld,hdd,?_⟩) ?_
   ·cases h1:plD rows d with
    | false =>
     exact out (no (by
      rintro⟨C,e,a,b,_⟩
      have:=f0o.mpr ⟨C,e,a,b⟩
      rw[h1]at this;cases this))
    | true =>
     obtain⟨C,rfl,c3,c4⟩:=f0o.mp h1
     refine⟨rfl,rows,C,rfl,hR,c3,c4,?_⟩
     cases h2:k0a rows C with
     | false =>
      exact out (no (by
       rintro⟨C',e,_,_,b,_⟩
       rw[<- d0t e,h2]at b;cases b))
     | true=>exact hM3 _ ⟨C,rfl,c3,c4,h2,rfl⟩
   rintro _ ⟨C,rfl,c3,c4,h2,rfl⟩
   have c5:=h0e c4 c3
   have olt:=i1b hRM c3
   have ep:((List.range m).filter (orN rows C).testBit)=d0g (orN rows C):=p0y olt
   have wle:(d0g (orN rows C)).length<=12:=g1j (Nat.lt_of_lt_of_le olt (Nat.pow_le_pow_right (n:=2) (by decide) hRM.2.1))
   refine cutS (λρ=>ρ=[.vl (b0o m rows),.vl (.tup [.str "hang",.lst ds]),.vl (.tup (a0e rows)),.un,.ow (a0e ms),.vl (.int (l0m rows L)),.vl (lstN C),.ow (a0e (d0g (orN rows C)))]) (λM3 hM3=>e0i (i:=0) (ds:=[nD m,.tup (a0e rows)]) (d:=nD m) rfl rfl ?_) ?_
   ·refine⟨⟨by have:=hRM.2.1;omega,by have:=hRM.2.1;omega⟩,by rw[d0s];have:=hRM.2.1;omega,?_⟩
    rw[Int.toNat_natCast]
    unfold rngD
    refine e0e (λi:Nat=>D.int (0+(i:Nat))) (orN rows C).testBit nD trivial (λj acc M4 hj hM4=>?_) (hM3 _ (by rw[<- ep];rfl))
    rw[Int.zero_add]
    refine⟨by rw[a0k];omega,?_⟩
    refine e0e nD (λa=>(rw1 rows a).testBit j) nD trivial (λa acc2 M5 ha hM5=>?_) ?_
    ·refine e0i (i:=a) (ds:=a0e rows) (d:=nD (rw1 rows a)) rfl (by rw[show rw1 rows a=rows.getD a 0 from rfl];exact c0c (c3 a ha)) ?_
     refine⟨by omega,b0m (b:=(rw1 rows a).testBit j) rfl rfl (by simp[D.depth]) (c1z _ _) ?_⟩
     cases hb:(rw1 rows a).testBit j with
     | true=>rw[if_pos hb]at hM5;exact hM5
     | false=>rw[if_neg (by rw[hb];simp)]at hM5;exact hM5
    ·refine⟨by simp,b0m (b:=!(orN rows C).testBit j) (e:=.lst []) rfl rfl (d0d _) ?_ ?_⟩
     ·rw[r0r,Bool.eq_iff_iff,decide_eq_true_eq,Bool.not_eq_true',<- Bool.not_eq_true,e1j,List.map_eq_nil_iff,List.filter_eq_nil_iff]
      constructor
      ·rintro h ⟨i,hi,hb⟩
       exact h i hi hb
      ·intro h i hi hb
       exact h ⟨i,hi,hb⟩
     ·cases hb:(orN rows C).testBit j with
      | true=>rw[if_pos hb]at hM4;exact hM4
      | false=>rw[if_neg (by rw[hb];simp)]at hM4;exact hM4
   rintro _ rfl
   refine cutS (λρ=>tk &&& orN rows C=0/\ρ=[.vl (b0o m rows),.vl (.tup [.str "hang",.lst ds]),.vl (.tup (a0e rows)),.un,.ow (a0e ms),.vl (.int (l0m rows L)),.vl (lstN C),.ow (a0e (d0g (orN rows C)))]) (λM3 hM3=>?_) ?_
   ·refine⟨rfl,by rw[a0k];omega,?_⟩
    refine e0e nD (λk=>ms.contains k) nD rfl (λx acc M4 hx hM4=>?_) ?_
    ·refine x0q (xs:=ms) rfl ?_
     cases hb:ms.contains x with
     | true=>rw[if_pos hb]at hM4;exact hM4
     | false=>rw[if_neg (by rw[hb];simp)]at hM4;exact hM4
    ·refine⟨by simp,b0m (b:=decide (tk &&& orN rows C=0)) (e:=.lst []) rfl rfl (d0d _) ?_ ?_⟩
     ·rw[r0r,decide_eq_decide,List.map_eq_nil_iff,List.filter_eq_nil_iff]
      constructor
      ·intro h
       refine Nat.eq_of_testBit_eq λx=>?_
       rw[Nat.testBit_and,Nat.zero_testBit,Bool.and_eq_false_iff]
       cases h1:(orN rows C).testBit x with
       | false=>exact .inr rfl
       | true =>
        left
        cases h4:tk.testBit x with
        | false=>rfl
        | true=>exact absurd (by rw[List.contains_iff_mem,hms];exact h4) (h x (v0s.mpr h1))
      ·intro h x hx hc
       rw[List.contains_iff_mem,hms]at hc
       exact u0k h hc (v0s.mp hx)
     ·by_cases h3:tk &&& orN rows C=0
      ·rw[decide_eq_true h3]
       exact hM3 _ ⟨h3,rfl⟩
      ·rw[decide_eq_false h3]
       exact out (no (by
        rintro⟨C',e,_,_,_,b,_⟩
        rw[<- d0t e]at b;exact h3 b))
   rintro _ ⟨h3,rfl⟩
   refine cutS (λρ=>ρ=[.vl (b0o m rows),.vl (.tup [.str "hang",.lst ds]),.vl (.tup (a0e rows)),.un,.ow (a0e (ms++d0g (orN rows C))),.vl (.int (l0m rows L)),.vl (lstN C),.ow (a0e (d0g (orN rows C)))]) (λM3 hM3=>⟨by rw[a0k,a0k];omega,?_⟩) ?_
   ·refine hM3 _ ?_
    unfold a0e
    rw[List.map_append];rfl
   rintro _ rfl
   refine hM2 _ ⟨L++[C],tk ||| orN rows C,ms++d0g (orN rows C),.vl (lstN C),.ow (a0e (d0g (orN rows C))),?_,?_,?_,?_,?_,?_⟩
   ·rw[List.take_add_one,hk,htk,List.map_append];rfl
   ·intro C' hC'
    rcases List.mem_append.mp hC' with h | h
    ·exact hL C' h
    ·rw[List.mem_singleton.mp h];exact c3
   ·rw[hgo,Bool.eq_iff_iff,n0i]
    constructor
    ·rintro⟨C',e,_,_,_,_,b⟩
     rw[<- d0t e]at b;exact b
    ·intro b
     exact⟨C,rfl,c3,c4,h2,h3,b⟩
   ·intro x
    rw[List.mem_append,hms,v0s,Nat.testBit_or,Bool.or_eq_true]
   ·rw[List.length_append];omega
   ·have:l0m rows (L++[C])=l0m rows L+(((a0e (d0g (orN rows C))).length:Nat):Int) - 1:=by
     unfold l0m
     rw[List.map_append,List.sum_append,a0k]
     simp[wt]
     omega
    rw[this]
    rfl
  ·rintro _ ⟨L,tk,ms,s6,s7,htk,hL,hgo,hms,hml,rfl⟩
   rw[List.take_length]at htk
   rw[List.drop_length]at hgo
   have h1:goD rows ds 0=true:=by rw[hgo];exact l0z.mpr ⟨[],rfl,(λ_ h=>nomatch h),rfl⟩
   rw[<- c1r hne,k0p]at h1
   obtain⟨L',e,h2,h3⟩:=h1
   injection e with e
   have:L=L':=b1i (htk.symm.trans e)
   subst this
   exact hM _ ⟨L,_,s6,s7,e,hL,h3,rfl⟩
 rintro _ ⟨L,s4,s6,s7,e,hL,hok,rfl⟩
 exact hqn _ (.inr ⟨L,by rw[e],hL,hok,rfl⟩)
end
end K68
set_option maxHeartbeats 4000000
namespace K68
open PySem PySem.Spec PyProof.Rows L2
def lfD:D->Bool
 | .int i=>decide (-1<=i/\i<10000000000000000000000000000000000000000000000000000000000000000000000)
 | .str x=>x.cps.toList.all (λc=>decide (c<16^8))&&decide (x.cps.size<=10)
 | _=>true
mutual
def smD:D->Bool
 | .tup ds=>decide (ds.length<50)&&smDs ds
 | .lst ds=>decide (ds.length<50)&&smDs ds
 | d=>lfD d
def smDs:List D->Bool
 | []=>true
 | d::ds=>smD d&&smDs ds
end
mutual
def wgD:D->Nat
 | .tup ds=>wgDs ds+1
 | .lst ds=>wgDs ds+1
 | .int i=>if i.natAbs<1000 then 10 else 250
 | .str _=>10
 | _=>0
def wgDs:List D->Nat
 | []=>0
 | d::ds=>wgD d+1+wgDs ds
end
mutual
theorem k1k:∀ {d:D},smD d=true->lnD d=true
 | .tup ds,h=>by
  simp only[smD,lnD,Bool.and_eq_true]at h ⊢
  exact⟨h.1,sm_lns h.2⟩
 | .lst ds,h=>by
  simp only[smD,lnD,Bool.and_eq_true]at h ⊢
  exact⟨h.1,sm_lns h.2⟩
 | .int _,_=>rfl
 | .str _,_=>rfl
 | .non,_=>rfl
 | .bl _,_=>rfl
theorem sm_lns:∀ {ds:List D},smDs ds=true->lnDs ds=true
 | [],_=>rfl
 | d::ds,h=>by
  simp only[smDs,lnDs,Bool.and_eq_true]at h ⊢
  exact⟨k1k h.1,sm_lns h.2⟩
end
theorem b1r {i:Int}(h:lfD (.int i)=true):i.natAbs.log2<1920/\(toString i:Str).length<=100/\(if i==0 then 0 else i.natAbs.log2+1)<=(if i.natAbs<1000 then 10 else 250):=by
 have h:=of_decide_eq_true h
 by_cases h1:i = -1
 ·subst h1
  refine⟨by decide,by decide +kernel,by decide⟩
 ·obtain⟨n,rfl⟩:=Int.eq_ofNat_of_zero_le (show 0<=i by omega)
  have hn:n<10000000000000000000000000000000000000000000000000000000000000000000000:=by omega
  refine⟨n1f hn,by have:=tn3 n hn;omega,?_⟩
  rw[Int.natAbs_natCast]
  split
  ·omega
  ·rename_i z
   have n0:n≠0:=λe=>z (by subst e;rfl)
   by_cases h3:n<1000
   ·rw[if_pos h3]
    have:=(Nat.log2_lt (k:=10) n0).mpr (by omega)
    omega
   ·rw[if_neg h3]
    have:=(Nat.log2_lt (k:=233) n0).mpr (by omega)
    omega
mutual
theorem k1j:∀ {d:D},smD d=true->(toPy d).showable=true/\(toPy d).leavesShort 100=true/\(toPy d).weight<=wgD d
 | .tup ds,h=>by
  simp only[smD,Bool.and_eq_true]at h
  obtain⟨a,b,c⟩:=sm_pys h.2
  simp only[toPy,PyData.showable,PyData.leavesShort,PyData.weight,wgD]
  exact⟨a,b,by omega⟩
 | .lst ds,h=>by
  simp only[smD,Bool.and_eq_true]at h
  obtain⟨a,b,c⟩:=sm_pys h.2
  simp only[toPy,PyData.showable,PyData.leavesShort,PyData.weight,wgD]
  exact⟨a,b,by omega⟩
 | .int i,h=>by
  obtain⟨a,b,c⟩:=b1r h
  simp only[toPy,PyData.showable,PyData.leavesShort,PyData.weight,wgD]
  refine⟨decide_eq_true a,decide_eq_true ?_,c⟩
  unfold PyData.shown
  exact b
 | .str x,h=>by
  have h:(x.cps.toList.all (λc=>decide (c<16^8))&&decide (x.cps.size<=10))=true:=h
  rw[Bool.and_eq_true]at h
  simp only[toPy,PyData.showable,PyData.leavesShort,PyData.weight,wgD]
  exact⟨trivial,h.1,of_decide_eq_true h.2⟩
 | .non,_=>by simp[toPy,PyData.showable,PyData.leavesShort,PyData.weight]
 | .bl _,_=>by simp[toPy,PyData.showable,PyData.leavesShort,PyData.weight]
theorem sm_pys:∀ {ds:List D},smDs ds=true->PyData.showableAll (toPys ds)=true/\PyData.leavesShortAll 100 (toPys ds)=true/\PyData.weightAll (toPys ds)<=wgDs ds
 | [],_=>by simp[toPys,PyData.showableAll,PyData.leavesShortAll,PyData.weightAll]
 | d::ds,h=>by
  simp only[smDs,Bool.and_eq_true]at h
  obtain⟨a,b,c⟩:=k1j h.1
  obtain⟨a',b',c'⟩:=sm_pys h.2
  simp only[toPys,PyData.showableAll,PyData.leavesShortAll,PyData.weightAll,wgDs,Bool.and_eq_true]
  exact⟨⟨a,a'⟩,⟨b,b'⟩,by omega⟩
end
structure El (k w:Nat)(d:D):Prop where
 sm:smD d=true
 dp:d.depth<=k
 wt:wgD d<=w
theorem El.up {k w k' w':Nat}{d:D}(h:El k w d)(hk:k<=k')(hw:w<=w'):El k' w' d:=⟨h.sm,Nat.le_trans h.dp hk,Nat.le_trans h.wt hw⟩
theorem El.show {k w:Nat}{d:D}(h:El k w d)(hk:k<=50)(hw:w<=150000):shOk d:=by
 obtain⟨a,b,c⟩:=k1j h.sm
 refine⟨Nat.le_trans h.dp hk,a,?_⟩
 have:=PyData.shown_le 100 (by decide) (toPy d) b
 have:=h.wt
 unfold shD
 rw[sizeLine_eq]
 omega
theorem c1h {k w:Nat}:∀ {ds:List D},(∀d∈ds,El k w d)->smDs ds=true/\depths ds<=k/\wgDs ds<=ds.length*(w+1)
 | [],_=>⟨rfl,by simp[depths],by simp[wgDs]⟩
 | d::ds,h=>by
  obtain⟨a,b,c⟩:=c1h (ds:=ds) λe he=>h e (List.mem_cons_of_mem _ he)
  have h1:=h d (List.mem_cons_self ..)
  refine⟨by simp only[smDs,h1.sm,a,Bool.and_self],by simp only[depths];have:=h1.dp;omega,?_⟩
  simp only[wgDs,List.length_cons]
  have:=h1.wt
  rw[Nat.add_mul]
  omega
theorem El.lst {k w n:Nat}{ds:List D}(hl:ds.length<=n)(hn:n<50)(h:∀d∈ds,El k w d):El (k+1) (n*(w+1)+1) (.lst ds):=by
 obtain⟨a,b,c⟩:=c1h h
 refine⟨by simp only[smD,a,Bool.and_true,decide_eq_true_eq];omega,by simp only[D.depth];omega,?_⟩
 simp only[wgD]
 have:=Nat.mul_le_mul_right (w+1) hl
 omega
theorem El.tup {k w n:Nat}{ds:List D}(hl:ds.length<=n)(hn:n<50)(h:∀d∈ds,El k w d):El (k+1) (n*(w+1)+1) (.tup ds):=by
 obtain⟨a,b,c⟩:=c1h h
 refine⟨by simp only[smD,a,Bool.and_true,decide_eq_true_eq];omega,by simp only[D.depth];omega,?_⟩
 simp only[wgD]
 have:=Nat.mul_le_mul_right (w+1) hl
 omega
theorem El.nat {n:Nat}(h:n<1000):El 0 10 (nD n):=by
 refine⟨?_,by simp[D.depth],?_⟩
 ·show lfD (.int (n:Int))=true
  unfold lfD
  rw[decide_eq_true_eq]
  omega
 ·show(if((n:Int)).natAbs<1000 then 10 else 250)<=10
  rw[if_pos (by omega)];exact Nat.le_refl _
theorem El.nats {C:List Nat}(h:∀i∈C,i<1000):∀d∈a0e C,El 0 10 d:=λd hd=>by
 obtain⟨i,hi,rfl⟩:=List.mem_map.mp hd
 exact .nat (h i hi)
def y0a:ASp:=λss q=>∃n m:Nat,ss=[.tp n,nv m]/\n<=100000000/\m<=24/\∀C:List Nat,C.Pairwise (· < ·)->(∀i∈C,i<m)->q (.f (a0e C)) [.tp (n+m),nv m]
def p0k (d:D):Prop:=(∃C:List Nat,d = .tup [.str "unlike",lstN C]/\C.length<=24/\∀i∈C,i<24) ∨ ∃L:List (List Nat),d = .tup [.str "hang",.lst (L.map lstN)]/\L.length<=24/\∀C∈L,C.length<=24/\∀i∈C,i<24
def w0h:ASp:=λss q=>∃(n m:Nat) (rows:List Nat),ss=[.tp n,.vl (b0o m rows)]/\n<=10000000/\z0h m rows/\∀(d:D) (n':Nat),p0k d->n'<=n+1000->q (.d d) [.tp n',.vl (b0o m rows)]
section
variable {P:Program}{w:World}{K:PySem.W.Frag}{mg:Str->Option Value}{base:Heap}
theorem v0a (dn:DefN K mg "_law_some" h0m ["_law_tape_here", "_law_many"])(B:BI mg)(g_law_draw:OkN P w K mg base 1 "_law_draw" ["_law_tape_here", "_law_many"] (spA K o0x)):OkN P w K mg base 2 "_law_some" ["_law_tape_here", "_law_many"] (spA K y0a):=by
 refine dn.aok2 (k:=1) u0u (λj=>j==0||j==1) [] y0a rfl (λf cdv A outer s H E hr=>have hu:=e0z hr;⟨_,(a0p (b0d (d0q ["_law_place"] [0] rfl (Blk.of (a0m h0m) n0z) (e0q rfl B.range_ (a0c (pv 1) a0f)) (λ_ _ _ _ nd=>(a0z (i:=0) nd rfl (by first | exact Or.inl rfl | exact Or.inr rfl))) (λ_ _ _ _=>(f0h (a0s (c0e K hr.units) (b0k g_law_draw (hr.mono (by decide)) (a0c (pv 1) (a0c a0j a0f))) a0j (a0y _)))) (λ_ _ _ _=>(pv 0))))),(a0v (b0t (e0l (a0a a0b a0d)) (a0q rfl) (a0o (a0h c0f (a0n (a0a a0b (a0a a0g a0d))) a0g)) a0b))⟩) ?_
 rintro ss q ⟨n,m,rfl,hn,hm,hq⟩
 refine⟨rfl,rfl,?_⟩
 refine⟨⟨by omega,by omega⟩,by rw[d0s];omega,?_⟩
 rw[Int.toNat_natCast]
 refine f0k (λj acc ρ=>∃C:List Nat,acc=a0e C/\C.Pairwise (· < ·)/\(∀i∈C,i<j)/\ρ=[.tp (n+j),nv m]) (λ_ _ _ _ _=>trivial) ?_ ?_ _ ⟨[],rfl,List.Pairwise.nil,(λ_ h=>nomatch h),rfl⟩
 ·rintro j d acc _ M hj ⟨C,rfl,up,hC,rfl⟩ hM
  obtain⟨lt,rfl⟩:=j0t hj
  rw[Int.zero_add]
  refine⟨rfl,n+j,2,rfl,by omega,Dv.small (by decide) (by decide),λr hr=>b0m rfl rfl (by simp[D.depth]) rfl (ite2 (λ_=>?_) λ_=>?_)⟩
  ·refine hM _ _ ⟨C++[j],(f0d C j).symm,List.pairwise_append.mpr ⟨up,List.pairwise_singleton _ _,λa ha b hb=>by rw[List.mem_singleton.mp hb];exact hC a ha⟩,λi hi=>?_,rfl⟩
   rcases List.mem_append.mp hi with h | h
   ·have:=hC i h;omega
   ·rw[List.mem_singleton.mp h];omega
  ·exact hM _ _ ⟨C,rfl,up,λi hi=>by have:=hC i hi;omega,rfl⟩
 ·rintro acc _ ⟨C,rfl,up,hC,rfl⟩
  rw[d0s]at hC ⊢
  exact hq C up hC
theorem s0x (dn:DefN K mg "_law_paper" f0n ["_law_tape_here", "_law_wish_here"])(B:BI mg)(g_law_draw:OkN P w K mg base 1 "_law_draw" ["_law_tape_here", "_law_many"] (spA K o0x))(g_law_classes:OkN P w K mg base 2 "_law_classes" ["_law_rows"] (spA K o0w))(g_law_some:OkN P w K mg base 2 "_law_some" ["_law_tape_here", "_law_many"] (spA K y0a))(g_bound:OkN P w K mg base 4 "bound" ["wish"] (spA K d1k))(g_law_weight:OkN P w K mg base 1 "_law_weight" ["_law_row"] (spA K n0l)):OkN P w K mg base 5 "_law_paper" ["_law_tape_here", "_law_wish_here"] (spA K w0h):=by
 refine dn.aok2 (k:=4) d0f (λj=>j==0||j==1) [.un,.un,.un,.un,.un,.un] w0h rfl (λf cdv A outer s H E hr=>have hu:=e0z hr;⟨_,(a0i (b0b (i:=2) d0f.nd rfl (by first | exact Or.inl rfl | exact Or.inr rfl) (c0n (b0c K) (pv 1) a0j (λ_ _=>rfl)))
  (a0i (b0b (i:=3) d0f.nd rfl (by first | exact Or.inl rfl | exact Or.inr rfl) (b0k g_law_draw (hr.mono (by decide)) (a0c (pv 0) (a0c a0j a0f))))
  (a0i (d0a (a0s (c0e K hr.units) (pv 3) a0j (a0y _))
  (a0p (b0d (c0n (b0c K) (b0k g_bound (hr.mono (by decide)) (a0c (pv 1) a0f)) a0j (λ_ _=>rfl))))
  b0g)
  (a0i (d0a (a0s s0v (pv 3) a0j (a0y _))
  (a0i (b0b (i:=4) d0f.nd rfl (by first | exact Or.inl rfl | exact Or.inr rfl) (b0w a0f))
  (a0i (h0p PassesOwn.never rfl (b0z K (b0k g_law_some (hr.mono (by decide)) (a0c (pv 0) (a0c (a0r (b0e K) rfl B.len_ c0q (a0c (pv 2) a0f)) a0f)))) (a0z (i:=5) d0f.nd rfl (by first | exact Or.inl rfl | exact Or.inr rfl))
  (a0p (d0a (PW.pt (k0x (a0s (i0f K) (c0n (b0c K) (pv 2) (pv 5) (λ_ _=>rfl)) (d0q ["_law_one"] [2] rfl (Blk.of (a0m f0n) j0b) (b0z K (pv 4)) (λ_ _ _ _ nd=>(a0z (i:=0) nd rfl (by first | exact Or.inl rfl | exact Or.inr rfl))) (λ_ _ _ _=>f0i) (λ_ _ _ _=>(c0n (b0c K) (pv 1) (pv 0) (λ_ _=>rfl)))) rfl) (i0d (PW.pt (i0x (a0s q0w (b0k g_law_weight (hr.mono (by decide)) (a0c (c0n (b0c K) (pv 2) (pv 5) (λ_ _=>rfl)) a0f)) a0j (a0y _)) (h0n (a0s (c0e K hr.units) (pv 3) a0j (a0y _))))))))
  (a0p (l0w (p0q K PySem.F.plainAttrs_list PySem.F.slot_list_append PySem.F.type_list_append h0q (pv 4) (a0c (pv 5) a0f))))
  b0g)))
  (a0p (b0d (e0c (a0c c0x (a0c (pv 4) a0f)))))))
  b0g)
  (a0i (b0b (i:=6) d0f.nd rfl (by first | exact Or.inl rfl | exact Or.inr rfl) (b0w a0f))
  (a0i (h0p PassesOwn.never rfl (b0z K (b0k g_law_classes (hr.mono (by decide)) (a0c (pv 2) a0f))) (a0z (i:=7) d0f.nd rfl (by first | exact Or.inl rfl | exact Or.inr rfl))
  (a0i (k0k (i:=4) ["_law_place"] [3,0] d0f.nd rfl (by first | exact Or.inl rfl | exact Or.inr rfl) rfl (Blk.of (a0m f0n) j0b) (b0z K (pv 7)) (λ_ _ _ _ nd=>(a0z (i:=0) nd rfl (by first | exact Or.inl rfl | exact Or.inr rfl))) (λ_ _ _ _=>(f0h (PW.pt (i0x (a0s (c0e K hr.units) (pv 1) a0j (a0y _)) (h0n (a0s q0w (b0k g_law_draw (hr.mono (by decide)) (a0c (pv 2) (a0c a0j a0f))) a0j (a0y _))))))) (λ_ _ _ _=>(pv 0)))
  (a0p (d0a (a0s q0w (b0k g_law_draw (hr.mono (by decide)) (a0c (pv 0) (a0c a0j a0f))) a0j (a0y _))
  (a0p (l0w (p0q K PySem.F.plainAttrs_list PySem.F.slot_list_append PySem.F.type_list_append h0q (pv 6) (a0c (pv 4) a0f))))
  b0g))))
  (a0p (b0d (e0c (a0c c0x (a0c (pv 6) a0f))))))))))),(a0l (a0u (a0h b0p a0b a0g) rfl)
  (a0l (a0u (a0n (a0a a0b (a0a a0g a0d))) rfl)
  (a0l (b0v (a0o (a0h c0f a0b a0g))
  (a0v (a0h b0p (a0n (a0a a0b a0d)) a0g))
  b0a)
  (a0l (b0v (a0o (a0h c0i a0b a0g))
  (a0l (a0u (b0i a0d) rfl)
  (a0l (f0m (pin:=(λ_=>false)) (b0n (a0n (a0a a0b (a0a (b0f b0q (a0a a0b a0d)) a0d)))) (a0q rfl)
  (b0v (g0z (a0o (a0h (x0i true) (a0h b0p a0b a0b) (b0t (b0n a0b) (a0q rfl) d0r (a0h b0p a0b a0b)))) (d0x (a0o (a0h c0i (a0n (a0a (a0h b0p a0b a0b) a0d)) a0g)) (a0o (a0h c0f a0b a0g))))
  (j0n (l0v a0b (a0a a0b a0d)))
  b0a))
  (a0v (c0l (a0a d0o (a0a a0b a0d))))))
  b0a)
  (a0l (a0u (b0i a0d) rfl)
  (a0l (f0m (pin:=(λ_=>false)) (b0n (a0n (a0a a0b a0d))) (a0q rfl)
  (a0l (h0a (b0t (b0n a0b) (a0q rfl) (d0x (a0o (a0h c0f a0b a0g)) (a0o (a0h c0i (a0n (a0a a0b (a0a a0g a0d))) a0g))) a0b) rfl)
  (b0v (a0o (a0h c0i (a0n (a0a a0b (a0a a0g a0d))) a0g))
  (j0n (l0v a0b (a0a a0b a0d)))
  b0a)))
  (a0v (c0l (a0a d0o (a0a a0b a0d))))))))))⟩) ?_
 rintro ss q ⟨n,m,rows,rfl,hn,hRM,hq⟩
 have hR:=hRM.2.2.1
 have l24:=hR.l24
 refine⟨rfl,rfl,?_⟩
 refine cutS (λρ=>ρ=[.tp n,.vl (b0o m rows),.vl (.tup (a0e rows)),.un,.un,.un,.un,.un]) (λM hM=>e0i (i:=1) (ds:=[nD m,.tup (a0e rows)]) (d:=.tup (a0e rows)) rfl rfl (hM _ rfl)) ?_
 rintro _ rfl
 refine cutS (λρ=>∃way:Nat,ρ=[.tp (n+1),.vl (b0o m rows),.vl (.tup (a0e rows)),nv way,.un,.un,.un,.un]) (λM hM=>⟨rfl,n,5,rfl,by omega,Dv.small (by decide) (by decide),λr hr=>hM _ ⟨r,rfl⟩⟩) ?_
 rintro _ ⟨way,rfl⟩
 refine cutS (λρ=>ρ=[.tp (n+1),.vl (b0o m rows),.vl (.tup (a0e rows)),nv way,.un,.un,.un,.un]) (λM hM=>b0m rfl rfl (by simp[D.depth]) rfl (ite2 (λ_=>?_) λ_=>hM _ rfl)) ?_
 ·refine⟨rfl,m,rows,rfl,hR,?_⟩
  have fin:∀(w:Str) (x:D) (z:Int),p0k (.tup [.str w,x])->gIx (.d (.tup [.int z,.tup [.str w,x]])) (.d (.int 1)) [.tp (n+1),.vl (b0o m rows),.vl (.tup (a0e rows)),nv way,.un,.un,.un,.un] λr ρ=>fin (λj=>j==0||j==1) r ρ λr' ρ'=>q r' (outS [.tp n,.vl (b0o m rows)] ρ'):=λw x z hp=>by
   refine e0i (i:=1) (ds:=[.int z,.tup [.str w,x]]) (d:=.tup [.str w,x]) rfl rfl ?_
   exact hq _ (n+1) hp (by omega)
  have ph:p0k (.tup [.str "hang",.lst ((b0h rows rows.length).map lstN)]):=by
   refine .inr ⟨_,rfl,Nat.le_trans (o0m rows) l24,λC hC=>?_⟩
   obtain⟨a,b,c⟩:=(o0n hR).2 C hC
   exact⟨b,λi hi=>Nat.lt_of_lt_of_le (c i hi) l24⟩
  have pu:p0k (.tup [.str "unlike",.lst (a0e (fpl rows))]):=.inl ⟨_,rfl,Nat.le_trans (c1d rows) l24,λi hi=>Nat.lt_of_lt_of_le (g1k hi) l24⟩
  unfold bndD v0p unlD
  split
  ·exact fin _ _ _ ph
  ·split
   ·exact fin _ _ _ pu
   ·exact fin _ _ _ ph
 rintro _ rfl
 refine cutS (λρ=>ρ=[.tp (n+1),.vl (b0o m rows),.vl (.tup (a0e rows)),nv way,.un,.un,.un,.un]) (λM hM=>ite2 (λ_=>?_) λ_=>hM _ rfl) ?_
 ·refine cutS (λρ=>ρ=[.tp (n+1),.vl (b0o m rows),.vl (.tup (a0e rows)),nv way,.ow [],.un,.un,.un]) (λM2 hM2=>⟨by simp,hM2 _ rfl⟩) ?_
  rintro _ rfl
  refine cutS (λρ=>∃(C:List Nat) (s5:Sv),C.length<=rows.length/\(∀i∈C,i<rows.length)/\ρ=[.tp (n+1+rows.length),.vl (b0o m rows),.vl (.tup (a0e rows)),nv way,.ow (a0e C),s5,.un,.un]) (λM2 hM2=>⟨rfl,n+1,rows.length,by rw[a0k];rfl,by omega,l24,λP up hP=>?_⟩) ?_
  ·have hPl:=h0h up hP
   refine i0i nD (λk ρ=>∃(C:List Nat) (s5:Sv),C.length<=k/\(∀i∈C,i<rows.length)/\ρ=[.tp (n+1+rows.length),.vl (b0o m rows),.vl (.tup (a0e rows)),nv way,.ow (a0e C),s5,.un,.un]) (λ_ _ _=>trivial) ?_ (λρ ⟨C,s5,h1,h2,e⟩=>hM2 ρ ⟨C,s5,by omega,h2,e⟩) ⟨[],.un,by simp,(λ_ h=>nomatch h),rfl⟩
   rintro k p _ M3 hk ⟨C,s5,h1,h2,rfl⟩ hM3
   have hp:=hP p (List.mem_of_getElem? hk)
   have hkl:=(List.getElem?_eq_some_iff.mp hk).1
   have stay:M3 [.tp (n+1+rows.length),.vl (b0o m rows),.vl (.tup (a0e rows)),nv way,.ow (a0e C),nv p,.un,.un]:=hM3 _ ⟨C,nv p,by omega,h2,rfl⟩
   have grow:(a0e C).length<=1000000/\M3 [.tp (n+1+rows.length),.vl (b0o m rows),.vl (.tup (a0e rows)),nv way,.ow (a0e C++[nD p]),nv p,.un,.un]:=⟨by rw[a0k];omega,hM3 _ ⟨C++[p],nv p,by rw[List.length_append,List.length_singleton];omega,λi hi=>by
    rcases List.mem_append.mp hi with h | h
    ·exact h2 i h
    ·rw[List.mem_singleton.mp h];exact hp,by rw[f0d]⟩⟩
   refine e0i (i:=p) (ds:=a0e rows) (d:=nD (rw1 rows p)) rfl (by rw[show rw1 rows p=rows.getD p 0 from rfl];exact c0c hp) ?_
   refine⟨rfl,by rw[a0k];omega,?_⟩
   refine d0e nD (λp=>nD (rw1 rows p)) rfl (λa acc M4 ha hM4=>e0i (i:=a) (ds:=a0e rows) (d:=nD (rw1 rows a)) rfl (by rw[show rw1 rows a=rows.getD a 0 from rfl];exact c0c (h2 a ha)) hM4) ?_
   refine x0q (xs:=C.map (rw1 rows)) (by unfold a0e;rw[List.map_map];rfl) ?_
   cases hc:(C.map (rw1 rows)).contains (rw1 rows p)with
   | true=>exact stay
   | false =>
    refine e0i (i:=p) (ds:=a0e rows) (d:=nD (rw1 rows p)) rfl (by rw[show rw1 rows p=rows.getD p 0 from rfl];exact c0c hp) ?_
    refine⟨rfl,rw1 rows p,rfl,(hR.at hp).2,?_⟩
    exact ite2 (λ_=>grow) λ_=>b0m rfl rfl (by simp[D.depth]) rfl (ite2 (λ_=>grow) λ_=>stay)
  rintro _ ⟨C,s5,h1,h2,rfl⟩
  refine⟨by simp,?_⟩
  exact hq _ _ (.inl ⟨C,rfl,by omega,λi hi=>Nat.lt_of_lt_of_le (h2 i hi) l24⟩) (by omega)
 rintro _ rfl
 refine cutS (λρ=>ρ=[.tp (n+1),.vl (b0o m rows),.vl (.tup (a0e rows)),nv way,.un,.un,.ow [],.un]) (λM2 hM2=>⟨by simp,hM2 _ rfl⟩) ?_
 rintro _ rfl
 refine cutS (λρ=>∃(n':Nat) (L:List (List Nat)) (s4 s7:Sv),n'<=n+1000/\L.length<=24/\(∀C∈L,C.length<=24/\∀i∈C,i<24)/\ρ=[.tp n',.vl (b0o m rows),.vl (.tup (a0e rows)),nv way,s4,.un,.ow (L.map lstN),s7]) (λM2 hM2=>⟨rfl,rows,rfl,hR,?_⟩) ?_
 ·have cl:=o0m rows
  have cc:=(o0n hR).2
  refine i0i lstN (λk ρ=>∃(n':Nat) (L:List (List Nat)) (s4 s7:Sv),n'<=n+1+25*k/\L.length<=k/\(∀C∈L,C.length<=24/\∀i∈C,i<24)/\ρ=[.tp n',.vl (b0o m rows),.vl (.tup (a0e rows)),nv way,s4,.un,.ow (L.map lstN),s7]) (λ_ _ _=>trivial) ?_ (λρ ⟨n',L,s4,s7,h1,h2,h3,e⟩=>hM2 ρ ⟨n',L,s4,s7,by omega,by omega,h3,e⟩) ⟨n+1,[],.un,.un,by omega,by simp,(λ_ h=>nomatch h),rfl⟩
  rintro k C _ M3 hk ⟨n',L,s4,s7,h1,h2,h3,rfl⟩ hM3
  have hCm:=List.mem_of_getElem? hk
  have hkl:=(List.getElem?_eq_some_iff.mp hk).1
  obtain⟨c1,c2,c3⟩:=cc C hCm
  refine cutS (λρ=>∃(n2:Nat) (C':List Nat),n2<=n'+24/\C'.length<=24/\(∀i∈C',i<24)/\ρ=[.tp n2,.vl (b0o m rows),.vl (.tup (a0e rows)),nv way,.ow (a0e C'),.un,.ow (L.map lstN),.vl (lstN C)]) (λM4 hM4=>⟨by rw[a0k];omega,?_⟩) ?_
  ·refine f0k (λj acc ρ=>∃(n2:Nat) (C':List Nat),n2<=n'+j/\C'.length<=j/\(∀i∈C',i<24)/\acc=a0e C'/\ρ=[.tp n2,.vl (b0o m rows),.vl (.tup (a0e rows)),nv way,s4,.un,.ow (L.map lstN),.vl (lstN C)]) (λ_ _ _ _ _=>trivial) ?_ ?_ _ ⟨n',[],by omega,by simp,(λ_ h=>nomatch h),rfl,rfl⟩
   ·rintro j d acc _ M5 hj ⟨n2,C',d1,d2,d3,rfl,rfl⟩ hM5
    unfold a0e at hj
    rw[List.getElem?_map]at hj
    obtain⟨p,ep,rfl⟩:=Option.map_eq_some_iff.mp hj
    have hpC:=c3 p (List.mem_of_getElem? ep)
    have hjl:=(List.getElem?_eq_some_iff.mp ep).1
    have take:∀n3,n3<=n'+(j+1)->M5 (a0e C'++[nD p]) [.tp n3,.vl (b0o m rows),.vl (.tup (a0e rows)),nv way,s4,.un,.ow (L.map lstN),.vl (lstN C)]:=λn3 h=>hM5 _ _ ⟨n3,C'++[p],h,by rw[List.length_append,List.length_singleton];omega,λi hi=>by
     rcases List.mem_append.mp hi with z | z
     ·exact d3 i z
     ·rw[List.mem_singleton.mp z];omega,(f0d C' p).symm,rfl⟩
    refine b0m rfl rfl (by simp[D.depth]) rfl (ite2 (λ_=>take n2 (by omega)) λ_=>?_)
    exact⟨rfl,n2,3,rfl,by omega,Dv.small (by decide) (by decide),λr hr=>ite2 (λ_=>take (n2+1) (by omega)) λ_=>hM5 _ _ ⟨n2+1,C',by omega,by omega,d3,rfl,rfl⟩⟩
   ·rintro acc _ ⟨n2,C',d1,d2,d3,rfl,rfl⟩
    rw[a0k]at d1 d2
    exact hM4 _ ⟨n2,C',by omega,by omega,d3,rfl⟩
  rintro _ ⟨n2,C',d1,d2,d3,rfl⟩
  refine⟨rfl,n2,4,rfl,by omega,Dv.small (by decide) (by decide),λr hr=>ite2 (λ_=>?_) λ_=>?_⟩
  ·refine⟨by rw[List.length_map];omega,hM3 _ ⟨n2+1,L++[C'],.vl (lstN C'),.vl (lstN C),by omega,by rw[List.length_append,List.length_singleton];omega,λX hX=>?_,?_⟩⟩
   ·rcases List.mem_append.mp hX with z | z
    ·exact h3 X z
    ·rw[List.mem_singleton.mp z];exact⟨d2,d3⟩
   ·rw[List.map_append];rfl
  ·exact hM3 _ ⟨n2+1,L,.ow (a0e C'),.vl (lstN C),by omega,by omega,h3,rfl⟩
 rintro _ ⟨n',L,s4,s7,h1,h2,h3,rfl⟩
 refine⟨by simp,?_⟩
 exact hq _ _ (.inr ⟨L,rfl,h2,h3⟩) h1
end
end K68
set_option maxHeartbeats 8000000
namespace K68
open PySem PySem.Spec PyProof.Rows L2
theorem El.int {i:Int}(h1:-1<=i)(h2:i<1000):El 0 10 (.int i):=by
 refine⟨?_,by simp[D.depth],?_⟩
 ·show lfD (.int i)=true
  unfold lfD
  rw[decide_eq_true_eq]
  omega
 ·show(if i.natAbs<1000 then 10 else 250)<=10
  rw[if_pos (by omega)];exact Nat.le_refl _
structure EL (k w n:Nat)(ds:List D):Prop where
 ln:ds.length<=n
 el:∀d∈ds,El k w d
theorem EL.nil {k w n:Nat}:EL k w n []:=⟨Nat.zero_le _,λ_ h=>nomatch h⟩
theorem EL.one {k w:Nat}{d:D}(h:El k w d):EL k w 1 [d]:=⟨Nat.le_refl _,λe he=>by rw[List.mem_singleton.mp he];exact h⟩
theorem EL.app {k w n m:Nat}{a b:List D}(h:EL k w n a)(g:EL k w m b):EL k w (n+m) (a++b):=⟨by rw[List.length_append];have:=h.ln;have:=g.ln;omega,λd hd=>(List.mem_append.mp hd).elim (h.el d) (g.el d)⟩
theorem EL.to {k w n:Nat}{a:List D}(h:EL k w n a)(t:Nat):EL k w t (L2.cutD a none (some ((t:Nat):Int))):=by
 rw[o0l]
 exact⟨by rw[List.length_take];omega,λd hd=>h.el d (List.mem_of_mem_take hd)⟩
theorem EL.fr {k w n:Nat}{a:List D}(h:EL k w n a)(t:Nat):EL k w (n - t) (L2.cutD a (some ((t:Nat):Int)) none):=by
 rw[c1l]
 exact⟨by rw[List.length_drop];have:=h.ln;omega,λd hd=>h.el d (List.mem_of_mem_drop hd)⟩
theorem EL.cut {k w n:Nat}{a:List D}(h:EL k w n a)(lo hi:Option Int):EL k w n (L2.cutD a lo hi):=by
 unfold L2.cutD
 refine⟨?_,λd hd=>h.el d (List.mem_of_mem_drop (List.mem_of_mem_take hd))⟩
 rw[List.length_take,List.length_drop]
 have:=h.ln
 omega
theorem EL.rev {k w n:Nat}{a:List D}(h:EL k w n a):EL k w n a.reverse:=⟨by rw[List.length_reverse];exact h.ln,λd hd=>h.el d (List.mem_reverse.mp hd)⟩
theorem EL.up {k w n k' w' n':Nat}{a:List D}(h:EL k w n a)(hk:k<=k')(hw:w<=w')(hn:n<=n'):EL k' w' n' a:=⟨Nat.le_trans h.ln hn,λd hd=>(h.el d hd).up hk hw⟩
theorem EL.nats {C:List Nat}{n:Nat}(hl:C.length<=n)(h:∀i∈C,i<1000):EL 1 12 n (a0e C):=⟨by rw[a0k];exact hl,λd hd=>(El.nats h d hd).up (by decide) (by decide)⟩
theorem EL.lst {k w n:Nat}{a:List D}(h:EL k w n a)(hn:n<50):El (k+1) (n*(w+1)+1) (.lst a):=.lst h.ln hn h.el
theorem EL.tup {k w n:Nat}{a:List D}(h:EL k w n a)(hn:n<50):El (k+1) (n*(w+1)+1) (.tup a):=.tup h.ln hn h.el
theorem EL.l7 {n:Nat}{a:List D}(h:EL 1 12 n a)(hn:n<50):El 2 700 (.lst a):=(h.lst hn).up (by decide) (by omega)
theorem EL.t7 {n:Nat}{a:List D}(h:EL 1 12 n a)(hn:n<50):El 2 700 (.tup a):=(h.tup hn).up (by decide) (by omega)
theorem El.non {k w:Nat}:El k w .non:=⟨rfl,by simp[D.depth],by simp[wgD]⟩
theorem El.bl {k w:Nat}{b:Bool}:El k w (.bl b):=⟨rfl,by simp[D.depth],by simp[wgD]⟩
theorem El.s0:El 1 12 (.str "0"):=⟨by decide +kernel,by simp[D.depth],by simp[wgD]⟩
def j1o:ASp:=λss q=>∃n p m:Nat,ss=[.tp n,nv p,nv m]/\n<=100000000/\p<900/\m<900/\∀d:D,El 1 12 d->q (.d d) [.tp (n+1),nv p,nv m]
def w0j:ASp:=λss q=>∃(n m:Nat) (C:List Nat),ss=[.tp n,.vl (lstN C),nv m]/\n<=10000000/\C.length<=24/\(∀i∈C,i<24)/\1<=m/\m<=24/\∀(d:D) (n':Nat),El 2 700 d->n'<=n+10->q (.d d) [.tp n',.vl (lstN C),nv m]
section
variable {P:Program}{w:World}{K:PySem.W.Frag}{mg:Str->Option Value}{base:Heap}
theorem y0r (dn:DefN K mg "_law_odd" k0w ["_law_tape_here", "_law_place", "_law_many"])(B:BI mg)(g_law_draw:OkN P w K mg base 1 "_law_draw" ["_law_tape_here", "_law_many"] (spA K o0x)):OkN P w K mg base 2 "_law_odd" ["_law_tape_here", "_law_place", "_law_many"] (spA K j1o):=by
 refine dn.aokz (k:=1) y0l (λj=>j==0||j==1||j==2) [] j1o rfl (λf cdv A outer s H E hr=>have hu:=e0z hr;⟨_,(a1o (b0d (c0n (b0c K) (g1b (b0s n0g (a0x e0d (pv 1) a0j) (b0s n0g (a0x g0w (pv 1) a0j) (b0s i1e (pv 2) (b0s n0g (a0x g0w (pv 2) a0j) (b0s p0u (s0q m0f a0j) (b0s b0x j0z (b0s b0x j0z (b0s b0x c0x (b0s b0x i0z (b0s r0e (b0w (a0c (pv 1) a0f)) (b0s b0x a0j z0i)))))))))))) (b0k g_law_draw (hr.mono (by decide)) (a0c (pv 0) (a0c a0j a0f))) (λ_ _=>rfl)))),(a0v (a0h b0p (b0i (a0a (a0h a0w a0b a0g) (a0a (a0h a0w a0b a0g) (a0a a0b (a0a (a0h a0w a0b a0g) (a0a (i0v a0g) (a0a g0c (a0a g0c (a0a d0o (a0a g0q (a0a (b0i (a0a a0b a0d)) (a0a a0g a0d)))))))))))) (a0n (a0a a0b (a0a a0g a0d)))))⟩) ?_
 rintro ss q ⟨n,p,m,rfl,hn,hp,hm,hq⟩
 refine⟨rfl,rfl,?_⟩
 refine⟨by simp,by simp,rfl,n,11,rfl,by omega,Dv.small (by decide) (by decide),λi hi=>?_⟩
 obtain⟨d,hd,hm⟩:=q0j (xs:=[D.int ((p:Int)+1),.int ((p:Int) - 1),.int (m:Int),.int ((m:Int) - 1),.int (-1),.bl true,.bl false,.str "0",.non,.lst [.int (p:Int)],.int 0]) (i:=i) (by show i<11;omega)
 refine j0g rfl hd (hq d ?_)
 have I:∀ {i:Int},-1<=i->i<1000->El 1 12 (.int i):=λa b=>(El.int a b).up (by decide) (by decide)
 simp only[List.mem_cons,List.not_mem_nil,or_false]at hm
 rcases hm with rfl | rfl | rfl | rfl | rfl | rfl | rfl | rfl | rfl | rfl | rfl
 ·exact I (by omega) (by omega)
 ·exact I (by omega) (by omega)
 ·exact I (by omega) (by omega)
 ·exact I (by omega) (by omega)
 ·exact I (by omega) (by omega)
 ·exact .bl
 ·exact .bl
 ·exact .s0
 ·exact .non
 ·exact(EL.one (k:=0) (w:=10) (El.int (by omega) (by omega))).lst (by decide)
 ·exact I (by omega) (by omega)
theorem k0z (dn:DefN K mg "_law_bent_places" e0g ["_law_tape_here", "_law_places_here", "_law_many"])(B:BI mg)(g_law_draw:OkN P w K mg base 1 "_law_draw" ["_law_tape_here", "_law_many"] (spA K o0x))(g_law_odd:OkN P w K mg base 2 "_law_odd" ["_law_tape_here", "_law_place", "_law_many"] (spA K j1o)):OkN P w K mg base 3 "_law_bent_places" ["_law_tape_here", "_law_places_here", "_law_many"] (spA K w0j):=by
 refine dn.aok2 (k:=2) c0w (λj=>j==0||j==1||j==2) [.un,.un,.un] w0j rfl (λf cdv A outer s H E hr=>have hu:=e0z hr;⟨_,(a0i (b0b (i:=3) c0w.nd rfl (by first | exact Or.inl rfl | exact Or.inr rfl) (b0k g_law_draw (hr.mono (by decide)) (a0c (pv 0) (a0c (a0x e0d (a0r (b0e K) rfl B.len_ c0q (a0c (pv 1) a0f)) a0j) a0f))))
  (a0i (b0b (i:=4) c0w.nd rfl (by first | exact Or.inl rfl | exact Or.inr rfl) (b0k g_law_odd (hr.mono (by decide)) (a0c (pv 0) (a0c (c0n (b0c K) (a0x (c0o K) (b0w (a0c a0j a0f)) (pv 1)) (pv 3) (λ_ _=>rfl)) (a0c (pv 2) a0f)))))
  (a0i (b0b (i:=5) c0w.nd rfl (by first | exact Or.inl rfl | exact Or.inr rfl) (b0w (a0c (a0x (c0o K) (a0x (c0o K) (c0b (c0g K) (pv 1) d0h (c0m (pv 3))) (b0w (a0c (pv 4) a0f))) (c0b (c0g K) (pv 1) (c0m (a0x e0d (pv 3) a0j)) d0h)) (a0c (a0x (c0o K) (a0x (c0o K) (c0b (c0g K) (pv 1) d0h (c0m (pv 3))) (b0w (a0c (pv 4) a0f))) (c0b (c0g K) (pv 1) (c0m (pv 3)) d0h)) (a0c (a0x (c0o K) (c0b (c0g K) (pv 1) d0h (c0m (pv 3))) (c0b (c0g K) (pv 1) (c0m (a0x e0d (pv 3) a0j)) d0h)) a0f)))))
  (a0i (b0b (i:=5) c0w.nd rfl (by first | exact Or.inl rfl | exact Or.inr rfl) (a0x (c0o K) (pv 5) (b0w (a0c (a1v K (pv 1) (c0m (s0q m0f a0j)) (ops:=λv i=>[v,i]) (htl:=λ_ _=>rfl)) (a0c (j0a (i0m K) rfl B.tuple_ j0x (a0c (pv 1) a0f)) (a0c (a0x (c0o K) (pv 1) (c0b (c0g K) (pv 1) d0h (c0m a0j))) (a0c (b0w a0f) (a0c (a0r (i0n K) rfl B.sorted_ h0x (a0c (a0x (c0o K) (pv 1) (b0w (a0c (b0k g_law_draw (hr.mono (by decide)) (a0c (pv 0) (a0c (pv 2) a0f))) a0f))) a0f)) (a0c i0z a0f)))))))))
  (a0p (b0d (c0n (b0c K) (pv 5) (b0k g_law_draw (hr.mono (by decide)) (a0c (pv 0) (a0c a0j a0f))) (λ_ _=>rfl)))))))),(a0l (a0u (a0n (a0a a0b (a0a (a0h a0w (b0f b0q (a0a a0b a0d)) a0g) a0d))) rfl)
  (a0l (a0u (a0n (a0a a0b (a0a (a0h b0p (a0h c0p (b0i (a0a a0g a0d)) a0b) a0b) (a0a a0b a0d)))) rfl)
  (a0l (a0u (b0i (a0a (a0h c0p (a0h c0p (d0p a0b d0n (b0r a0b)) (b0i (a0a a0b a0d))) (d0p a0b (b0r (a0h a0w a0b a0g)) d0n)) (a0a (a0h c0p (a0h c0p (d0p a0b d0n (b0r a0b)) (b0i (a0a a0b a0d))) (d0p a0b (b0r a0b) d0n)) (a0a (a0h c0p (d0p a0b d0n (b0r a0b)) (d0p a0b (b0r (a0h a0w a0b a0g)) d0n)) a0d)))) rfl)
  (a0l (a0u (a0h c0p a0b (b0i (a0a (z0o a0b (b0r (i0v a0g))) (a0a (b0f j0w (a0a a0b a0d)) (a0a (a0h c0p a0b (d0p a0b d0n (b0r a0g))) (a0a (b0i a0d) (a0a (b0f i0l (a0a (a0h c0p a0b (b0i (a0a (a0n (a0a a0b (a0a a0b a0d))) a0d))) a0d)) (a0a g0q a0d)))))))) rfl)
  (a0v (a0h b0p a0b (a0n (a0a a0b (a0a a0g a0d)))))))))⟩) ?_
 rintro ss q ⟨n,m,C,rfl,hn,hl,hC,hm1,hm,hq⟩
 refine⟨rfl,rfl,?_⟩
 have eC:EL 1 12 24 (a0e C):=.nats hl λi hi=>by have:=hC i hi;omega
 have lnI:(((a0e C).length:Nat):Int)+1=((C.length+1:Nat):Int):=by rw[a0k];omega
 refine cutS (λρ=>∃t:Nat,t<=C.length/\ρ=[.tp (n+1),.vl (lstN C),nv m,nv t,.un,.un]) (λM hM=>⟨rfl,n,(((a0e C).length:Nat):Int)+1,rfl,by omega,by rw[lnI];exact Dv.small (by omega) (by omega),λr hr=>hM _ ⟨r,by rw[a0k]at hr;omega,rfl⟩⟩) ?_
 rintro _ ⟨t,ht,rfl⟩
 refine cutS (λρ=>∃d:D,El 1 12 d/\ρ=[.tp (n+2),.vl (lstN C),nv m,nv t,.vl d,.un]) (λM hM=>⟨by simp,by rw[a0k];simp;omega,?_⟩) ?_
 ·have e0:[D.int 0]++a0e C=a0e (0::C):=rfl
  refine e1w (xs:=0::C) (i:=t) rfl (by simp;omega) ?_
  have hv:(0::C).getD t 0<900:=by
   have:(0::C).getD t 0∈0::C:=b1h (by simp;omega)
   rcases List.mem_cons.mp this with h | h
   ·omega
   ·have:=hC _ h;omega
  exact⟨rfl,n+1,_,m,rfl,by omega,hv,by omega,λd hd=>hM _ ⟨d,hd,rfl⟩⟩
 rintro _ ⟨d,hd,rfl⟩
 have t1:((t:Nat):Int)+1=((t+1:Nat):Int):=by omega
 have i1:El 2 700 (.lst ((L2.cutD (a0e C) none (some ((t:Nat):Int))++[d])++L2.cutD (a0e C) (some (((t:Nat):Int)+1)) none)):=by
  rw[t1];exact(((eC.to t).app (.one hd)).app (eC.fr (t+1))).l7 (by omega)
 have i2:El 2 700 (.lst ((L2.cutD (a0e C) none (some ((t:Nat):Int))++[d])++L2.cutD (a0e C) (some ((t:Nat):Int)) none)):=(((eC.to t).app (.one hd)).app (eC.fr t)).l7 (by omega)
 have i3:El 2 700 (.lst (L2.cutD (a0e C) none (some ((t:Nat):Int))++L2.cutD (a0e C) (some (((t:Nat):Int)+1)) none)):=by
  rw[t1];exact((eC.to t).app (eC.fr (t+1))).l7 (by omega)
 have b1:=(eC.to t).ln
 have b2:=(eC.fr t).ln
 have b3:=(eC.fr (t+1)).ln
 rw[<- t1]at b3
 refine cutS (λρ=>∃xs:List D,xs.length=3/\(∀x∈xs,El 2 700 x)/\ρ=[.tp (n+2),.vl (lstN C),nv m,nv t,.vl d,.ow xs]) (λM hM=>?_) ?_
 ·have L:∀ {x y:List D},x.length<=1000->y.length<=1000->x.length+y.length<=1000000:=λa b=>by omega
  refine⟨by simp,?_⟩
  refine⟨L (by omega) (by simp),?_⟩
  refine⟨L (by rw[List.length_append];simp;omega) (by omega),?_⟩
  refine⟨by simp,?_⟩
  refine⟨L (by omega) (by simp),?_⟩
  refine⟨L (by rw[List.length_append];simp;omega) (by omega),?_⟩
  refine⟨L (by omega) (by omega),?_⟩
  refine⟨by simp,hM _ ⟨_,rfl,?_,rfl⟩⟩
  intro x hx
  simp only[List.mem_cons,List.not_mem_nil,or_false]at hx
  rcases hx with rfl | rfl | rfl
  ·exact i1
  ·exact i2
  ·exact i3
 rintro _ ⟨xs,hx3,hxs,rfl⟩
 refine cutS (λρ=>∃xs:List D,xs.length=9/\(∀x∈xs,El 2 700 x)/\ρ=[.tp (n+3),.vl (lstN C),nv m,nv t,.vl d,.ow xs]) (λM hM=>?_) ?_
 ·have L:∀ {x y:List D},x.length<=1000->y.length<=1000->x.length+y.length<=1000000:=λa b=>by omega
  have cl:(a0e C).length<=24:=by rw[a0k];exact hl
  have c1:=(eC.cut none (some 1)).ln
  refine⟨rfl,?_⟩
  refine⟨L (by omega) (by omega),?_⟩
  refine⟨by simp,?_⟩
  refine⟨rfl,n+2,m,rfl,by omega,Dv.small (by omega) (by omega),λr hr=>?_⟩
  refine⟨by simp,L (by omega) (by simp),?_⟩
  have es:a0e C++[D.int (r:Int)]=(castL (C++[r])).map D.int:=by rw[e0r,f0d]
  refine g0p (ns:=castL (C++[r])) (by rw[<- es];rfl) (by unfold castL;rw[List.length_map,List.length_append,List.length_singleton];omega) λns' pm up=>?_
  refine⟨by simp,L (by omega) (by simp),hM _ ⟨_,?_,?_,rfl⟩⟩
  ·rw[List.length_append,hx3];rfl
  ·intro x hx
   rcases List.mem_append.mp hx with h | h
   ·exact hxs x h
   ·simp only[List.mem_cons,List.not_mem_nil,or_false]at h
    rcases h with rfl | rfl | rfl | rfl | rfl | rfl
    ·exact eC.rev.l7 (by decide)
    ·exact eC.t7 (by decide)
    ·exact(eC.app (eC.cut none (some 1))).l7 (by decide)
    ·exact EL.l7 (n:=0) .nil (by decide)
    ·refine EL.l7 (n:=25) ⟨?_,λy hy=>?_⟩ (by decide)
     ·rw[List.length_map,pm.length_eq]
      unfold castL
      rw[List.length_map,List.length_append,List.length_singleton];omega
     ·obtain⟨z,hz,rfl⟩:=List.mem_map.mp hy
      have hz:=pm.mem_iff.mp hz
      unfold castL at hz
      obtain⟨i,hi,rfl⟩:=List.mem_map.mp hz
      refine(El.nat (n:=i) ?_).up (by decide) (by decide)
      rcases List.mem_append.mp hi with h | h
      ·have:=hC i h;omega
      ·rw[List.mem_singleton.mp h];omega
    ·exact .non
 rintro _ ⟨xs,hx9,hxs,rfl⟩
 refine⟨rfl,n+3,9,rfl,by omega,Dv.small (by decide) (by decide),λi hi=>?_⟩
 obtain⟨d',hd',hm'⟩:=q0j (xs:=xs) (i:=i) (by omega)
 exact j0g rfl hd' (hq d' _ (hxs d' hm') (by omega))
end
def wB:Nat->Nat
 | 0=>250
 | n+1=>3*(wB n+1)+1
def tB:Nat->Nat
 | 0=>2
 | n+1=>4+4*tB n
def s0e:Nat->ASp
 | 0=>λ_ _=>False
 | J+1=>λss q=>∃n j:Nat,j<=J/\ss=[.tp n,nv j]/\n+tB j<=20000000/\j<=3/\∀(d:D) (n':Nat),El (j+1) (wB j) d->n'<=n+tB j->q (.d d) [.tp n',nv j]
theorem y0d {j:Nat}(h:j<=3):250<=wB j/\wB j<=6802/\2<=tB j/\tB j<=212:=by
 match j,h with
 | 0,_=>decide
 | 1,_=>decide
 | 2,_=>decide
 | 3,_=>decide
theorem El.sh:El 1 12 (.str "hang"):=⟨by decide +kernel,by simp[D.depth],by simp[wgD]⟩
theorem El.su:El 1 12 (.str "unlike"):=⟨by decide +kernel,by simp[D.depth],by simp[wgD]⟩
theorem El.se:El 1 12 (.str ""):=⟨by decide +kernel,by simp[D.depth],by simp[wgD]⟩
theorem El.big:El 0 250 (.int (10^(59:Int).toNat)):=⟨by decide +kernel,by simp[D.depth],by simp only[wgD];split <;> omega⟩
def d1i:ASp:=λss q=>∃(n m:Nat) (d:D),ss=[.tp n,.vl d,nv m]/\n<=1000000/\1<=m/\m<=24/\p0k d/\∀(d':D) (n':Nat),El 8 140000 d'->n'<=n+50->q (.d d') [.tp n',.vl d,nv m]
section
variable {P:Program}{w:World}{K:PySem.W.Frag}{mg:Str->Option Value}{base:Heap}
theorem h0f (j k:Nat)(dn:DefN K mg "_law_thing" g0t ["_law_tape_here", "_law_deep"])(B:BI mg)(g_law_draw:OkN P w K mg base 1 "_law_draw" ["_law_tape_here", "_law_many"] (spA K o0x))(g_law_thing:OkN P w K mg base (k+1) "_law_thing" ["_law_tape_here", "_law_deep"] (spA K (s0e j))):OkN P w K mg base (k+2) "_law_thing" ["_law_tape_here", "_law_deep"] (spA K (s0e (j+1))):=by
 refine dn.aokz (k:=k+1) h0c (λj=>j==0||j==1) [.un,.un] (s0e (j+1)) rfl (λf cdv A outer s H E hr=>have hu:=e0z hr;⟨_,(g1w (j1s (i:=2) h0c.nd rfl (by first | exact Or.inl rfl | exact Or.inr rfl) (j1t (b0s b0x i0z (b0s b0x j0z (b0s b0x j0z (b0s b0x a0j (b0s b0x a0j (b0s p0u (s0q m0f a0j) (b0s b0x c0x (b0s b0x c0x (b0s b0x c0x (b0s h0g (e0c a0f) (b0s r0e (b0w a0f) (b0s b0x c0x (b0s n0g (a0x n0w a0j a0j) (b0s h0g (e0c (a0c c0x a0f)) (b0s r0e (b0w (a0c a0j a0f)) z0i)))))))))))))))) (.inl rfl))
  (f0y (d0a (PW.pt (i0x (a0s (c0e K hr.units) (pv 1) a0j (a0y _)) (h0n (a0s (c0e K hr.units) (b0k g_law_draw (hr.mono (by omega)) (a0c (pv 0) (a0c a0j a0f))) a0j (a0y _)))))
  (a0p (b0d (c0n (b0c K) (pv 2) (b0k g_law_draw (hr.mono (by omega)) (a0c (pv 0) (a0c a0j a0f))) (λ_ _=>rfl))))
  b0g)
  (f0y (k0k (i:=3) ["_law_turn"] [0,1] h0c.nd rfl (by first | exact Or.inl rfl | exact Or.inr rfl) rfl (Blk.of (a0m g0t) m0l) (e0q rfl B.range_ (a0c (b0k g_law_draw (hr.mono (by omega)) (a0c (pv 0) (a0c a0j a0f))) a0f)) (λ_ _ _ _ nd=>(a0z (i:=0) nd rfl (by first | exact Or.inl rfl | exact Or.inr rfl))) (λ_ _ _ _=>f0i) (λ_ _ _ _=>(b0k g_law_thing (hr.mono (by omega)) (a0c (pv 1) (a0c (a0x g0w (pv 2) a0j) a0f)))))
  (a1o (b0d (c0n (b0c K) (b0w (a0c (pv 3) (a0c (j0a (i0m K) rfl B.tuple_ j0x (a0c (pv 3) a0f)) a0f))) (b0k g_law_draw (hr.mono (by omega)) (a0c (pv 0) (a0c a0j a0f))) (λ_ _=>rfl))))))),(a0l (a0u (b0i (a0a g0q (a0a g0c (a0a g0c (a0a a0g (a0a a0g (a0a (i0v a0g) (a0a d0o (a0a d0o (a0a d0o (a0a (c0l a0d) (a0a (b0i a0d) (a0a d0o (a0a (a0h e0y a0g a0g) (a0a (c0l (a0a d0o a0d)) (a0a (b0i (a0a a0g a0d)) a0d)))))))))))))))) rfl)
  (a0l (b0v (d0x (a0o (a0h c0f a0b a0g)) (a0o (a0h c0f (a0n (a0a a0b (a0a a0g a0d))) a0g)))
  (a0v (a0h b0p a0b (a0n (a0a a0b (a0a a0g a0d)))))
  b0a)
  (a0l (h0a (b0t (e0l (a0a (a0n (a0a a0b (a0a a0g a0d))) a0d)) (a0q rfl) d0r (a0n (a0a a0b (a0a (a0h a0w a0b a0g) a0d)))) rfl)
  (a0v (a0h b0p (b0i (a0a a0b (a0a (b0f j0w (a0a a0b a0d)) a0d))) (a0n (a0a a0b (a0a a0g a0d))))))))⟩) ?_
 rintro ss q ⟨n,e,hJ,rfl,hn,hj,hq⟩
 obtain⟨w1,w2,w3,w4⟩:=y0d hj
 refine⟨rfl,rfl,?_⟩
 have leafs:∀d∈[D.non,.bl true,.bl false,.int 0,.int 5,.int (-1),.str "",.str "hang",.str "unlike",.tup [],.lst [],.str "0",.int (10^(59:Int).toNat),.tup [.str "hang"],.lst [.int 0]],El (e+1) (wB e) d:=λd hd=>by
  refine El.up (k:=1) (w:=250) ?_ (by omega) w1
  have I:∀ {i:Int},-1<=i->i<1000->El 1 250 (.int i):=λa b=>(El.int a b).up (by decide) (by decide)
  simp only[List.mem_cons,List.not_mem_nil,or_false]at hd
  rcases hd with rfl | rfl | rfl | rfl | rfl | rfl | rfl | rfl | rfl | rfl | rfl | rfl | rfl | rfl | rfl
  ·exact .non
  ·exact .bl
  ·exact .bl
  ·exact I (by decide) (by decide)
  ·exact I (by decide) (by decide)
  ·exact I (by decide) (by decide)
  ·exact El.se.up (by decide) (by decide)
  ·exact El.sh.up (by decide) (by decide)
  ·exact El.su.up (by decide) (by decide)
  ·exact(EL.tup (k:=0) (w:=0) (n:=0) .nil (by decide)).up (by decide) (by decide)
  ·exact(EL.lst (k:=0) (w:=0) (n:=0) .nil (by decide)).up (by decide) (by decide)
  ·exact El.s0.up (by decide) (by decide)
  ·exact El.big.up (by decide) (by decide)
  ·exact(EL.tup (k:=0) (w:=12) (n:=1) (.one ⟨El.sh.sm,by simp[D.depth],El.sh.wt⟩) (by decide)).up (by decide) (by decide)
  ·exact(EL.lst (k:=0) (w:=10) (n:=1) (.one (El.int (by decide) (by decide))) (by decide)).up (by decide) (by decide)
 have p59:CPow 10 59:=⟨by decide,by decide,by decide⟩
 refine cutS (λρ=>ρ=[.tp n,nv e,.ow [D.non,.bl true,.bl false,.int 0,.int 5,.int (-1),.str "",.str "hang",.str "unlike",.tup [],.lst [],.str "0",.int (10^(59:Int).toNat),.tup [.str "hang"],.lst [.int 0]],.un]) (λM hM=>⟨by simp,by simp,p59,by simp,by simp,by simp,hM _ rfl⟩) ?_
 rintro _ rfl
 refine cutS (λρ=>(∃i,e=i+1)/\ρ=[.tp (n+1),nv e,.ow [D.non,.bl true,.bl false,.int 0,.int 5,.int (-1),.str "",.str "hang",.str "unlike",.tup [],.lst [],.str "0",.int (10^(59:Int).toNat),.tup [.str "hang"],.lst [.int 0]],.un]) (λM hM=>?_) ?_
 ·have leaf:∀n1,n1<=n+1->aRet (aOp gIx (aVar 2) (m1p o0x (j1l (aVar 0) (j1l (aC (.d (.int 15))) aNil)))) ⟨M,λr ρ=>fin (λj=>j==0||j==1) r ρ λr' ρ'=>q r' (outS [.tp n,nv e] ρ'),λ_=>False,λ_=>False⟩ [.tp n1,nv e,.ow [D.non,.bl true,.bl false,.int 0,.int 5,.int (-1),.str "",.str "hang",.str "unlike",.tup [],.lst [],.str "0",.int (10^(59:Int).toNat),.tup [.str "hang"],.lst [.int 0]],.un]:=λn1 h1=>by
   refine⟨rfl,n1,15,rfl,by omega,Dv.small (by decide) (by decide),λi hi=>?_⟩
   obtain⟨d,hd,hm⟩:=q0j (xs:=[D.non,.bl true,.bl false,.int 0,.int 5,.int (-1),.str "",.str "hang",.str "unlike",.tup [],.lst [],.str "0",.int (10^(59:Int).toNat),.tup [.str "hang"],.lst [.int 0]]) (i:=i) (by show i<15;omega)
   exact j0g rfl hd (hq d _ (leafs d hm) (by omega))
  cases e with
  | zero=>exact b0m (b:=true) rfl rfl (by simp[D.depth]) rfl (leaf n (by omega))
  | succ i =>
   refine b0m (b:=false) rfl rfl (by simp[D.depth]) (by simp only[eqD];rw[beq_eq_false_iff_ne];omega) ?_
   refine⟨rfl,n,3,rfl,by omega,Dv.small (by decide) (by decide),λr hr=>b0m rfl rfl (by simp[D.depth]) rfl (ite2 (λ_=>leaf (n+1) (by omega)) λ_=>hM _ ⟨⟨i,rfl⟩,rfl⟩)⟩
 rintro _ ⟨⟨i,rfl⟩,rfl⟩
 obtain⟨j,rfl⟩:∃j',j=j'+1:=⟨j - 1,by omega⟩
 generalize [D.non,.bl true,.bl false,.int 0,.int 5,.int (-1),.str "",.str "hang",.str "unlike",.tup [],.lst [],.str "0",.int (10^(59:Int).toNat),.tup [.str "hang"],.lst [.int 0]]=lv
 obtain⟨v1,v2,v3,v4⟩:=y0d (show i<=3 by omega)
 have et:tB (i+1)=4+4*tB i:=rfl
 have ew:wB (i+1)=3*(wB i+1)+1:=rfl
 refine cutS (λρ=>∃(n2:Nat) (ds:List D),n2<=n+2+3*tB i/\EL (i+1) (wB i) 3 ds/\ρ=[.tp n2,nv (i+1),.ow lv,.ow ds]) (λM hM=>⟨rfl,n+1,4,rfl,by omega,Dv.small (by decide) (by decide),λr hr=>⟨⟨by omega,by omega⟩,by rw[d0s];omega,?_⟩⟩) ?_
 ·rw[Int.toNat_natCast]
  refine f0k (λk acc ρ=>∃n2:Nat,n2<=n+2+k*tB i/\k<=3/\EL (i+1) (wB i) k acc/\ρ=[.tp n2,nv (i+1),.ow lv,.un]) (λ_ _ _ _ _=>trivial) ?_ ?_ _ ⟨n+2,by omega,by omega,.nil,rfl⟩
  ·rintro k d acc _ M2 hk ⟨n2,h1,h2,h3,rfl⟩ hM2
   obtain⟨lt,rfl⟩:=j0t hk
   have ei:((i+1:Nat):Int) - 1=(i:Nat):=by omega
   have kb:k*tB i<=2*tB i:=Nat.mul_le_mul_right _ (by omega)
   refine⟨rfl,n2,i,by omega,by rw[<- p0d ei] <;> rfl,by omega,by omega,λd n3 hd h4=>hM2 _ _ ⟨n3,by rw[Nat.add_mul];omega,by omega,h3.app (.one hd),rfl⟩⟩
  ·rintro acc _ ⟨n2,h1,h2,h3,rfl⟩
   rw[d0s]at h1 h2 h3
   have kb:r*tB i<=3*tB i:=Nat.mul_le_mul_right _ h2
   exact hM _ ⟨n2,acc,by omega,h3.up (Nat.le_refl _) (Nat.le_refl _) h2,rfl⟩
 rintro _ ⟨n2,ds,h1,h2,rfl⟩
 refine⟨by simp,rfl,n2,2,rfl,by omega,Dv.small (by decide) (by decide),λr hr=>?_⟩
 obtain⟨d,hd,hm⟩:=q0j (xs:=[D.lst ds,.tup ds]) (i:=r) (by show r<2;omega)
 refine j0g rfl hd (hq d _ ?_ (by omega))
 simp only[List.mem_cons,List.not_mem_nil,or_false]at hm
 rcases hm with rfl | rfl
 ·exact(h2.lst (by decide)).up (by omega) (by omega)
 ·exact(h2.tup (by decide)).up (by omega) (by omega)
theorem v0c (dn:DefN K mg "_law_bent" j0q ["_law_tape_here", "_law_paper_here", "_law_many"])(B:BI mg)(g_law_draw:OkN P w K mg base 1 "_law_draw" ["_law_tape_here", "_law_many"] (spA K o0x))(g_law_bent_places:OkN P w K mg base 3 "_law_bent_places" ["_law_tape_here", "_law_places_here", "_law_many"] (spA K w0j))(g_law_some:OkN P w K mg base 2 "_law_some" ["_law_tape_here", "_law_many"] (spA K y0a)):OkN P w K mg base 4 "_law_bent" ["_law_tape_here", "_law_paper_here", "_law_many"] (spA K d1i):=by
 refine dn.aokz (k:=3) e0x (λj=>j==0||j==1||j==2) [.un,.un,.un,.un,.un,.un] d1i rfl (λf cdv A outer s H E hr=>have hu:=e0z hr;⟨_,(f0y (x0a (pv 1) (l0y K (n:=2) rfl (e0t (a0z (i:=3) e0x.nd rfl (by first | exact Or.inl rfl | exact Or.inr rfl)) (e0t (a0z (i:=4) e0x.nd rfl (by first | exact Or.inl rfl | exact Or.inr rfl)) l0x))))
  (f0y (b0b (i:=5) e0x.nd rfl (by first | exact Or.inl rfl | exact Or.inr rfl) (b0k g_law_draw (hr.mono (by decide)) (a0c (pv 0) (a0c a0j a0f))))
  (f0y (d0a (a0s (c0e K hr.units) (pv 5) a0j (a0y _))
  (a0i (b0b (i:=6) e0x.nd rfl (by first | exact Or.inl rfl | exact Or.inr rfl) (g1b (b0s h0g (e0c (a0c c0x (a0c (pv 4) a0f))) (b0s h0g (e0c (a0c c0x (a0c (pv 4) a0f))) (b0s h0g (e0c (a0c (pv 3) a0f)) (b0s h0g (e0c (a0c (pv 3) (a0c (pv 4) (a0c a0j a0f)))) (b0s r0e (b0w (a0c (pv 3) (a0c (pv 4) a0f))) (b0s h0g (e0c (a0c c0x (a0c (pv 4) a0f))) (b0s h0g (e0c (a0c a0j (a0c (pv 4) a0f))) z0i)))))))))
  (a0p (b0d (c0n (b0c K) (pv 6) (b0k g_law_draw (hr.mono (by decide)) (a0c (pv 0) (a0c a0j a0f))) (λ_ _=>rfl)))))
  b0g)
  (f0y (d0a (a0s (c0e K hr.units) (pv 3) c0x (a0y _))
  (a0p (b0d (e0c (a0c (pv 3) (a0c (b0k g_law_bent_places (hr.mono (by decide)) (a0c (pv 0) (a0c (pv 4) (a0c (pv 2) a0f)))) a0f)))))
  b0g)
  (f0y (b0b (i:=7) e0x.nd rfl (by first | exact Or.inl rfl | exact Or.inr rfl) (b0k g_law_draw (hr.mono (by decide)) (a0c (pv 0) (a0c (a0x e0d (a0r (b0e K) rfl B.len_ c0q (a0c (pv 4) a0f)) a0j) a0f))))
  (f0y (d0a (PW.pt (k0x (a0s (c0e K hr.units) (pv 5) a0j (a0y _)) (i0d (a0s q0w (a0r (b0e K) rfl B.len_ c0q (a0c (pv 4) a0f)) a0j (a0y _)))))
  (a0p (b0d (e0c (a0c (pv 3) (a0c (a0x (c0o K) (b0w (a0c (a0r (i0n K) rfl B.sorted_ h0x (a0c (a0x (c0o K) (c0n (b0c K) (pv 4) a0j (λ_ _=>rfl)) (c0n (b0c K) (pv 4) (s0q m0f a0j) (λ_ _=>rfl))) a0f)) a0f)) (c0b (c0g K) (pv 4) (c0m a0j) (c0m (s0q m0f a0j)))) a0f)))))
  b0g)
  (f0y (d0a (a0s (c0e K hr.units) (pv 5) a0j (a0y _))
  (a0p (b0d (e0c (a0c (pv 3) (a0c (a1v K (pv 4) (c0m (s0q m0f a0j)) (ops:=λv i=>[v,i]) (htl:=λ_ _=>rfl)) a0f)))))
  b0g)
  (f0y (d0a (a0s (c0e K hr.units) (pv 5) a0j (a0y _))
  (a0p (b0d (e0c (a0c (pv 3) (a0c (c0n (b0c K) (b0w (a0c (a0x (c0o K) (a0x (c0o K) (c0b (c0g K) (pv 4) d0h (c0m (pv 7))) (b0w (a0c (b0w a0f) a0f))) (c0b (c0g K) (pv 4) (c0m (pv 7)) d0h)) (a0c (j0a (i0m K) rfl B.tuple_ j0x (a0c (pv 4) a0f)) (a0c (b0w a0f) (a0c (a0x (c0o K) (pv 4) (c0b (c0g K) (pv 4) d0h (c0m a0j))) (a0c i0z a0f)))))) (b0k g_law_draw (hr.mono (by decide)) (a0c (pv 0) (a0c a0j a0f))) (λ_ _=>rfl)) a0f)))))
  b0g)
  (f0y (d0a (PW.pt (k0x (a0s s0v (pv 7) (a0r (b0e K) rfl B.len_ c0q (a0c (pv 4) a0f)) (a0y _)) (i0d (a0s (c0e K hr.units) (pv 5) a0j (a0y _)))))
  (a0i (b0b (i:=8) e0x.nd rfl (by first | exact Or.inl rfl | exact Or.inr rfl) (b0k g_law_draw (hr.mono (by decide)) (a0c (pv 0) (a0c (a0x e0d (a0r (b0e K) rfl B.len_ c0q (a0c (c0n (b0c K) (pv 4) (pv 7) (λ_ _=>rfl)) a0f)) a0j) a0f))))
  (a0p (b0d (e0c (a0c (pv 3) (a0c (a0x (c0o K) (a0x (c0o K) (c0b (c0g K) (pv 4) d0h (c0m (pv 7))) (b0w (a0c (c0b (c0g K) (c0n (b0c K) (pv 4) (pv 7) (λ_ _=>rfl)) d0h (c0m (pv 8))) (a0c (c0b (c0g K) (c0n (b0c K) (pv 4) (pv 7) (λ_ _=>rfl)) (c0m (pv 8)) d0h) a0f)))) (c0b (c0g K) (pv 4) (c0m (a0x e0d (pv 7) a0j)) d0h)) a0f))))))
  b0g)
  (f0y (d0a (a0s s0v (pv 7) (a0r (b0e K) rfl B.len_ c0q (a0c (pv 4) a0f)) (a0y _))
  (a0p (b0d (e0c (a0c (pv 3) (a0c (a0x (c0o K) (a0x (c0o K) (c0b (c0g K) (pv 4) d0h (c0m (pv 7))) (b0w (a0c (b0k g_law_bent_places (hr.mono (by decide)) (a0c (pv 0) (a0c (c0n (b0c K) (pv 4) (pv 7) (λ_ _=>rfl)) (a0c (pv 2) a0f)))) a0f))) (c0b (c0g K) (pv 4) (c0m (a0x e0d (pv 7) a0j)) d0h)) a0f)))))
  b0g)
  (a1o (b0d (e0c (a0c (pv 3) (a0c (a0x (c0o K) (pv 4) (b0w (a0c (b0k g_law_some (hr.mono (by decide)) (a0c (pv 0) (a0c (pv 2) a0f))) a0f))) a0f))))))))))))))),(a0l (q0o a0b (j0m (c0t (a0q rfl) (c0t (a0q rfl) h0j (λ_ _ _=>g0a)) (λ_ _ _=>g0a))))
  (a0l (a0u (a0n (a0a a0b (a0a a0g a0d))) rfl)
  (a0l (b0v (a0o (a0h c0f a0b a0g))
  (a0l (a0u (b0i (a0a (c0l (a0a d0o (a0a a0b a0d))) (a0a (c0l (a0a d0o (a0a a0b a0d))) (a0a (c0l (a0a a0b a0d)) (a0a (c0l (a0a a0b (a0a a0b (a0a a0g a0d)))) (a0a (b0i (a0a a0b (a0a a0b a0d))) (a0a (c0l (a0a d0o (a0a a0b a0d))) (a0a (c0l (a0a a0g (a0a a0b a0d))) a0d)))))))) rfl)
  (a0v (a0h b0p a0b (a0n (a0a a0b (a0a a0g a0d))))))
  b0a)
  (a0l (b0v (a0o (a0h c0f a0b d0o))
  (a0v (c0l (a0a a0b (a0a (a0n (a0a a0b (a0a a0b (a0a a0b a0d)))) a0d))))
  b0a)
  (a0l (a0u (a0n (a0a a0b (a0a (a0h a0w (b0f b0q (a0a a0b a0d)) a0g) a0d))) rfl)
  (a0l (b0v (g0z (a0o (a0h c0f a0b a0g)) (a0o (a0h c0i (b0f b0q (a0a a0b a0d)) a0g)))
  (a0v (c0l (a0a a0b (a0a (a0h c0p (b0i (a0a (b0f i0l (a0a (a0h c0p (a0h b0p a0b a0g) (a0h b0p a0b (i0v a0g))) a0d)) a0d)) (d0p a0b (b0r a0g) (b0r (i0v a0g)))) a0d))))
  b0a)
  (a0l (b0v (a0o (a0h c0f a0b a0g))
  (a0v (c0l (a0a a0b (a0a (z0o a0b (b0r (i0v a0g))) a0d))))
  b0a)
  (a0l (b0v (a0o (a0h c0f a0b a0g))
  (a0v (c0l (a0a a0b (a0a (a0h b0p (b0i (a0a (a0h c0p (a0h c0p (d0p a0b d0n (b0r a0b)) (b0i (a0a (b0i a0d) a0d))) (d0p a0b (b0r a0b) d0n)) (a0a (b0f j0w (a0a a0b a0d)) (a0a (b0i a0d) (a0a (a0h c0p a0b (d0p a0b d0n (b0r a0g))) (a0a g0q a0d)))))) (a0n (a0a a0b (a0a a0g a0d)))) a0d))))
  b0a)
  (a0l (b0v (g0z (a0o (a0h c0i a0b (b0f b0q (a0a a0b a0d)))) (a0o (a0h c0f a0b a0g)))
  (a0l (a0u (a0n (a0a a0b (a0a (a0h a0w (b0f b0q (a0a (a0h b0p a0b a0b) a0d)) a0g) a0d))) rfl)
  (a0v (c0l (a0a a0b (a0a (a0h c0p (a0h c0p (d0p a0b d0n (b0r a0b)) (b0i (a0a (d0p (a0h b0p a0b a0b) d0n (b0r a0b)) (a0a (d0p (a0h b0p a0b a0b) (b0r a0b) d0n) a0d)))) (d0p a0b (b0r (a0h a0w a0b a0g)) d0n)) a0d)))))
  b0a)
  (a0l (b0v (a0o (a0h c0i a0b (b0f b0q (a0a a0b a0d))))
  (a0v (c0l (a0a a0b (a0a (a0h c0p (a0h c0p (d0p a0b d0n (b0r a0b)) (b0i (a0a (a0n (a0a a0b (a0a (a0h b0p a0b a0b) (a0a a0b a0d)))) a0d))) (d0p a0b (b0r (a0h a0w a0b a0g)) d0n)) a0d))))
  b0a)
  (a0v (c0l (a0a a0b (a0a (a0h c0p a0b (b0i (a0a (a0n (a0a a0b (a0a a0b a0d))) a0d))) a0d))))))))))))))⟩) ?_
 rintro ss q ⟨n,m,d,rfl,hn,hm1,hm,hd,hq⟩
 obtain⟨x,ds,rfl,hx,hds,hw⟩:∃(x:Str) (ds:List D),d = .tup [.str x,.lst ds]/\El 1 12 (.str x)/\EL 2 700 24 ds/\((x = "unlike" /\ ∃C:List Nat,ds=a0e C/\C.length<=24/\∀i∈C,i<24)∨(x = "hang" /\ ∃L:List (List Nat),ds=L.map lstN/\L.length<=24/\∀C∈L,C.length<=24/\∀i∈C,i<24)):=by
  rcases hd with⟨C,rfl,h1,h2⟩ | ⟨L,rfl,h1,h2⟩
  ·exact⟨_,_,rfl,.su,(EL.nats h1 λi hi=>by have:=h2 i hi;omega).up (by decide) (by decide) (Nat.le_refl _),.inl ⟨rfl,C,rfl,h1,h2⟩⟩
  ·refine⟨_,_,rfl,.sh,⟨by rw[List.length_map];exact h1,λy hy=>?_⟩,.inr ⟨rfl,L,rfl,h1,h2⟩⟩
   obtain⟨C,hC,rfl⟩:=List.mem_map.mp hy
   exact(EL.nats (h2 C hC).1 λi hi=>by have:=(h2 C hC).2 i hi;omega).l7 (by decide)
 have dl:=hds.ln
 have L3:∀ {y:List D} {k:Nat},EL 2 700 k y->k<50->El 3 34350 (.lst y):=λh hk=>(h.lst hk).up (by decide) (by omega)
 have T3:∀ {y:List D} {k:Nat},EL 2 700 k y->k<50->El 3 34350 (.tup y):=λh hk=>(h.tup hk).up (by decide) (by omega)
 have wrap:∀ {w y:D},El 3 34350 w->El 3 34350 y->El 8 140000 (.tup [w,y]):=λhw h=>(EL.tup (k:=3) (w:=34350) (n:=2) ((EL.one hw).app (.one h)) (by decide)).up (by decide) (by decide)
 have hx3:El 3 34350 (.str x):=hx.up (by decide) (by decide)
 refine⟨rfl,rfl,?_⟩
 refine cutS (λρ=>ρ=[.tp n,.vl (.tup [.str x,.lst ds]),nv m,.vl (.str x),.vl (.lst ds),.un,.un,.un,.un]) (λM hM=>hM _ rfl) ?_
 rintro _ rfl
 refine cutS (λρ=>∃way:Nat,ρ=[.tp (n+1),.vl (.tup [.str x,.lst ds]),nv m,.vl (.str x),.vl (.lst ds),nv way,.un,.un,.un]) (λM hM=>⟨rfl,n,8,rfl,by omega,Dv.small (by decide) (by decide),λr hr=>hM _ ⟨r,rfl⟩⟩) ?_
 rintro _ ⟨way,rfl⟩
 refine cutS (λρ=>ρ=[.tp (n+1),.vl (.tup [.str x,.lst ds]),nv m,.vl (.str x),.vl (.lst ds),nv way,.un,.un,.un]) (λM hM=>b0m rfl rfl (by simp[D.depth]) rfl (ite2 (λ_=>?_) λ_=>hM _ rfl)) ?_
 ·refine cutS (λρ=>∃xs:List D,xs.length=7/\(∀y∈xs,El 8 140000 y)/\ρ=[.tp (n+1),.vl (.tup [.str x,.lst ds]),nv m,.vl (.str x),.vl (.lst ds),nv way,.ow xs,.un,.un]) (λM2 hM2=>⟨by simp,by simp,by simp,by simp,by simp,by simp,by simp,by simp,hM2 _ ⟨_,rfl,?_,rfl⟩⟩) ?_
  ·have hl:=L3 hds (by decide)
   have h0:El 3 34350 (.int 0):=(El.int (by decide) (by decide)).up (by decide) (by decide)
   intro y hy
   simp only[List.mem_cons,List.not_mem_nil,or_false]at hy
   rcases hy with rfl | rfl | rfl | rfl | rfl | rfl | rfl
   ·exact wrap (El.sh.up (by decide) (by decide)) hl
   ·exact wrap (El.su.up (by decide) (by decide)) hl
   ·exact((EL.one hx3).tup (by decide)).up (by decide) (by decide)
   ·exact((((EL.one hx3).app (.one hl)).app (.one h0)).tup (by decide)).up (by decide) (by decide)
   ·exact(((EL.one hx3).app (.one hl)).lst (by decide)).up (by decide) (by decide)
   ·exact wrap (El.se.up (by decide) (by decide)) hl
   ·exact wrap h0 hl
  rintro _ ⟨xs,h7,hxs,rfl⟩
  refine⟨rfl,n+1,7,rfl,by omega,Dv.small (by decide) (by decide),λi hi=>?_⟩
  obtain⟨d',hd',hm'⟩:=q0j (xs:=xs) (i:=i) (by omega)
  exact j0g rfl hd' (hq d' _ (hxs d' hm') (by omega))
 rintro _ rfl
 refine cutS (λρ=>(x = "hang" /\ ∃L:List (List Nat),ds=L.map lstN/\L.length<=24/\∀C∈L,C.length<=24/\∀i∈C,i<24)/\ρ=[.tp (n+1),.vl (.tup [.str x,.lst ds]),nv m,.vl (.str x),.vl (.lst ds),nv way,.un,.un,.un]) (λM hM=>?_) ?_
 ·rcases hw with⟨rfl,C,rfl,h1,h2⟩ | ⟨rfl,h⟩
  ·refine b0m (b:=true) rfl rfl (by simp[D.depth]) rfl ?_
   refine⟨rfl,n+1,m,C,rfl,by omega,h1,h2,hm1,hm,λd n' hd h3=>⟨by simp,hq _ _ (wrap hx3 (hd.up (by decide) (by decide))) (by omega)⟩⟩
  ·exact b0m (b:=false) rfl rfl (by simp[D.depth]) rfl (hM _ ⟨⟨rfl,h⟩,rfl⟩)
 clear hw
 rintro _ ⟨⟨rfl,L,rfl,hL,hC⟩,rfl⟩
 have lnI:((((L.map lstN).length:Nat):Int)+1)=((L.length+1:Nat):Int):=by rw[List.length_map];omega
 refine cutS (λρ=>∃t:Nat,t<=L.length/\ρ=[.tp (n+2),.vl (.tup [.str "hang",.lst (L.map lstN)]),nv m,.vl (.str "hang"),.vl (.lst (L.map lstN)),nv way,.un,nv t,.un]) (λM hM=>⟨rfl,n+1,(((L.map lstN).length:Nat):Int)+1,rfl,by omega,by rw[lnI];exact Dv.small (by omega) (by omega),λr hr=>hM _ ⟨r,by rw[List.length_map]at hr;omega,rfl⟩⟩) ?_
 rintro _ ⟨t,ht,rfl⟩
 have LL:∀ {x y:List D},x.length<=1000->y.length<=1000->x.length+y.length<=1000000:=λa b=>by omega
 have itm:∀i:Nat,i<L.length->atI (L.map lstN) ((i:Nat):Int)=some (lstN (L.getD i [])):=λi hi=>by
  refine s0c ?_
  rw[List.getElem?_map,List.getElem?_eq_getElem hi,List.getD_eq_getElem?_getD,List.getElem?_eq_getElem hi];rfl
 have itC:∀i:Nat,i<L.length->L.getD i []∈L:=λi hi=>by rw[List.getD_eq_getElem?_getD,List.getElem?_eq_getElem hi];exact List.getElem_mem hi
 have t1:((t:Nat):Int)+1=((t+1:Nat):Int):=by omega
 have b1:=(hds.to t).ln
 have b2:=(hds.fr t).ln
 have b3:=(hds.fr (t+1)).ln
 rw[<- t1]at b3
 have f3:EL 2 700 (24 - (t+1)) (L2.cutD (L.map lstN) (some (((t:Nat):Int)+1)) none):=by rw[t1];exact hds.fr (t+1)
 refine cutS (λρ=>ρ=[.tp (n+2),.vl (.tup [.str "hang",.lst (L.map lstN)]),nv m,.vl (.str "hang"),.vl (.lst (L.map lstN)),nv way,.un,nv t,.un]) (λM hM=>b0m rfl rfl (by simp[D.depth]) rfl (ite2 (λ_=>ite2 (λh2=>?_) λ_=>hM _ rfl) λ_=>hM _ rfl)) ?_
 ·have h2':2<=L.length:=by
   have h2:=of_decide_eq_true h2
   rw[List.length_map]at h2
   omega
  have im1:atI (L.map lstN) (-1)=some (lstN (L.getD (L.length - 1) [])):=by
   unfold atI ixN
   rw[if_neg (by omega),if_pos (by rw[List.length_map];omega),List.length_map]
   show(L.map lstN)[(-1+(L.length:Nat):Int).toNat]? = _
   rw[show(-1+(L.length:Nat):Int).toNat=L.length - 1 by omega,List.getElem?_map,List.getElem?_eq_getElem (by omega),List.getD_eq_getElem?_getD,List.getElem?_eq_getElem (by omega)]
   rfl
  obtain⟨a1,a2⟩:=hC _ (itC 0 (by omega))
  obtain⟨a3,a4⟩:=hC _ (itC (L.length - 1) (by omega))
  refine j0g (i:=0) (ds:=L.map lstN) (d:=lstN (L.getD 0 [])) rfl (itm 0 (by omega)) ?_
  refine j0g (i:=-1) (ds:=L.map lstN) (d:=lstN (L.getD (L.length - 1) [])) rfl im1 ?_
  generalize L.getD 0 []=A at a1 a2
  generalize L.getD (L.length - 1) []=B at a3 a4
  refine⟨LL (by rw[a0k];omega) (by rw[a0k];omega),?_⟩
  have es:a0e A++a0e B=(castL (A++B)).map D.int:=by rw[e0r];unfold a0e;rw[List.map_append]
  refine g0p (ns:=castL (A++B)) (by rw[<- es];rfl) (by unfold castL;rw[List.length_map,List.length_append];omega) λns' pm up=>?_
  have cx:=hds.cut (some 1) (some (-1))
  refine⟨by simp,LL (by simp) (by have:=cx.ln;omega),by simp,?_⟩
  refine hq _ _ (wrap hx3 (L3 (EL.app (n:=1) (m:=24) (.one ?_) cx) (by decide))) (by omega)
  refine EL.l7 (n:=48) ⟨?_,λy hy=>?_⟩ (by decide)
  ·rw[List.length_map,pm.length_eq]
   unfold castL
   rw[List.length_map,List.length_append];omega
  ·obtain⟨z,hz,rfl⟩:=List.mem_map.mp hy
   have hz:=pm.mem_iff.mp hz
   unfold castL at hz
   obtain⟨i,hi,rfl⟩:=List.mem_map.mp hz
   refine(El.nat (n:=i) ?_).up (by decide) (by decide)
   rcases List.mem_append.mp hi with h | h
   ·have:=a2 i h;omega
   ·have:=a4 i h;omega
 rintro _ rfl
 refine cutS (λρ=>ρ=[.tp (n+2),.vl (.tup [.str "hang",.lst (L.map lstN)]),nv m,.vl (.str "hang"),.vl (.lst (L.map lstN)),nv way,.un,nv t,.un]) (λM hM=>b0m rfl rfl (by simp[D.depth]) rfl (ite2 (λ_=>?_) λ_=>hM _ rfl)) ?_
 ·exact⟨rfl,by simp,hq _ _ (wrap hx3 (L3 hds.rev (by decide))) (by omega)⟩
 rintro _ rfl
 refine cutS (λρ=>ρ=[.tp (n+2),.vl (.tup [.str "hang",.lst (L.map lstN)]),nv m,.vl (.str "hang"),.vl (.lst (L.map lstN)),nv way,.un,nv t,.un]) (λM hM=>b0m rfl rfl (by simp[D.depth]) rfl (ite2 (λ_=>?_) λ_=>hM _ rfl)) ?_
 ·have e7:El 2 700 (.lst []):=EL.l7 (n:=0) .nil (by decide)
  have c1:=hds.cut none (some 1)
  refine⟨by simp,by simp,LL (by omega) (by simp),LL (by rw[List.length_append];simp;omega) (by omega),by simp,LL (by omega) (by have:=c1.ln;omega),by simp,rfl,n+2,5,rfl,by omega,Dv.small (by decide) (by decide),λi hi=>?_⟩
  obtain⟨d',hd',hm'⟩:=q0j (xs:=[D.lst ((L2.cutD (L.map lstN) none (some ((t:Nat):Int))++[.lst []])++L2.cutD (L.map lstN) (some ((t:Nat):Int)) none),.tup (L.map lstN),.lst [],.lst (L.map lstN++L2.cutD (L.map lstN) none (some 1)),.non]) (i:=i) (by show i<5;omega)
  refine j0g rfl hd' ⟨by simp,hq _ _ (wrap hx3 ?_) (by omega)⟩
  simp only[List.mem_cons,List.not_mem_nil,or_false]at hm'
  rcases hm' with rfl | rfl | rfl | rfl | rfl
  ·exact L3 (((hds.to t).app (.one e7)).app (hds.fr t)) (by omega)
  ·exact T3 hds (by decide)
  ·exact L3 (k:=0) .nil (by decide)
  ·exact L3 (hds.app c1) (by decide)
  ·exact .non
 rintro _ rfl
 refine cutS (λρ=>ρ=[.tp (n+2),.vl (.tup [.str "hang",.lst (L.map lstN)]),nv m,.vl (.str "hang"),.vl (.lst (L.map lstN)),nv way,.un,nv t,.un]) (λM hM=>ite2 (λh1=>b0m rfl rfl (by simp[D.depth]) rfl (ite2 (λ_=>?_) λ_=>hM _ rfl)) λ_=>hM _ rfl) ?_
 ·have h1':t<L.length:=by
   have h1:=of_decide_eq_true h1
   rw[List.length_map]at h1
   omega
  obtain⟨a1,a2⟩:=hC _ (itC t h1')
  have it:=itm t h1'
  generalize L.getD t []=A at a1 a2 it
  have eA:EL 1 12 24 (a0e A):=.nats a1 λi hi=>by have:=a2 i hi;omega
  have lnA:((((a0e A).length:Nat):Int)+1)=((A.length+1:Nat):Int):=by rw[a0k];omega
  refine cutS (λρ=>∃u:Nat,ρ=[.tp (n+3),.vl (.tup [.str "hang",.lst (L.map lstN)]),nv m,.vl (.str "hang"),.vl (.lst (L.map lstN)),nv way,.un,nv t,nv u]) (λM2 hM2=>?_) ?_
  ·refine j0g (i:=t) (ds:=L.map lstN) (d:=lstN A) rfl it ?_
   exact⟨rfl,n+2,(((a0e A).length:Nat):Int)+1,rfl,by omega,by rw[lnA];exact Dv.small (by omega) (by omega),λr hr=>hM2 _ ⟨r,rfl⟩⟩
  rintro _ ⟨u,rfl⟩
  refine j0g (i:=t) (ds:=L.map lstN) (d:=lstN A) rfl it ?_
  refine j0g (i:=t) (ds:=L.map lstN) (d:=lstN A) rfl it ?_
  have x1:=(eA.cut none (some ((u:Nat):Int))).l7 (by decide)
  have x2:=(eA.cut (some ((u:Nat):Int)) none).l7 (by decide)
  refine⟨by simp,LL (by omega) (by simp),LL (by rw[List.length_append];simp;omega) (by omega),by simp,?_⟩
  exact hq _ _ (wrap hx3 (L3 (((hds.to t).app ((EL.one x1).app (.one x2))).app f3) (by omega))) (by omega)
 rintro _ rfl
 refine cutS (λρ=>ρ=[.tp (n+2),.vl (.tup [.str "hang",.lst (L.map lstN)]),nv m,.vl (.str "hang"),.vl (.lst (L.map lstN)),nv way,.un,nv t,.un]) (λM hM=>ite2 (λh1=>?_) λ_=>hM _ rfl) ?_
 ·have h1':t<L.length:=by
   have h1:=of_decide_eq_true h1
   rw[List.length_map]at h1
   omega
  obtain⟨a1,a2⟩:=hC _ (itC t h1')
  have it:=itm t h1'
  generalize L.getD t []=A at a1 a2 it
  refine j0g (i:=t) (ds:=L.map lstN) (d:=lstN A) rfl it ?_
  refine⟨rfl,n+2,m,A,rfl,by omega,a1,a2,hm1,hm,λd n' hd h3=>?_⟩
  refine⟨by simp,LL (by omega) (by simp),LL (by rw[List.length_append];simp;omega) (by omega),by simp,?_⟩
  exact hq _ _ (wrap hx3 (L3 (((hds.to t).app (.one hd)).app f3) (by omega))) (by omega)
 rintro _ rfl
 refine⟨rfl,n+2,m,rfl,by omega,hm,λC up hC2=>?_⟩
 have hCl:=h0h up hC2
 refine⟨by simp,LL (by rw[List.length_map];omega) (by simp),by simp,?_⟩
 exact hq _ _ (wrap hx3 (L3 (hds.app (.one ((EL.nats (n:=24) (by omega) λi hi=>by have:=hC2 i hi;omega).l7 (by decide)))) (by decide))) (by omega)
end
end K68
set_option maxHeartbeats 4000000
namespace K68
open PySem PySem.Spec PyProof.Rows L2
theorem k1z {d:D}(h:p0k d):El 8 140000 d:=by
 rcases h with⟨C,rfl,h1,h2⟩ | ⟨L,rfl,h1,h2⟩
 ·have:=(EL.nats h1 λi hi=>by have:=h2 i hi;omega).l7 (by decide)
  exact(((EL.one (El.su.up (k':=3) (w':=34350) (by decide) (by decide))).app (.one (this.up (by decide) (by decide)))).tup (by decide)).up (by decide) (by decide)
 ·have:EL 2 700 24 (L.map lstN):=by
   refine⟨by rw[List.length_map];exact h1,λy hy=>?_⟩
   obtain⟨C,hC,rfl⟩:=List.mem_map.mp hy
   exact(EL.nats (h2 C hC).1 λi hi=>by have:=(h2 C hC).2 i hi;omega).l7 (by decide)
  have:=(this.lst (by decide)).up (k':=3) (w':=34350) (by decide) (by decide)
  exact(((EL.one (El.sh.up (k':=3) (w':=34350) (by decide) (by decide))).app (.one this)).tup (by decide)).up (by decide) (by decide)
theorem l1a {d:D}(h:p0k d):∃(x:Str) (ds:List D),d = .tup [.str x,.lst ds]/\El 1 12 (.str x)/\EL 2 700 24 ds:=by
 rcases h with⟨C,rfl,h1,h2⟩ | ⟨L,rfl,h1,h2⟩
 ·exact⟨_,_,rfl,.su,(EL.nats h1 λi hi=>by have:=h2 i hi;omega).up (by decide) (by decide) (Nat.le_refl _)⟩
 ·refine⟨_,_,rfl,.sh,⟨by rw[List.length_map];exact h1,λy hy=>?_⟩⟩
  obtain⟨C,hC,rfl⟩:=List.mem_map.mp hy
  exact(EL.nats (h2 C hC).1 λi hi=>by have:=(h2 C hC).2 i hi;omega).l7 (by decide)
theorem dv59:Dv (10^(59:Int).toNat):=⟨by decide +kernel,by decide +kernel⟩
section
variable {P:Program}{w:World}{K:PySem.W.Frag}{mg:Str->Option Value}{base:Heap}
theorem l1c (dn:DefN K mg "law" e1b ["_law_script"])(B:BI mg)(g_law_tape:OkN P w K mg base 1 "_law_tape" ["_law_script"] (spA K j1n))(g_law_wish:OkN P w K mg base 2 "_law_wish" ["_law_tape_here"] (spA K d1h))(g_law_paper:OkN P w K mg base 5 "_law_paper" ["_law_tape_here", "_law_wish_here"] (spA K w0h))(g_law_draw:OkN P w K mg base 1 "_law_draw" ["_law_tape_here", "_law_many"] (spA K o0x))(g_law_number:OkN P w K mg base 3 "_law_number" ["_law_wish_here", "_law_paper_here"] (spA K s0g))(g_law_bent:OkN P w K mg base 4 "_law_bent" ["_law_tape_here", "_law_paper_here", "_law_many"] (spA K d1i))(g_law_thing:OkN P w K mg base 5 "_law_thing" ["_law_tape_here", "_law_deep"] (spA K (s0e 4)))(g_bound_shown:OkN P w K mg base 5 "bound_shown" ["wish", "number", "paper"] (spA K d1f)):OkN P w K mg base 6 "law" ["_law_script"] (spA K SLaw):=by
 refine dn.aok2 (k:=5) g0r (λj=>j==0) [.un,.un,.un,.un,.un,.un,.un,.un,.un,.un] SLaw rfl (λf cdv A outer s H E hr=>have hu:=e0z hr;⟨_,(a0i (b0b (i:=1) g0r.nd rfl (by first | exact Or.inl rfl | exact Or.inr rfl) (b0k g_law_tape (hr.mono (by decide)) (a0c (pv 0) a0f)))
  (a0i (b0b (i:=2) g0r.nd rfl (by first | exact Or.inl rfl | exact Or.inr rfl) (b0k g_law_wish (hr.mono (by decide)) (a0c (pv 1) a0f)))
  (a0i (h0p PassesOwn.never rfl (e0q rfl B.range_ (a0c a0j a0f)) (a0z (i:=3) g0r.nd rfl (by first | exact Or.inl rfl | exact Or.inr rfl))
  (a0i (b0b (i:=4) g0r.nd rfl (by first | exact Or.inl rfl | exact Or.inr rfl) (b0k g_law_paper (hr.mono (by decide)) (a0c (pv 1) (a0c (pv 2) a0f))))
  (a0i (b0b (i:=5) g0r.nd rfl (by first | exact Or.inl rfl | exact Or.inr rfl) (b0k g_law_draw (hr.mono (by decide)) (a0c (pv 1) (a0c a0j a0f))))
  (a0i (d0a (a0s s0v (pv 5) a0j (a0y _))
  (a0p (b0b (i:=4) g0r.nd rfl (by first | exact Or.inl rfl | exact Or.inr rfl) (b0k g_law_bent (hr.mono (by decide)) (a0c (pv 1) (a0c (pv 4) (a0c (a0r (b0e K) rfl B.len_ c0q (a0c (c0n (b0c K) (pv 2) a0j (λ_ _=>rfl)) a0f)) a0f))))))
  b0g)
  (a0i (d0a (a0s (c0e K hr.units) (pv 5) a0j (a0y _))
  (a0p (b0b (i:=4) g0r.nd rfl (by first | exact Or.inl rfl | exact Or.inr rfl) (b0k g_law_thing (hr.mono (by decide)) (a0c (pv 1) (a0c a0j a0f)))))
  b0g)
  (a0i (d0a (a0s (c0e K hr.units) (pv 5) a0j (a0y _))
  (a0p (b0b (i:=4) g0r.nd rfl (by first | exact Or.inl rfl | exact Or.inr rfl) (e0c (a0c (c0n (b0c K) (pv 4) a0j (λ_ _=>rfl)) (a0c (a0x (c0o K) (c0n (b0c K) (pv 4) a0j (λ_ _=>rfl)) (b0w (a0c (b0k g_law_thing (hr.mono (by decide)) (a0c (pv 1) (a0c a0j a0f))) a0f))) a0f)))))
  b0g)
  (a0i (b0b (i:=6) g0r.nd rfl (by first | exact Or.inl rfl | exact Or.inr rfl) (a0r (u0c K hr.units hr.gd) rfl B.repr_ c1t (a0c (pv 4) a0f)))
  (a0i (b0b (i:=7) g0r.nd rfl (by first | exact Or.inl rfl | exact Or.inr rfl) (b0k g_law_number (hr.mono (by decide)) (a0c (pv 2) (a0c (pv 4) a0f))))
  (a0i (b0b (i:=8) g0r.nd rfl (by first | exact Or.inl rfl | exact Or.inr rfl) a0j)
  (a0i (d0a (a0s a1x (pv 7) i0z (a0y _))
  (a0p (b0b (i:=8) g0r.nd rfl (by first | exact Or.inl rfl | exact Or.inr rfl) (pv 7)))
  b0g)
  (a0p (h0p PassesOwn.never rfl (b0z K (b0w (a0c (pv 8) (a0c (a0x e0d (pv 8) a0j) (a0c (a0x g0w (pv 8) a0j) (a0c (a0x g0w (s0q m0f a0j) (b0k g_law_draw (hr.mono (by decide)) (a0c (pv 1) (a0c (a0x n0w a0j a0j) a0f)))) (a0c (a0x e0d (a0x n0w a0j a0j) (b0k g_law_draw (hr.mono (by decide)) (a0c (pv 1) (a0c (a0x n0w a0j a0j) a0f)))) a0f))))))) (a0z (i:=9) g0r.nd rfl (by first | exact Or.inl rfl | exact Or.inr rfl))
  (a0i (b0b (i:=10) g0r.nd rfl (by first | exact Or.inl rfl | exact Or.inr rfl) (b0k g_bound_shown (hr.mono (by decide)) (a0c (pv 2) (a0c (pv 9) (a0c (pv 4) a0f)))))
  (a0p (d0a (PW.pt (i0x (f0l (g0d (a0r (d0k K) rfl B.isinstance_ b0u (a0c (pv 10) (a0c (m0w rfl B.bool_ w0e) a0f))))) (i0x (a0s (k0c K hr.units) (pv 10) (k0b (f0z a1x (pv 7) i0z (a0y _)) (n0t (f0z y0p (pv 7) (pv 9) (a0y _)))) (a0y _)) (h0n (a0s (k0c K hr.units) (a0r (u0c K hr.units hr.gd) rfl B.repr_ c1t (a0c (pv 4) a0f)) (pv 6) (a0y _))))))
  (a0p (b0d j0z))
  b0g)))))))))))))))
  (a0p (b0d j0z))))),(a0l (a0u (a0n (a0a a0b a0d)) rfl)
  (a0l (a0u (a0n (a0a a0b a0d)) rfl)
  (a0l (f0m (pin:=(λ_=>false)) (e0l (a0a a0g a0d)) (a0q rfl)
  (a0l (a0u (a0n (a0a a0b (a0a a0b a0d))) rfl)
  (a0l (a0u (a0n (a0a a0b (a0a a0g a0d))) rfl)
  (a0l (b0v (a0o (a0h c0i a0b a0g))
  (a0u (a0n (a0a a0b (a0a a0b (a0a (b0f b0q (a0a (a0h b0p a0b a0g) a0d)) a0d)))) rfl)
  b0a)
  (a0l (b0v (a0o (a0h c0f a0b a0g))
  (a0u (a0n (a0a a0b (a0a a0g a0d))) rfl)
  b0a)
  (a0l (b0v (a0o (a0h c0f a0b a0g))
  (a0u (c0l (a0a (a0h b0p a0b a0g) (a0a (a0h c0p (a0h b0p a0b a0g) (b0i (a0a (a0n (a0a a0b (a0a a0g a0d))) a0d))) a0d))) rfl)
  b0a)
  (a0l (a0u (b0f u0a (a0a a0b a0d)) rfl)
  (a0l (a0u (a0n (a0a a0b (a0a a0b a0d))) rfl)
  (a0l (a0u a0g rfl)
  (a0l (b0v (a0o (a0h x0h a0b g0q))
  (a0u a0b rfl)
  b0a)
  (f0m (pin:=(λ_=>false)) (b0n (b0i (a0a a0b (a0a (a0h a0w a0b a0g) (a0a (a0h a0w a0b a0g) (a0a (a0h a0w (i0v a0g) (a0n (a0a a0b (a0a (a0h e0y a0g a0g) a0d)))) (a0a (a0h a0w (a0h e0y a0g a0g) (a0n (a0a a0b (a0a (a0h e0y a0g a0g) a0d)))) a0d))))))) (a0q rfl)
  (a0l (a0u (a0n (a0a a0b (a0a a0b (a0a a0b a0d)))) rfl)
  (b0v (d0x (c0r (f0s (b0f e0u (a0a a0b (a0a i0p a0d))))) (d0x (a0o (a0h k0d a0b (f0q (a0h x0h a0b g0q) (a0h c0i a0b a0b)))) (a0o (a0h k0d (b0f u0a (a0a a0b a0d)) a0b))))
  (a0v g0c)
  b0a)))))))))))))
  (a0v g0c))))⟩) ?_
 rintro ss q ⟨ns,hl,rfl,hq⟩
 have p59:CPow 10 59:=⟨by decide,by decide,by decide⟩
 refine⟨rfl,rfl,rfl,ns,rfl,?_⟩
 dsimp only[stS,pt,back,R.frz]
 refine cutS (λρ=>∃(n m:Nat) (rows:List Nat),z0h m rows/\n<=300/\ρ=[.sc ns,.tp n,.vl (b0o m rows),.un,.un,.un,.un,.un,.un,.un,.un]) (λM hM=>⟨rfl,0,rfl,by omega,λm rows n' h1 h2=>hM _ ⟨n',m,rows,h1,by omega,rfl⟩⟩) ?_
 rintro _ ⟨n0,m,rows,hRM,hn0,rfl⟩
 have hR:=hRM.2.2.1
 have l24:=hR.l24
 have l1:=hR.l1
 refine cutS (λρ=>True) (λM hM=>⟨⟨by omega,by omega⟩,?_⟩) (λρ _=>hq _)
 refine l0n (λk ρ=>∃n s3 s4 s5 s6 s7 s8 s9 s10,n<=300+2000*k/\ρ=[.sc ns,.tp n,.vl (b0o m rows),s3,s4,s5,s6,s7,s8,s9,s10]) (λ_ _ _=>trivial) ?_ (λρ _=>hM ρ trivial) ⟨n0,.un,.un,.un,.un,.un,.un,.un,.un,by omega,rfl⟩
 rintro k _ M1 hk ⟨n,s3,s4,s5,s6,s7,s8,s9,s10,hn,rfl⟩ hM1
 have hk':k<12:=hk
 refine cutS (λρ=>∃(n':Nat) (d:D),p0k d/\n'<=n+1000/\ρ=[.sc ns,.tp n',.vl (b0o m rows),.vl (.int (0+(k:Int))),.vl d,s5,s6,s7,s8,s9,s10]) (λM2 hM2=>⟨rfl,n,m,rows,rfl,by omega,hRM,λd n' h1 h2=>hM2 _ ⟨n',d,h1,h2,rfl⟩⟩) ?_
 rintro _ ⟨n1,d1,hd1,hn1,rfl⟩
 generalize Sv.vl (.int (0+(k:Int)))=s3
 refine cutS (λρ=>∃way:Nat,ρ=[.sc ns,.tp (n1+1),.vl (b0o m rows),s3,.vl d1,nv way,s6,s7,s8,s9,s10]) (λM2 hM2=>⟨rfl,n1,8,rfl,by omega,Dv.small (by decide) (by decide),λr hr=>hM2 _ ⟨r,rfl⟩⟩) ?_
 rintro _ ⟨way,rfl⟩
 refine cutS (λρ=>∃(n':Nat) (d:D),El 8 140000 d/\(5<=way->p0k d)/\n'<=n+1100/\ρ=[.sc ns,.tp n',.vl (b0o m rows),s3,.vl d,nv way,s6,s7,s8,s9,s10]) (λM2 hM2=>ite2 (λh=>e0i (i:=1) (ds:=[nD m,.tup (a0e rows)]) (d:=.tup (a0e rows)) rfl rfl ?_) λh=>hM2 _ ⟨n1+1,d1,k1z hd1,λ_=>hd1,by omega,rfl⟩) ?_
 ·have h:=of_decide_eq_true h
  exact⟨rfl,n1+1,rows.length,d1,by rw[a0k];rfl,by omega,l1,l24,hd1,λd' n' h1 h2=>hM2 _ ⟨n',d',h1,λz=>by omega,by omega,rfl⟩⟩
 rintro _ ⟨n2,d2,hd2,hw2,hn2,rfl⟩
 refine cutS (λρ=>∃(n':Nat) (d:D),El 8 140000 d/\(way=6->p0k d)/\n'<=n+1400/\ρ=[.sc ns,.tp n',.vl (b0o m rows),s3,.vl d,nv way,s6,s7,s8,s9,s10]) (λM2 hM2=>b0m (b:=decide (way=5)) rfl rfl (by simp[D.depth]) (by show decide ((way:Int)=5)=_;rw[decide_eq_decide];omega) ?_) ?_
 ·by_cases h:way=5
  ·rw[decide_eq_true h]
   refine⟨rfl,n2,3,by decide,rfl,by have:=(y0d (j:=3) (by decide)).2.2.2;omega,by decide,λd' n' h1 h2=>hM2 _ ⟨n',d',h1.up (by decide) (by decide),λz=>by omega,by have:=(y0d (j:=3) (by decide)).2.2.2;omega,rfl⟩⟩
  ·rw[decide_eq_false h]
   exact hM2 _ ⟨n2,d2,hd2,λz=>hw2 (by omega),by omega,rfl⟩
 clear hd2 hw2 hd1
 rintro _ ⟨n3,d3,hd3,hw3,hn3,rfl⟩
 refine cutS (λρ=>∃(n':Nat) (d:D),El 8 140000 d/\n'<=n+1700/\ρ=[.sc ns,.tp n',.vl (b0o m rows),s3,.vl d,nv way,s6,s7,s8,s9,s10]) (λM2 hM2=>b0m (b:=decide (way=6)) rfl rfl (by simp[D.depth]) (by show decide ((way:Int)=6)=_;rw[decide_eq_decide];omega) ?_) ?_
 ·by_cases h:way=6
  ·rw[decide_eq_true h]
   obtain⟨x,ds,rfl,hx,hds⟩:=l1a (hw3 h)
   have dl:=hds.ln
   refine e0i (i:=0) (ds:=[.str x,.lst ds]) (d:=.str x) rfl rfl ?_
   refine e0i (i:=1) (ds:=[.str x,.lst ds]) (d:=.lst ds) rfl rfl ?_
   refine⟨rfl,n3,2,by decide,rfl,by have:=(y0d (j:=2) (by decide)).2.2.2;omega,by decide,λd' n' h1 h2=>?_⟩
   refine⟨by simp,by simp;omega,by simp,hM2 _ ⟨n',_,?_,by have:=(y0d (j:=2) (by decide)).2.2.2;omega,rfl⟩⟩
   have e1:EL 4 2300 25 (ds++[d']):=(hds.up (by decide) (by decide) (Nat.le_refl _)).app (.one (h1.up (by decide) (by decide)))
   have e2:El 5 57600 (.lst (ds++[d'])):=(e1.lst (by decide)).up (by decide) (by decide)
   exact(((EL.one (hx.up (by decide) (by decide))).app (.one e2)).tup (by decide)).up (by decide) (by decide)
  ·rw[decide_eq_false h]
   exact hM2 _ ⟨n3,d3,hd3,by omega,rfl⟩
 clear hd3 hw3
 rintro _ ⟨n4,d,hd,hn4,rfl⟩
 have hsh:=hd.show (by decide) (by decide)
 have hln:=k1k hd.sm
 have hdp:d.depth<=50:=Nat.le_trans hd.dp (by decide)
 refine cutS (λρ=>ρ=[.sc ns,.tp n4,.vl (b0o m rows),s3,.vl d,nv way,.vl (.str (shD d)),s7,s8,s9,s10]) (λM2 hM2=>r0k (d:=d) rfl hsh (hM2 _ rfl)) ?_
 rintro _ rfl
 refine cutS (λρ=>∃o:D,((∃z,o = .int z/\n0b rows d z)∨(o = .non/\∀z,¬n0b rows d z))/\ρ=[.sc ns,.tp n4,.vl (b0o m rows),s3,.vl d,nv way,.vl (.str (shD d)),.vl o,s8,s9,s10]) (λM2 hM2=>⟨rfl,m,rows,d,rfl,hRM,hln,hdp,λz hz=>hM2 _ ⟨_,.inl ⟨z,rfl,hz⟩,rfl⟩,λhz=>hM2 _ ⟨_,.inr ⟨rfl,hz⟩,rfl⟩⟩) ?_
 rintro _ ⟨o,ho,rfl⟩
 refine cutS (λρ=>ρ=[.sc ns,.tp n4,.vl (b0o m rows),s3,.vl d,nv way,.vl (.str (shD d)),.vl o,.vl (.int 0),s9,s10]) (λM2 hM2=>hM2 _ rfl) ?_
 rintro _ rfl
 refine cutS (λρ=>∃y:Int,ρ=[.sc ns,.tp n4,.vl (b0o m rows),s3,.vl d,nv way,.vl (.str (shD d)),.vl o,.vl (.int y),s9,s10]) (λM2 hM2=>?_) ?_
 ·rcases ho with⟨z,rfl,hz⟩ | ⟨rfl,hz⟩
  ·exact hM2 _ ⟨z,rfl⟩
  ·exact hM2 _ ⟨0,rfl⟩
 rintro _ ⟨y,rfl⟩
 refine⟨p59,rfl,n4,_,rfl,by omega,dv59,λr1 hr1=>⟨p59,p59,rfl,n4+1,_,rfl,by omega,dv59,λr2 hr2=>⟨by simp,?_⟩⟩⟩
 refine i0i (xs:=[y,y+1,y - 1,-1 - (r1:Int),10^(59:Int).toNat+(r2:Int)]) D.int (λ_ ρ=>∃s9 s10,ρ=[.sc ns,.tp (n4+2),.vl (b0o m rows),s3,.vl d,nv way,.vl (.str (shD d)),.vl o,.vl (.int y),s9,s10]) (λ_ _ _=>trivial) ?_ (λρ ⟨s9,s10,e⟩=>hM1 ρ ⟨n4+2,s3,.vl d,nv way,.vl (.str (shD d)),.vl o,.vl (.int y),s9,s10,by omega,e⟩) ⟨s9,s10,rfl⟩
 rintro j z _ M2 hj ⟨s9,s10,rfl⟩ hM2
 refine cutS (λρ=>ρ=[.sc ns,.tp (n4+2),.vl (b0o m rows),s3,.vl d,nv way,.vl (.str (shD d)),.vl o,.vl (.int y),.vl (.int z),.vl (.bl (shB rows z d))]) (λM3 hM3=>⟨rfl,m,rows,z,d,rfl,hR,hln,hdp,hM3 _ rfl⟩) ?_
 rintro _ rfl
 refine a0t rfl h0i ?_
 rcases ho with⟨z0,rfl,hz⟩ | ⟨rfl,hz⟩
 ·have e:shB rows z d=decide (z<=z0):=by
   rw[Bool.eq_iff_iff,i0w,decide_eq_true_eq]
   exact⟨λ⟨n,h1,h2⟩=>by rw[e1m hz h1];exact h2,λh=>⟨z0,hz,h⟩⟩
  refine b0m (b:=true) (d:=.bl (shB rows z d)) (e:=.bl (decide (z<=z0))) rfl rfl (by simp[D.depth]) (by rw[e];exact e0j _) ?_
  refine r0k (d:=d) rfl hsh ?_
  exact b0m (b:=true) rfl rfl (by simp[D.depth]) (e0j _) (hM2 _ ⟨_,_,rfl⟩)
 ·have e:shB rows z d=false:=b_no i0w (by rintro⟨n,h1,_⟩;exact hz n h1)
  refine b0m (b:=true) (d:=.bl (shB rows z d)) (e:=.bl false) rfl rfl (by simp[D.depth]) (by rw[e];exact e0j _) ?_
  refine r0k (d:=d) rfl hsh ?_
  exact b0m (b:=true) rfl rfl (by simp[D.depth]) (e0j _) (hM2 _ ⟨_,_,rfl⟩)
theorem fin (d_weight:DefN K mg "weight" n0c ["row"])(d_givens_of:DefN K mg "givens_of" g0v ["row"])(d_bound:DefN K mg "bound" q0t ["wish"])(d_first_places:DefN K mg "first_places" e0p ["rows"])(d_classes_of:DefN K mg "classes_of" e0b ["rows"])(d_givens_in:DefN K mg "givens_in" i0b ["rows", "places"])(d_unlike_number:DefN K mg "unlike_number" d0z ["rows", "places"])(d_hang_number:DefN K mg "hang_number" f0g ["rows", "classes"])(d_is_whole:DefN K mg "is_whole" j0r ["thing", "least", "most"])(d_is_tuple:DefN K mg "is_tuple" j0s ["thing", "least", "most"])(d_bound_shown:DefN K mg "bound_shown" g0i ["wish", "number", "paper"])(d_are_places:DefN K mg "are_places" f0v ["rows", "thing"])(d_are_unlike:DefN K mg "are_unlike" f0c ["rows", "thing"])(d_are_classes:DefN K mg "are_classes" g0j ["rows", "thing"])(d_hang_together:DefN K mg "hang_together" e0a ["rows", "places"])(d_law_tape:DefN K mg "_law_tape" j0o ["_law_script"])(d_law_draw:DefN K mg "_law_draw" j0p ["_law_tape_here", "_law_many"])(d_law_weight:DefN K mg "_law_weight" f0u ["_law_row"])(d_law_wish:DefN K mg "_law_wish" h0l ["_law_tape_here"])(d_law_wider:DefN K mg "_law_wider" g0s ["_law_rows", "_law_places_here"])(d_law_classes:DefN K mg "_law_classes" g0h ["_law_rows"])(d_law_is:DefN K mg "_law_is" n0d ["_law_thing_here", "_law_low", "_law_beyond"])(d_law_places:DefN K mg "_law_places" f0b ["_law_thing_here", "_law_many"])(d_law_hangs:DefN K mg "_law_hangs" g0u ["_law_rows", "_law_places_here"])(d_law_number:DefN K mg "_law_number" c0j ["_law_wish_here", "_law_paper_here"])(d_law_some:DefN K mg "_law_some" h0m ["_law_tape_here", "_law_many"])(d_law_paper:DefN K mg "_law_paper" f0n ["_law_tape_here", "_law_wish_here"])(d_law_odd:DefN K mg "_law_odd" k0w ["_law_tape_here", "_law_place", "_law_many"])(d_law_bent_places:DefN K mg "_law_bent_places" e0g ["_law_tape_here", "_law_places_here", "_law_many"])(d_law_thing:DefN K mg "_law_thing" g0t ["_law_tape_here", "_law_deep"])(d_law_bent:DefN K mg "_law_bent" j0q ["_law_tape_here", "_law_paper_here", "_law_many"])(d_law:DefN K mg "law" e1b ["_law_script"])(B:BI mg):OkN P w K mg base 6 "law" ["_law_script"] (h1n K) :=
 have g_law_tape:=u0z d_law_tape B
 have g_law_draw:=v0b d_law_draw B
 have g_givens_of:=s0z d_givens_of B
 have g_weight:=b1b d_weight B g_givens_of
 have g_givens_in:=t0a d_givens_in B
 have g_classes_of:=r0b d_classes_of B g_givens_in
 have g_hang_number:=p0a d_hang_number B g_weight g_givens_in
 have g_unlike_number:=m0x d_unlike_number B g_weight
 have g_first_places:=n0x d_first_places B g_weight
 have g_bound:=e1l d_bound B g_classes_of g_first_places g_hang_number g_unlike_number
 have g_is_whole:=v0d d_is_whole B
 have g_is_tuple:=v0e d_is_tuple B
 have g_are_places:=r0d d_are_places B g_is_whole
 have g_are_unlike:=r0c d_are_unlike B g_are_places g_weight
 have g_hang_together:=m0y d_hang_together B g_classes_of
 have g_are_classes:=p0c d_are_classes B g_givens_in g_are_places g_hang_together
 have g_bound_shown:=p0b d_bound_shown B g_is_tuple g_are_unlike g_are_classes g_unlike_number g_hang_number
 have g_law_weight:=q0y d_law_weight B
 have g_law_wish:=u0y d_law_wish B g_law_draw
 have g_law_wider:=s0w d_law_wider B
 have g_law_classes:=o0z d_law_classes B g_law_wider
 have g_law_is:=b1c d_law_is B
 have g_law_places:=q0z d_law_places B g_law_is
 have g_law_hangs:=s0y d_law_hangs B
 have g_law_number:=r0a d_law_number B g_law_places g_law_hangs g_law_weight
 have g_law_some:=v0a d_law_some B g_law_draw
 have g_law_paper:=s0x d_law_paper B g_law_draw g_law_classes g_law_some g_bound g_law_weight
 have g_law_odd:=y0r d_law_odd B g_law_draw
 have g_law_bent_places:=k0z d_law_bent_places B g_law_draw g_law_odd
 have z0:=d_law_thing.no (P:=P) (w:=w) (base:=base) h0c 0
 have z1:=h0f 0 0 d_law_thing B g_law_draw z0
 have z2:=h0f 1 1 d_law_thing B g_law_draw z1
 have z3:=h0f 2 2 d_law_thing B g_law_draw z2
 have z4:=h0f 3 3 d_law_thing B g_law_draw z3
 have g_law_thing:=z4
 have g_law_bent:=v0c d_law_bent B g_law_draw g_law_bent_places g_law_some
 have g_law:=l1c d_law B g_law_tape g_law_wish g_law_paper g_law_draw g_law_number g_law_bent g_law_thing g_bound_shown
 l1h g_law
end
end K68
namespace PySem.W.Fast
def tw6616883429166603199:=()
def tw9578264976879879973:=()
def tw6300013411856739412:=()
def tw10140819326986719113:=()
def tw5825591979353755389:=()
def tw14042625659385668475:=()
def tw17289006315385138728:=()
def tw18158034301085532442:=()
def tw6959797520478591231:=()
def tw11311336105307886171:=()
def tw1839126548301733174:=()
def tw9941625773255319877:=()
def tw8889799989641037440:=()
def tw9224288654677342008:=()
def tw17188534304743107353:=()
def tw18388440543248820061:=()
def tw5648737229053765100:=()
def tw16517361273895740771:=()
def tw2651823709717626432:=()
def tw4878757314797200980:=()
def tw873298654802308585:=()
def tw3584768496065935729:=()
def tw17059422007534774035:=()
def tw2307900786724748638:=()
def tw18222958027468103913:=()
def tw11574978808913561694:=()
def tw312550885316870189:=()
def tw4270882131026051877:=()
def tw4048027207251417940:=()
def tw9619432101586709928:=()
def tw1536972129379976510:=()
def tw6607113381211520733:=()
def tw13952383365981688098:=()
def tw7506336220427654658:=()
def tw611173085813204615:=()
def tw9502392564348161712:=()
def tw7321366784421967591:=()
def tw16226137845734369972:=()
def tw7742271915644021307:=()
def tw503912169056294483:=()
def tw14857265403237000865:=()
def tw1822311156356204758:=()
def tw3181883609428109107:=()
def tw16900292297913246344:=()
def tw5269273403434293638:=()
def tw5141658945203399941:=()
def tw10795716887038510750:=()
def tw1044543527223330337:=()
def tw5608150034397872371:=()
def tw14770234159812044616:=()
def tw13569392100335442088:=()
def tw16205939230358093969:=()
def tw8077253233575829980:=()
def tw17779136534186061946:=()
def tw7309771476509986612:=()
def tw15310832530014190452:=()
def tw2430657933433561719:=()
def tw6856140196761529342:=()
def tw17954612675706059091:=()
def tw2165561814272800487:=()
def tw825309669228605608:=()
def tw709111453301444651:=()
def tw845800102836581573:=()
def tw4438831514988165392:=()
def tw9712321678606194877:=()
def tw13044804984127427938:=()
def tw15724238325681623960:=()
def tw17895631683180549925:=()
def tw11523622066894147889:=()
def tw15292823703029649546:=()
def tw14123053275615186323:=()
def tw16273781279426387895:=()
def tw16713789687275967233:=()
def tw9577562604624632932:=()
def tw15387229361094752501:=()
def tw16129964884931084472:=()
def tw15370377013477233308:=()
def tw8797468803263026948:=()
def tw827702147107962128:=()
def tw2796440463458747607:=()
def tw17911901701037271746:=()
def tw9680222123712210261:=()
def tw4486046993980185735:=()
def tw6527921641096363261:=()
def tw4192107603944793531:=()
def tw11956528552155265518:=()
def tw2773642787531370244:=()
def tw8195352643010121893:=()
def tw8796982159344889981:=()
def tw2702242250391078520:=()
def tw9524558184915136833:=()
def tw6127921501834834737:=()
def tw583213363948104581:=()
def tw3674036299449915384:=()
def tw11235153730958813910:=()
def tw3347596147064114906:=()
def tw17796821200730009333:=()
def tw18086920598096583085:=()
def tw16234817128336458785:=()
def tw5924491080769300910:=()
def tw6879424290627792239:=()
def tw16416787908085929435:=()
def tw10107745597420846237:=()
def tw7169887116311361873:=()
def tw989831027285641262:=()
def tw11865055761882663261:=()
def tw11266522097331549850:=()
def tw13634328999036850733:=()
def tw14261695527857615763:=()
def tw11011700426322481331:=()
def tw12828526886854887048:=()
def tw16270880026143760096:=()
def tw7775268325755355855:=()
def tw175547448171168461:=()
def tw18199506572503330761:=()
def tw777168499739508430:=()
def tw1084502458687771858:=()
def tw17553093429760330613:=()
def tw10086987975776862025:=()
def tw4815138366496996099:=()
def tw16097616154721617461:=()
def tw12002935062861563543:=()
def tw6462529466681454641:=()
def tw14579052046106338738:=()
def tw4693014846291271087:=()
def tw6976627355967919872:=()
def tw16613508711655590181:=()
def tw11498570106259721090:=()
def tw1055420434673293566:=()
def tw14379960857264829454:=()
def tw13796113477571783193:=()
def tw852439955214015794:=()
def tw3932944929257405384:=()
def tw15109260570144560633:=()
def tw13906316399514685133:=()
def tw16573520452057312923:=()
def tw7196887189796279003:=()
def tw8037580666558715896:=()
def tw7275152163587634604:=()
def tw2430466415605355682:=()
def tw5492151371647824310:=()
def tw10684457308895486821:=()
def tw16984789223306788301:=()
def tw2959895034596694931:=()
def tw3042422999481420624:=()
def tw9970843623775019049:=()
def tw12654154550932749249:=()
def tw8240125130541794931:=()
def tw13594161391169726660:=()
def tw15864693508518853727:=()
def tw14629315070618603619:=()
def tw6221065248148355139:=()
def tw1931671956428780624:=()
def tw1164638923703041585:=()
def tw17812886535285614784:=()
def tw1338822637906429293:=()
def tw8061327713100757206:=()
def tw897415190999339699:=()
def tw16559096734471709905:=()
def tw17896825727045480686:=()
def tw8032111605127550318:=()
def tw13387201907830762520:=()
def tw16614168840054470775:=()
def tw17263476053797890677:=()
def tw6559903701577406549:=()
def tw7382194731340554524:=()
def tw651158245216305506:=()
def tw157379831983571010:=()
def tw6411839800984553542:=()
def tw9688698340069792556:=()
def tw12688191218764948926:=()
def tw7842533754167275802:=()
def tw8022701384993901391:=()
def tw12584634478518534007:=()
def tw4746322467626823540:=()
def tw12255637828034656795:=()
def tw4968414004245638631:=()
def tw10563820913666211770:=()
end PySem.W.Fast
open PySem PySem.W PyProof.Rows
set_option maxRecDepth 100000 in
set_option maxHeartbeats 0 in
theorem PySem.Challenge.cw_fewjoins_k68_bounds_shown_holds : PySem.Challenge.rw_fewjoins_k68_bounds_shown.Holds := by
 w_on;o_law;k_head;(case hw=>w_witness2)
 k_fill
 refine L2.d1p (l:=PySem.Challenge.rw_fewjoins_k68_bounds_shown) (n:=63) (k:=6) (x := "_law_script") (CX:=L2.CX0) (sp:=L2.h1n) rfl (by decide) rfl ⟨rfl,by decide,by decide,rfl⟩ (λw h Y=>PySem.W.kIn_of Y) ?F ?S ?C
 case S=>exact λK H a ns hl hO hS=>⟨a,ns,rfl,hS,hl,λ_=>rfl⟩
 case C=>exact λH s e s' h=>h
 case F =>
  intro w mg fa h KX G hmg
  have d_weight:L2.DefN (L2.KOf KX) mg "weight" K68.n0c ["row"]:=by
   dsimp only[L2.KOf]
   refine' L2.c0k KX G ?a ?l ?c ?k (λ_ _ _ _ _ _ us hl=>match us,hl with | [_],_=>rfl)
   (case a=>k_is);(case l=>k_is);(case c=>k_is);(case k=>k_is)
  have d_givens_of:L2.DefN (L2.KOf KX) mg "givens_of" K68.g0v ["row"]:=by
   dsimp only[L2.KOf]
   refine' L2.c0k KX G ?a ?l ?c ?k (λ_ _ _ _ _ _ us hl=>match us,hl with | [_],_=>rfl)
   (case a=>k_is);(case l=>k_is);(case c=>k_is);(case k=>k_is)
  have d_bound:L2.DefN (L2.KOf KX) mg "bound" K68.q0t ["wish"]:=by
   dsimp only[L2.KOf]
   refine' L2.c0k KX G ?a ?l ?c ?k (λ_ _ _ _ _ _ us hl=>match us,hl with | [_],_=>rfl)
   (case a=>k_is);(case l=>k_is);(case c=>k_is);(case k=>k_is)
  have d_first_places:L2.DefN (L2.KOf KX) mg "first_places" K68.e0p ["rows"]:=by
   dsimp only[L2.KOf]
   refine' L2.c0k KX G ?a ?l ?c ?k (λ_ _ _ _ _ _ us hl=>match us,hl with | [_],_=>rfl)
   (case a=>k_is);(case l=>k_is);(case c=>k_is);(case k=>k_is)
  have d_classes_of:L2.DefN (L2.KOf KX) mg "classes_of" K68.e0b ["rows"]:=by
   dsimp only[L2.KOf]
   refine' L2.c0k KX G ?a ?l ?c ?k (λ_ _ _ _ _ _ us hl=>match us,hl with | [_],_=>rfl)
   (case a=>k_is);(case l=>k_is);(case c=>k_is);(case k=>k_is)
  have d_givens_in:L2.DefN (L2.KOf KX) mg "givens_in" K68.i0b ["rows", "places"]:=by
   dsimp only[L2.KOf]
   refine' L2.c0k KX G ?a ?l ?c ?k (λ_ _ _ _ _ _ us hl=>match us,hl with | [_,_],_=>rfl)
   (case a=>k_is);(case l=>k_is);(case c=>k_is);(case k=>k_is)
  have d_unlike_number:L2.DefN (L2.KOf KX) mg "unlike_number" K68.d0z ["rows", "places"]:=by
   dsimp only[L2.KOf]
   refine' L2.c0k KX G ?a ?l ?c ?k (λ_ _ _ _ _ _ us hl=>match us,hl with | [_,_],_=>rfl)
   (case a=>k_is);(case l=>k_is);(case c=>k_is);(case k=>k_is)
  have d_hang_number:L2.DefN (L2.KOf KX) mg "hang_number" K68.f0g ["rows", "classes"]:=by
   dsimp only[L2.KOf]
   refine' L2.c0k KX G ?a ?l ?c ?k (λ_ _ _ _ _ _ us hl=>match us,hl with | [_,_],_=>rfl)
   (case a=>k_is);(case l=>k_is);(case c=>k_is);(case k=>k_is)
  have d_is_whole:L2.DefN (L2.KOf KX) mg "is_whole" K68.j0r ["thing", "least", "most"]:=by
   dsimp only[L2.KOf]
   refine' L2.c0k KX G ?a ?l ?c ?k (λ_ _ _ _ _ _ us hl=>match us,hl with | [_,_,_],_=>rfl)
   (case a=>k_is);(case l=>k_is);(case c=>k_is);(case k=>k_is)
  have d_is_tuple:L2.DefN (L2.KOf KX) mg "is_tuple" K68.j0s ["thing", "least", "most"]:=by
   dsimp only[L2.KOf]
   refine' L2.c0k KX G ?a ?l ?c ?k (λ_ _ _ _ _ _ us hl=>match us,hl with | [_,_,_],_=>rfl)
   (case a=>k_is);(case l=>k_is);(case c=>k_is);(case k=>k_is)
  have d_bound_shown:L2.DefN (L2.KOf KX) mg "bound_shown" K68.g0i ["wish", "number", "paper"]:=by
   dsimp only[L2.KOf]
   refine' L2.c0k KX G ?a ?l ?c ?k (λ_ _ _ _ _ _ us hl=>match us,hl with | [_,_,_],_=>rfl)
   (case a=>k_is);(case l=>k_is);(case c=>k_is);(case k=>k_is)
  have d_are_places:L2.DefN (L2.KOf KX) mg "are_places" K68.f0v ["rows", "thing"]:=by
   dsimp only[L2.KOf]
   refine' L2.c0k KX G ?a ?l ?c ?k (λ_ _ _ _ _ _ us hl=>match us,hl with | [_,_],_=>rfl)
   (case a=>k_is);(case l=>k_is);(case c=>k_is);(case k=>k_is)
  have d_are_unlike:L2.DefN (L2.KOf KX) mg "are_unlike" K68.f0c ["rows", "thing"]:=by
   dsimp only[L2.KOf]
   refine' L2.c0k KX G ?a ?l ?c ?k (λ_ _ _ _ _ _ us hl=>match us,hl with | [_,_],_=>rfl)
   (case a=>k_is);(case l=>k_is);(case c=>k_is);(case k=>k_is)
  have d_are_classes:L2.DefN (L2.KOf KX) mg "are_classes" K68.g0j ["rows", "thing"]:=by
   dsimp only[L2.KOf]
   refine' L2.c0k KX G ?a ?l ?c ?k (λ_ _ _ _ _ _ us hl=>match us,hl with | [_,_],_=>rfl)
   (case a=>k_is);(case l=>k_is);(case c=>k_is);(case k=>k_is)
  have d_hang_together:L2.DefN (L2.KOf KX) mg "hang_together" K68.e0a ["rows", "places"]:=by
   dsimp only[L2.KOf]
   refine' L2.c0k KX G ?a ?l ?c ?k (λ_ _ _ _ _ _ us hl=>match us,hl with | [_,_],_=>rfl)
   (case a=>k_is);(case l=>k_is);(case c=>k_is);(case k=>k_is)
  have d_law_tape:L2.DefN (L2.KOf KX) mg "_law_tape" K68.j0o ["_law_script"]:=by
   dsimp only[L2.KOf]
   refine' L2.c0k KX G ?a ?l ?c ?k (λ_ _ _ _ _ _ us hl=>match us,hl with | [_],_=>rfl)
   (case a=>k_is);(case l=>k_is);(case c=>k_is);(case k=>k_is)
  have d_law_draw:L2.DefN (L2.KOf KX) mg "_law_draw" K68.j0p ["_law_tape_here", "_law_many"]:=by
   dsimp only[L2.KOf]
   refine' L2.c0k KX G ?a ?l ?c ?k (λ_ _ _ _ _ _ us hl=>match us,hl with | [_,_],_=>rfl)
   (case a=>k_is);(case l=>k_is);(case c=>k_is);(case k=>k_is)
  have d_law_weight:L2.DefN (L2.KOf KX) mg "_law_weight" K68.f0u ["_law_row"]:=by
   dsimp only[L2.KOf]
   refine' L2.c0k KX G ?a ?l ?c ?k (λ_ _ _ _ _ _ us hl=>match us,hl with | [_],_=>rfl)
   (case a=>k_is);(case l=>k_is);(case c=>k_is);(case k=>k_is)
  have d_law_wish:L2.DefN (L2.KOf KX) mg "_law_wish" K68.h0l ["_law_tape_here"]:=by
   dsimp only[L2.KOf]
   refine' L2.c0k KX G ?a ?l ?c ?k (λ_ _ _ _ _ _ us hl=>match us,hl with | [_],_=>rfl)
   (case a=>k_is);(case l=>k_is);(case c=>k_is);(case k=>k_is)
  have d_law_wider:L2.DefN (L2.KOf KX) mg "_law_wider" K68.g0s ["_law_rows", "_law_places_here"]:=by
   dsimp only[L2.KOf]
   refine' L2.c0k KX G ?a ?l ?c ?k (λ_ _ _ _ _ _ us hl=>match us,hl with | [_,_],_=>rfl)
   (case a=>k_is);(case l=>k_is);(case c=>k_is);(case k=>k_is)
  have d_law_classes:L2.DefN (L2.KOf KX) mg "_law_classes" K68.g0h ["_law_rows"]:=by
   dsimp only[L2.KOf]
   refine' L2.c0k KX G ?a ?l ?c ?k (λ_ _ _ _ _ _ us hl=>match us,hl with | [_],_=>rfl)
   (case a=>k_is);(case l=>k_is);(case c=>k_is);(case k=>k_is)
  have d_law_is:L2.DefN (L2.KOf KX) mg "_law_is" K68.n0d ["_law_thing_here", "_law_low", "_law_beyond"]:=by
   dsimp only[L2.KOf]
   refine' L2.c0k KX G ?a ?l ?c ?k (λ_ _ _ _ _ _ us hl=>match us,hl with | [_,_,_],_=>rfl)
   (case a=>k_is);(case l=>k_is);(case c=>k_is);(case k=>k_is)
  have d_law_places:L2.DefN (L2.KOf KX) mg "_law_places" K68.f0b ["_law_thing_here", "_law_many"]:=by
   dsimp only[L2.KOf]
   refine' L2.c0k KX G ?a ?l ?c ?k (λ_ _ _ _ _ _ us hl=>match us,hl with | [_,_],_=>rfl)
   (case a=>k_is);(case l=>k_is);(case c=>k_is);(case k=>k_is)
  have d_law_hangs:L2.DefN (L2.KOf KX) mg "_law_hangs" K68.g0u ["_law_rows", "_law_places_here"]:=by
   dsimp only[L2.KOf]
   refine' L2.c0k KX G ?a ?l ?c ?k (λ_ _ _ _ _ _ us hl=>match us,hl with | [_,_],_=>rfl)
   (case a=>k_is);(case l=>k_is);(case c=>k_is);(case k=>k_is)
  have d_law_number:L2.DefN (L2.KOf KX) mg "_law_number" K68.c0j ["_law_wish_here", "_law_paper_here"]:=by
   dsimp only[L2.KOf]
   refine' L2.c0k KX G ?a ?l ?c ?k (λ_ _ _ _ _ _ us hl=>match us,hl with | [_,_],_=>rfl)
   (case a=>k_is);(case l=>k_is);(case c=>k_is);(case k=>k_is)
  have d_law_some:L2.DefN (L2.KOf KX) mg "_law_some" K68.h0m ["_law_tape_here", "_law_many"]:=by
   dsimp only[L2.KOf]
   refine' L2.c0k KX G ?a ?l ?c ?k (λ_ _ _ _ _ _ us hl=>match us,hl with | [_,_],_=>rfl)
   (case a=>k_is);(case l=>k_is);(case c=>k_is);(case k=>k_is)
  have d_law_paper:L2.DefN (L2.KOf KX) mg "_law_paper" K68.f0n ["_law_tape_here", "_law_wish_here"]:=by
   dsimp only[L2.KOf]
   refine' L2.c0k KX G ?a ?l ?c ?k (λ_ _ _ _ _ _ us hl=>match us,hl with | [_,_],_=>rfl)
   (case a=>k_is);(case l=>k_is);(case c=>k_is);(case k=>k_is)
  have d_law_odd:L2.DefN (L2.KOf KX) mg "_law_odd" K68.k0w ["_law_tape_here", "_law_place", "_law_many"]:=by
   dsimp only[L2.KOf]
   refine' L2.c0k KX G ?a ?l ?c ?k (λ_ _ _ _ _ _ us hl=>match us,hl with | [_,_,_],_=>rfl)
   (case a=>k_is);(case l=>k_is);(case c=>k_is);(case k=>k_is)
  have d_law_bent_places:L2.DefN (L2.KOf KX) mg "_law_bent_places" K68.e0g ["_law_tape_here", "_law_places_here", "_law_many"]:=by
   dsimp only[L2.KOf]
   refine' L2.c0k KX G ?a ?l ?c ?k (λ_ _ _ _ _ _ us hl=>match us,hl with | [_,_,_],_=>rfl)
   (case a=>k_is);(case l=>k_is);(case c=>k_is);(case k=>k_is)
  have d_law_thing:L2.DefN (L2.KOf KX) mg "_law_thing" K68.g0t ["_law_tape_here", "_law_deep"]:=by
   dsimp only[L2.KOf]
   refine' L2.c0k KX G ?a ?l ?c ?k (λ_ _ _ _ _ _ us hl=>match us,hl with | [_,_],_=>rfl)
   (case a=>k_is);(case l=>k_is);(case c=>k_is);(case k=>k_is)
  have d_law_bent:L2.DefN (L2.KOf KX) mg "_law_bent" K68.j0q ["_law_tape_here", "_law_paper_here", "_law_many"]:=by
   dsimp only[L2.KOf]
   refine' L2.c0k KX G ?a ?l ?c ?k (λ_ _ _ _ _ _ us hl=>match us,hl with | [_,_,_],_=>rfl)
   (case a=>k_is);(case l=>k_is);(case c=>k_is);(case k=>k_is)
  have d_law:L2.DefN (L2.KOf KX) mg "law" K68.e1b ["_law_script"]:=by
   dsimp only[L2.KOf]
   refine' L2.c0k KX G ?a ?l ?c ?k (λ_ _ _ _ _ _ us hl=>match us,hl with | [_],_=>rfl)
   (case a=>k_is);(case l=>k_is);(case c=>k_is);(case k=>k_is)
  have B:L2.BI mg:=by
   refine' L2.n1m KX G ?z_len ?z_range ?z_isinstance ?z_int ?z_bool ?z_list ?z_tuple ?z_str ?z_sum ?z_all ?z_max ?z_min ?z_sorted ?z_set ?z_zip ?z_enumerate ?z_reversed ?z_dict ?z_any ?z_abs ?z_repr
   (case z_len=>k_is);(case z_range=>k_is);(case z_isinstance=>k_is);(case z_int=>k_is);(case z_bool=>k_is);(case z_list=>k_is);(case z_tuple=>k_is);(case z_str=>k_is);(case z_sum=>k_is);(case z_all=>k_is);(case z_max=>k_is);(case z_min=>k_is);(case z_sorted=>k_is);(case z_set=>k_is);(case z_zip=>k_is);(case z_enumerate=>k_is);(case z_reversed=>k_is);(case z_dict=>k_is);(case z_any=>k_is);(case z_abs=>k_is);(case z_repr=>k_is)
  refine L2.i1o d_law hmg λbase=>?_
  exact K68.fin d_weight d_givens_of d_bound d_first_places d_classes_of d_givens_in d_unlike_number d_hang_number d_is_whole d_is_tuple d_bound_shown d_are_places d_are_unlike d_are_classes d_hang_together d_law_tape d_law_draw d_law_weight d_law_wish d_law_wider d_law_classes d_law_is d_law_places d_law_hangs d_law_number d_law_some d_law_paper d_law_odd d_law_bent_places d_law_thing d_law_bent d_law B
#print axioms PySem.Challenge.cw_fewjoins_k68_bounds_shown_holds

