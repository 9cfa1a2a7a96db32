import PyProof.Rows.All
import Wide.All
import OpenK.AllK
import Wide.FinOn
import Lean
import PyProof.EqAt
import PyProof.EqKinds
import PyProof.TupleCall
import PyProof.NeKinds
import PyProof.ListMulAny
import PyProof.Rows.CallKwBuiltin
import PyProof.MinMaxWalk
import PyProof.SeqI3
import PyProof.Rows.TupAdd
import PyProof.MeetsDict
import PyProof.DictList
import PyProof.ZipIter
import PyProof.Rows.ZipGen
import PyProof.ListRange
import PyProof.TupleOfStr
import PyProof.Rows.FStr
import PyProof.Rows.StrJoin2
import PyProof.Rows.Range3
import PyProof.EnumMake
import PyProof.EnumFor
import PyProof.EnumStmt
import KE.KUnpackStar
import KE.KDictList
import PyProof.Rows.SortWalk
import KE.RegKIsAll
import PyProof.NsDelKeeps
import PyProof.Rows.CountFlat
import KE.KRevIter
import PyProof.Draws
import PyProof.ExcInit
import PyProof.InstStoreFacts
import PyProof.DictCompW
import PyProof.DictIter
import PyProof.DictWalks
import PyProof.Rows.SetFrom
import PyProof.SetRoads
import KE.KDictOf
import PyProof.Rows.SortShellK
import PySem.Challenge.RW_fewjoins_k69_whole_no_net_has_fewer
set_option Elab.async false
set_option linter.all false
set_option maxRecDepth 100000
namespace L2
open PySem PySem.Spec PyProof.Rows
abbrev Key:=Sum Int Str
def y0e:Key->Value->Bool
 | .inl k,v=>Value.isInt k v
 | .inr x,v=>Value.isStrOf x v
def keyH (w:World):Key->Int
 | .inl k=>hashInt k
 | .inr x=>hashStr w x
theorem c0o:∀ {k:Key} {v:Value},y0e k v=true->(∃i t,k=Sum.inl i/\v=Value.int i t)∨(∃x t,k=Sum.inr x/\v=Value.str x t)
 | .inl i,v,h=>by
  obtain⟨t,e⟩:=Value.isInt_shape (k:=i) (v:=v) h
  exact .inl ⟨i,t,rfl,e⟩
 | .inr x,v,h=>by
  obtain⟨t,e⟩:=Value.isStrOf_shape (x:=x) (v:=v) h
  exact .inr ⟨x,t,rfl,e⟩
theorem b1s (i:Int)(t:Tok):y0e (.inl i) (.int i t)=true:=by simp[y0e,Value.isInt]
theorem b1r (x:Str)(t:Tok):y0e (.inr x) (.str x t)=true:=by simp[y0e,Value.isStrOf]
theorem m1j (a b:Int):decide ((Sum.inl a:Key)=Sum.inl b)=(a==b):=by
 by_cases e:a=b
 ·subst e;simp
 ·have h:¬(Sum.inl a:Key)=Sum.inl b:=fun q=>e (Sum.inl.inj q)
  rw[decide_eq_false h]
  exact(beq_eq_false_iff_ne.mpr e).symm
theorem m1g (a b:Str):decide ((Sum.inr a:Key)=Sum.inr b)=decide (a=b):=by
 by_cases e:a=b
 ·subst e;simp
 ·have h:¬(Sum.inr a:Key)=Sum.inr b:=fun q=>e (Sum.inr.inj q)
  rw[decide_eq_false h,decide_eq_false e]
theorem m1i (a:Int)(b:Str):decide ((Sum.inl a:Key)=Sum.inr b)=false:=decide_eq_false (fun q=>nomatch q)
theorem m1h (a:Str)(b:Int):decide ((Sum.inr a:Key)=Sum.inl b)=false:=decide_eq_false (fun q=>nomatch q)
def c0j (prog:Program)(w:World):PySem.KeyKind prog w Key where
 is:=y0e
 hash:=keyH w
 inj:=fun v a b ha hb=>by
  rcases c0o ha with⟨i,t,rfl,rfl⟩ | ⟨x,t,rfl,rfl⟩
  ·rcases c0o hb with⟨j,u,rfl,e⟩ | ⟨y,u,rfl,e⟩
   ·injection e with e1 _;rw[e1]
   ·exact nomatch e
  ·rcases c0o hb with⟨j,u,rfl,e⟩ | ⟨y,u,rfl,e⟩
   ·exact nomatch e
   ·injection e with e1 _;rw[e1]
 byValue:=fun k v h=>by
  rcases c0o h with⟨i,t,rfl,rfl⟩ | ⟨x,t,rfl,rfl⟩ <;> rfl
 pyHash:=fun hv h=>by
  rcases c0o hv with⟨i,t,rfl,rfl⟩ | ⟨x,t,rfl,rfl⟩
  ·exact wpAny_pyHash_int h
  ·exact wpAny_pyHash_str h
 eqBool:=fun hu hv h=>by
  rcases c0o hu with⟨i,t,rfl,rfl⟩ | ⟨x,t,rfl,rfl⟩
  ·rcases c0o hv with⟨j,u,rfl,rfl⟩ | ⟨y,u,rfl,rfl⟩
   ·rw[m1j]at h;exact wpAny_eqBool_int h
   ·rw[m1i]at h;exact SeqAt.EqAt.int_str i t y u _ _ _ _ h
  ·rcases c0o hv with⟨j,u,rfl,rfl⟩ | ⟨y,u,rfl,rfl⟩
   ·rw[m1h]at h;exact SeqAt.EqAt.str_int x t j u _ _ _ _ h
   ·rw[m1g]at h;exact wpAny_eqBool_str h
 «strs»:=fun k x t v h=>by
  rcases c0o h with⟨i,u,rfl,e⟩ | ⟨y,u,rfl,e⟩
  ·exact nomatch e
  ·injection e with e1 _
   subst e1
   cases v <;> rfl
theorem u0h (prog:Program)(w:World)(i:Int)(t:Tok):(c0j prog w).is (.inl i) (.int i t)=true:=b1s i t
theorem u0g (prog:Program)(w:World)(x:Str)(t:Tok):(c0j prog w).is (.inr x) (.str x t)=true:=b1r x t
inductive V where
 | non | bl (b:Bool) | int (i:Int) | str (x:Str) | byt (b:Array UInt8) | flt (b:UInt64) | ref (a:Addr) | ty (n:String)
 deriving DecidableEq
def RelV:V->Value->Prop
 | .non,u=>u=Value.none
 | .bl b,u=>u=Value.bool b
 | .int i,u=>∃t,u=Value.int i t
 | .str x,u=>∃t,u=Value.str x t
 | .byt b,u=>∃t,u=Value.bytes b t
 | .flt b,u=>∃t,u=Value.float b t
 | .ref a,u=>u=Value.ref a
 | .ty n,u=>u=Value.type n
abbrev Vals:List V->List Value->Prop:=Paired RelV
theorem Vals.length {xs:List V}{us:List Value}(r:Vals xs us):xs.length=us.length:=Paired.length r
theorem Vals.get:∀ {xs:List V} {us:List Value} {i:Nat} {x:V},Vals xs us->xs[i]? = some x->∃u,us[i]? = some u/\RelV x u
 | _,_,_,_,.nil,e=>by simp at e
 | _,_,0,_,.cons r _,e=>by simp at e;subst e;exact⟨_,rfl,r⟩
 | _,_,i+1,x,.cons _ t,e=>by
  obtain⟨u,h1,h2⟩:=Vals.get (i:=i) (x:=x) t (by simpa using e)
  exact⟨u,by simpa using h1,h2⟩
theorem Vals.append:∀ {xs ys:List V} {us ws:List Value},Vals xs us->Vals ys ws->Vals (xs++ys) (us++ws)
 | _,_,_,_,.nil,s=>s
 | _,_,_,_,.cons r t,s=>.cons r (Vals.append t s)
theorem Vals.take:∀ {xs:List V} {us:List Value} (n:Nat),Vals xs us->Vals (xs.take n) (us.take n)
 | _,_,0,_=>.nil
 | _,_,_+1,.nil=>.nil
 | _,_,n+1,.cons r t=>.cons r (Vals.take n t)
theorem Vals.drop:∀ {xs:List V} {us:List Value} (n:Nat),Vals xs us->Vals (xs.drop n) (us.drop n)
 | _,_,0,r=>r
 | _,_,_+1,.nil=>.nil
 | _,_,n+1,.cons _ t=>Vals.drop n t
def RelO:Option V->Option Value->Prop
 | some v,some u=>RelV v u
 | none,none=>True
 | _,_=>False
def KV {κ:Type}:List (κ×V)->List (κ×Value)->Prop:=Paired fun(p:κ×V) (q:κ×Value)=>p.1=q.1/\RelV p.2 q.2
def kV:Key->V
 | .inl i=>.int i
 | .inr x=>.str x
inductive HO where
 | lst (xs:List V)
 | tup (xs:List V)
 | dK (kvs:List (Key×V)) | dT (kvs:List (List Key×V))
 | set (S:Int->Bool) (n:Nat)
 | ins (C dx:Addr) (fs:List (Str×V))
 | own (x:Addr)
 | xd (fs:List (Str×V))
 | met (f x:Addr)
 | rng (lo hi:Int)
 | frz (o:Obj) (u:HO)
 | tbl (ps:Array Value)
 | ext (φ:Heap->Prop)
abbrev Hp:=Addr->Option HO
def upd (H:Hp)(a:Addr)(o:HO):Hp:=fun b=>if b=a then some o else H b
theorem b0l {H:Hp}{a:Addr}{o:HO}:upd H a o a=some o:=by unfold upd;rw[if_pos rfl]
theorem a0x {H:Hp}{a b:Addr}{o:HO}(h:b≠a):upd H a o b=H b:=by unfold upd;rw[if_neg h]
theorem h1r {H:Hp}{a:Addr}{o u:HO}:upd (upd H a o) a u=upd H a u:=by
 funext b;unfold upd;split <;> rfl
theorem i1w {H:Hp}{a b:Addr}{o u:HO}(h:H a=some o)(h':H b=some u)(d:o≠u):a≠b:=by
 intro e;subst e;rw[h]at h';exact d (Option.some.inj h')
theorem b0k {H:Hp}{a b:Addr}{o:HO}(h:H a=some o)(h':H b=none):a≠b:=by
 intro e;subst e;rw[h]at h';cases h'
section
variable (P:Program)(w:World)
def d0y (H:Hp)(h:Heap)(a:Addr):HO->Prop
 | .lst xs=>xs.length<=sizeLine/\∃(its:List Value) (n:Nat),Vals xs its/\h.get? a=some {cls:=.type "list",data:=.seq its.toArray n}
 | .tup xs=>xs.length<=sizeLine/\∃its:List Value,Vals xs its/\IsTup h a its.toArray
 | .dK kvs=>kvs.length<=sizeLine/\(a==sysModules)=false/\∃vs,KV kvs vs/\h.DictOf (c0j P w) a vs
 | .dT kvs=>kvs.length<=sizeLine/\(a==sysModules)=false/\∃xs:List (List Key×Addr×Value),
   Paired (fun(p:List Key×V) (q:List Key×Addr×Value)=>p.1=q.1/\H q.2.1=some (.tup (p.1.map kV))/\RelV p.2 q.2.2) kvs xs /\
   ∃o es ep,h.get? a=some o/\o.ExactDict/\o.data = .dict es ep/\es.toList=xs.map (entryOfKey (tupleKind (c0j P w)))/\(xs.map (·.1)).Nodup
 | .set S n=>h.SetOf (intKind P w) a S n
 | .ins C dx fs=>H dx=some (.own a)/\fs.length<=1000/\dx≠a/\h.get? a=some (PySem.W.instObj C dx) /\
   ∃mA,h.Ns1 dx mA/\(∀f,RelO (fs.lookup f) (mA f))/\PySem.Within mA (fs.map (·.1))
 | .own _=>∃o,h.get? a=some o
 | .xd fs=>∃mA,h.Ns1 a mA/\∀f,RelO (fs.lookup f) (mA f)
 | .rng lo hi=>∃t u v,h.get? a=some {cls:=.type "range",data:=.fields #[.int lo t,.int hi u,.int 1 v]}
 | .frz o u=>h.get? a=some o/\d0y H h a u
 | .tbl ps=>h.get? a=some {cls:=.none,data:=.fields ps}
 | .met f x=>h.get? a=some (PySem.W.methodObj (.ref f) (.ref x))
 | .ext φ=>φ h/\(∃o,h.get? a=some o)/\∀h1 h2:Heap,φ h1->(∀o,h1.get? a=some o->h2.get? a=some o)->φ h2
def HOk (H:Hp)(h:Heap):Prop:=∀a o,H a=some o->d0y P w H h a o
end
section
variable {P:Program}{w:World}{H H':Hp}{h h':Heap}{a:Addr}{o:HO}
theorem d0y.lt (x:d0y P w H h a o):a<h.objs.size:=by
 cases o with
 | lst xs=>obtain⟨_,_,_,_,e⟩:=x;exact Heap.lt_size e
 | tup xs=>obtain⟨_,_,_,p⟩:=x;exact p.lt
 | dK kvs=>obtain⟨_,_,_,_,o,_,_,e,_⟩:=x;exact Heap.lt_size e
 | dT kvs=>obtain⟨_,_,_,_,o,_,_,e,_⟩:=x;exact Heap.lt_size e
 | set S n=>obtain⟨o,_,_,_,e,_⟩:=x;exact Heap.lt_size e
 | ins C dx fs=>obtain⟨_,_,_,e,_⟩:=x;exact Heap.lt_size e
 | own y=>obtain⟨_,e⟩:=x;exact Heap.lt_size e
 | xd fs=>obtain⟨_,⟨_,_,_,e,_⟩,_⟩:=x;exact Heap.lt_size e
 | rng lo hi=>obtain⟨_,_,_,e⟩:=x;exact Heap.lt_size e
 | frz ob u=>obtain⟨e,_⟩:=x;exact Heap.lt_size e
 | tbl ps=>exact Heap.lt_size (show h.get? a=some _ from x)
 | met f y=>exact Heap.lt_size (show h.get? a=some _ from x)
 | ext φ=>obtain⟨_,⟨_,e⟩,_⟩:=x;exact Heap.lt_size e
theorem Paired.mapP {α β:Type}{F G:α->β->Prop}:∀ {l₁:List α} {l₂:List β},Paired F l₁ l₂->(∀a b,F a b->G a b)->Paired G l₁ l₂
 | _,_,.nil,_=>.nil
 | _,_,.cons r t,f=>.cons (f _ _ r) (Paired.mapP t f)
theorem d0y.stay (x:d0y P w H h a o)(k:∀b u,(b=a∨H b=some (.own a))->h.get? b=some u->h'.get? b=some u)
  (ho:∀b,H b=some (.own a)->H' b=some (.own a)) (ht:∀b xs,H b=some (.tup xs)->H' b=some (.tup xs)):d0y P w H' h' a o:=by
 induction o with
 | lst xs=>obtain⟨z,its,n,r,e⟩:=x;exact⟨z,its,n,r,k _ _ (.inl rfl) e⟩
 | tup xs=>obtain⟨z,its,r,ob,e,c⟩:=x;exact⟨z,its,r,ob,k _ _ (.inl rfl) e,c⟩
 | dK kvs=>obtain⟨z,y,vs,r,ob,es,ep,e,c⟩:=x;exact⟨z,y,vs,r,ob,es,ep,k _ _ (.inl rfl) e,c⟩
 | dT kvs =>
  obtain⟨z,y,xs,r,ob,es,ep,e,c⟩:=x
  exact⟨z,y,xs,Paired.mapP r fun p q z=>⟨z.1,ht _ _ z.2.1,z.2.2⟩,ob,es,ep,k _ _ (.inl rfl) e,c⟩
 | set S n=>obtain⟨ob,es,ep,t,e,c⟩:=x;exact⟨ob,es,ep,t,k _ _ (.inl rfl) e,c⟩
 | ins C dx fs =>
  obtain⟨d,z,ne,e,mA,⟨od,es,ep,e2,c⟩,r⟩:=x
  exact⟨ho _ d,z,ne,k _ _ (.inl rfl) e,mA,⟨od,es,ep,k _ _ (.inr d) e2,c⟩,r⟩
 | own y=>obtain⟨ob,e⟩:=x;exact⟨ob,k _ _ (.inl rfl) e⟩
 | xd fs=>obtain⟨mA,⟨od,es,ep,e,c⟩,r⟩:=x;exact⟨mA,⟨od,es,ep,k _ _ (.inl rfl) e,c⟩,r⟩
 | rng lo hi=>obtain⟨t,u,v,e⟩:=x;exact⟨t,u,v,k _ _ (.inl rfl) e⟩
 | frz ob u ih=>obtain⟨e,q⟩:=x;exact⟨k _ _ (.inl rfl) e,ih q⟩
 | tbl ps =>
  have e:h.get? a=some {cls:=.none,data:=.fields ps}:=x
  show h'.get? a=some {cls:=.none,data:=.fields ps}
  exact k a _ (.inl rfl) e
 | met f y =>
  have e:h.get? a=some (PySem.W.methodObj (.ref f) (.ref y)):=x
  show h'.get? a=some (PySem.W.methodObj (.ref f) (.ref y))
  exact k a _ (.inl rfl) e
 | ext φ=>obtain⟨p,⟨o,e⟩,st⟩:=x;exact⟨st _ _ p fun o q=>k _ _ (.inl rfl) q,⟨o,k _ _ (.inl rfl) e⟩,st⟩
theorem HOk.lt (x:HOk P w H h)(e:H a=some o):a<h.objs.size:=(x a o e).lt
theorem HOk.fresh (x:HOk P w H h)(e:h.objs.size<=a):H a=none:=by
 cases q:H a with
 | none=>rfl
 | some u=>exact absurd (Nat.lt_of_lt_of_le (x.lt q) e) (Nat.lt_irrefl _)
theorem HOk.kept (x:HOk P w H h)(k:∀b u,h.get? b=some u->h'.get? b=some u):HOk P w H h':=fun a o e =>
 (x a o e).stay (fun b u _ q=>k b u q) (fun _ q=>q) fun _ _ q=>q
theorem HOk.laid (x:HOk P w H h)(k:∀b u,h.get? b=some u->h'.get? b=some u)(hp:h.objs.size<=a)(new:d0y P w (upd H a o) h' a o):HOk P w (upd H a o) h':=fun b u e=>by
 have hn:=x.fresh hp
 by_cases hb:b=a
 ·subst hb;rw[b0l]at e;cases e;exact new
 ·rw[a0x hb]at e
  exact(x b u e).stay (fun c v _ q=>k c v q) (fun c q=>by rw[a0x (b0k q hn)];exact q) fun c xs q=>by rw[a0x (b0k q hn)];exact q
end
def Rd (H:Hp)(a:Addr)(u:HO):Prop:=H a=some u ∨ ∃o,H a=some (.frz o u)
theorem Rd.ok {P:Program}{w:World}{H:Hp}{h:Heap}{a:Addr}{u:HO}(r:Rd H a u)(x:HOk P w H h):d0y P w H h a u:=by
 rcases r with r | ⟨o,r⟩
 ·exact x a u r
 ·obtain⟨_,q⟩:=x a _ r
  exact q
def Mut:Option HO->Prop
 | some (.lst _)=>True
 | some (.dK _)=>True
 | some (.dT _)=>True
 | some (.set _ _)=>True
 | some (.ins _ _ _)=>True
 | some (.ext _)=>True
 | _=>False
section
variable {P:Program}{w:World}{H:Hp}{h h':Heap}{x e:Addr}{o':HO}
theorem HOk.write (ok:HOk P w H h)(mu:Mut (H x))(he:e=x∨H e=some (.own x))(k:∀b u,b≠e->h.get? b=some u->h'.get? b=some u)(heo:∃u,h'.get? e=some u)
  (new:d0y P w (upd H x o') h' x o'):HOk P w (upd H x o') h':=fun b u q=>by
 have nown:∀c y,H c=some (.own y)->c≠x:=fun c y r z=>by subst z;rw[r]at mu;exact mu
 have ntup:∀c xs,H c=some (.tup xs)->c≠x:=fun c xs r z=>by subst z;rw[r]at mu;exact mu
 by_cases hb:b=x
 ·subst hb;rw[b0l]at q;cases q;exact new
 ·rw[a0x hb]at q
  by_cases hbe:b=e
  ·have q':H b=some (.own x):=by
    rcases he with z | z
    ·exact absurd (hbe.trans z) hb
    ·rw[hbe];exact z
   rw[q]at q';cases q'
   obtain⟨v,hv⟩:=heo
   exact⟨v,by rw[hbe];exact hv⟩
  ·refine(ok b u q).stay (fun c v hc r=>k c v ?_ r) (fun c r=>by rw[a0x (nown c b r)];exact r) fun c xs r=>by rw[a0x (ntup c xs r)];exact r
   rcases hc with rfl | hc
   ·exact hbe
   ·rintro rfl
    rcases he with z | z
    ·exact nown c b hc z
    ·rw[hc]at z;cases z;exact hb rfl
end
structure Un (fs ex:List Addr)(H H':Hp)(h h':Heap):Prop where
 keep:∀b o,h.get? b=some o->H b=none->b∉fs->b∉ex->h'.get? b=some o
 slot:∀b o,h.get? b=some o->H b=none->b∈fs->b∉ex->∃sl,h'.get? b=some {o with slots:=sl}
 free:∀b o,h.get? b=some o->H b=none->b∉ex->H' b=none
 there:∀b o,h.get? b=some o->b∉ex->∃o',h'.get? b=some o'
 tups:∀b xs,H b=some (.tup xs)->H' b=some (.tup xs)
 frzs:∀b o u,H b=some (.frz o u)->H' b=some (.frz o u)
 tbls:∀b ps,H b=some (.tbl ps)->∃more,H' b=some (.tbl (ps++more))
section
variable {fs fs' ex ex':List Addr}{H H1 H2:Hp}{h h1 h2 h':Heap}{a x e:Addr}{o:HO}
theorem Un.any (u:Un fs ex H H1 h h1){b:Addr}{ob:Obj}(q:h.get? b=some ob)(n:H b=none)(hx:b∉ex):∃sl,h1.get? b=some {ob with slots:=sl}:=by
 by_cases hb:b∈fs
 ·exact u.slot b ob q n hb hx
 ·exact⟨ob.slots,u.keep b ob q n hb hx⟩
theorem Un.kept (k:∀b u,h.get? b=some u->h'.get? b=some u):Un fs ex H H h h' :=
 ⟨fun b ob q _ _ _=>k b ob q,fun b ob q _ _ _=>⟨ob.slots,k b ob q⟩,fun _ _ _ n _=>n,fun b ob q _=>⟨ob,k b ob q⟩,fun _ _ q=>q,fun _ _ _ q=>q,fun _ ps q=>⟨#[],by rw[q];simp⟩⟩
theorem Un.refl:Un fs ex H H h h:=Un.kept fun _ _ q=>q
theorem Un.laid (k:∀b u,h.get? b=some u->h'.get? b=some u)(hp:h.objs.size<=a)(hn:H a=none):Un fs ex H (upd H a o) h h' where
 keep:=fun b u q _ _ _=>k b u q
 slot:=fun b u q _ _ _=>⟨u.slots,k b u q⟩
 free:=fun b u q n _=>by rw[a0x (Nat.ne_of_lt (Nat.lt_of_lt_of_le (Heap.lt_size q) hp))];exact n
 there:=fun b u q _=>⟨u,k b u q⟩
 tups:=fun b xs q=>by rw[a0x (b0k q hn)];exact q
 frzs:=fun b u xs q=>by rw[a0x (b0k q hn)];exact q
 tbls:=fun b ps q=>⟨#[],by rw[a0x (b0k q hn),q];simp⟩
theorem Un.write (mu:Mut (H x))(he:e=x∨H e=some (.own x))(k:∀b u,b≠e->h.get? b=some u->h'.get? b=some u)(heo:∃u,h'.get? e=some u):Un fs ex H (upd H x o) h h':=by
 have hx:∀b,H b=none->b≠x:=fun b n z=>by subst z;rw[n]at mu;exact mu
 have hb:∀b,H b=none->b≠e:=fun b n z=>by
  subst z
  rcases he with r | r
  ·exact hx b n r
  ·rw[n]at r;cases r
 have hm:∀b u,H b=some u->¬Mut (some u)->b≠x:=fun b u q nm z=>by subst z;rw[q]at mu;exact nm mu
 refine⟨fun b u q n _ _=>k b u (hb b n) q,fun b u q n _ _=>⟨u.slots,k b u (hb b n) q⟩,fun b u q n _=>by rw[a0x (hx b n)];exact n,fun b u q _=>?_,
  fun b xs q=>by rw[a0x (hm b _ q fun z=>z)];exact q,fun b u xs q=>by rw[a0x (hm b _ q fun z=>z)];exact q,fun b ps q=>⟨#[],by rw[a0x (hm b _ q fun z=>z),q];simp⟩⟩
 by_cases hbe:b=e
 ·subst hbe;exact heo
 ·exact⟨u,k b u hbe q⟩
end
def trk (h:Heap)(H:Hp):List Addr:=(List.range h.objs.size).filter fun a=>(H a).isSome
def hidT (h:Heap)(H:Hp):Heap:=PySem.W.hideAll h (trk h H)
theorem b1w (h:Heap)(H:Hp):(hidT h H).objs.size=h.objs.size:=PySem.W.hideAll_size _ _
theorem f1f {h:Heap}{H:Hp}{b:Addr}{o:Obj}(e:h.get? b=some o)(n:H b=none):(hidT h H).get? b=some o :=
 PySem.W.hideAll_get _ e fun hm=>by
  have q:(H b).isSome=true:=(List.mem_filter.mp hm).2
  rw[n]at q;simp at q
theorem i1u {h:Heap}{H:Hp}{b:Addr}{o:Obj}(e:(hidT h H).get? b=some o):h.get? b=some o/\H b=none:=by
 have e':h.get? b=some o:=PySem.W.of_hideAll (trk h H) e
 refine⟨e',?_⟩
 cases q:H b with
 | none=>rfl
 | some x =>
  have hm:b∈trk h H:=List.mem_filter.mpr ⟨List.mem_range.mpr (Heap.lt_size e'),by simp[q]⟩
  have z:(hidT h H).get? b=none:=PySem.W.hideAll_none (trk h H) hm
  rw[z]at e;cases e
structure Mod (K:PySem.W.Frag)(mg:Str->Option Value)(base:Heap):Prop where
 kin:K.In base
 glob:base.Ns mainGlobals mg
 blt:∃mb,base.Ns builtinsNs mb/\∀x:Str,x ≠ "__name__" -> mb x=bootBuiltins x
 nolimit:base.NoLimit
structure Cx where
 prog:Program
 w:World
 K:PySem.W.Frag
 mg:Str->Option Value
 base:Heap
 A:Around
 N:List Str
 s₀:Shared
 H₀:Hp
 env:Env
 outer:List Env
 stack:List Env
 ex:List Addr
 fn:Str->Bool
 calm:Bool
 pn:List (Addr×Obj)
 xe:Value->Shared->Prop
def frs (l:List Env):List Addr:=l.filterMap (·.frame)
abbrev Cx.fs (X:Cx):List Addr:=frs X.outer
def Vis (sc:Scope)(x:Str):Prop:=sc.names.lookup x=some .local∨sc.names.lookup x=some .cell∨sc.names.lookup x=some .free
def Loc (sc:Scope)(x:Str):Prop:=sc.names.lookup x=some .local∨sc.names.lookup x=some .cell
def Look (env:Env)(h:Heap)(m:Str->Option Value)(x:Str)(u:Value):Prop :=
 (env.kindOf x=some .local/\m x=some u)∨((env.kindOf x=some .cell∨env.kindOf x=some .free)/\∃c,env.cells.lookup x=some c/\h.IsCell c (some u))
structure Cx.Ok (X:Cx):Prop where
 mod:Mod X.K X.mg X.base
 kind:X.env.scope.kind = .function
 glob:X.env.globals=mainGlobals
 blt:X.env.builtins=builtinsNs
 above:X.s₀.heap.objs.size<=X.env.locals
 inj:∀x y c,X.env.cells.lookup x=some c->X.env.cells.lookup y=some c->x=y
 has:∀x,(X.env.kindOf x=some .cell∨X.env.kindOf x=some .free)->∃c,X.env.cells.lookup x=some c
 cab:∀x c,X.fn x=true->X.env.cells.lookup x=some c->X.s₀.heap.objs.size<=c
 hd:X.calm=true->X.A.handled=none
 frames:X.A.frames=some X.stack
 stk:X.stack=X.outer∨(X.stack=X.env::X.outer/\X.env.frame=some X.env.locals)
 exf:∀b∈X.ex,b≠X.env.locals/\∀x c,X.env.cells.lookup x=some c->c≠b
 bs:∀b o,X.base.get? b=some o->X.s₀.heap.get? b=some o/\X.H₀ b=none
 bsz:X.base.objs.size<=X.s₀.heap.objs.size
 noex:∀b o,X.base.get? b=some o->b∉X.ex
 exfs:∀b∈X.ex,b∉X.fs
 funs:X.s₀.heap.FunFrames X.base X.outer
 frf:∀b∈X.fs,X.H₀ b=none
structure Inv (X:Cx)(pins:List (Addr×Obj))(σ:List (Option V))(H:Hp)(s:Shared):Prop where
 ok:X.Ok
 os:s.os=X.s₀.os
 bare:AllBare s.gens
 base:Un X.fs X.ex X.H₀ H X.s₀.heap s.heap
 loc:∃m,s.heap.Ns X.env.locals m/\∀(i:Nat) (x:Str) (v:V),X.N[i]? = some x->σ[i]? = some (some v)->Vis X.env.scope x->∃u,RelV v u/\Look X.env s.heap m x u
 cell:∀x c,X.env.cells.lookup x=some c->∃v,s.heap.IsCell c v
 free:H X.env.locals=none
 freeC:∀x c,X.env.cells.lookup x=some c->H c=none
 pin:∀p∈X.pn++pins,s.heap.get? p.1=some p.2/\H p.1=none/\p.1≠X.env.locals/\p.1∉X.fs/\∀v,p.2.data ≠ .cell v
 hok:HOk X.prog X.w H s.heap
 len:σ.length=X.N.length
section
variable {X:Cx}{pins:List (Addr×Obj)}{σ:List (Option V)}{H H':Hp}{s:Shared}{h':Heap}
theorem Cx.Ok.nofr (ok:X.Ok){b:Addr}{o:Obj}(e:X.base.get? b=some o):b∉X.fs:=fun hb=>by
 have:=(ok.funs.mem hb).1
 rw[e]at this;cases this
theorem Inv.bs (I:Inv X pins σ H s):∀b o,X.base.get? b=some o->s.heap.get? b=some o/\H b=none:=fun b o e =>
 ⟨I.base.keep b o (I.ok.bs b o e).1 (I.ok.bs b o e).2 (I.ok.nofr e) (I.ok.noex b o e),I.base.free b o (I.ok.bs b o e).1 (I.ok.bs b o e).2 (I.ok.noex b o e)⟩
theorem Inv.bk (I:Inv X pins σ H s):∀b o,X.base.get? b=some o->s.heap.get? b=some o:=fun b o e=>(I.bs b o e).1
theorem Inv.mod (I:Inv X pins σ H s):Mod X.K X.mg X.base:=I.ok.mod
theorem Inv.kIn (I:Inv X pins σ H s):X.K.In s.heap:=I.ok.mod.kin.keeps I.bk
theorem Inv.fr (I:Inv X pins σ H s):∃m,Fr X.base X.env.locals s.heap m :=
 let ⟨m,hn,_⟩:=I.loc
 ⟨m,hn,I.bk,Nat.le_trans I.ok.bsz I.ok.above⟩
theorem Inv.lt (I:Inv X pins σ H s):X.env.locals<s.heap.objs.size:=let ⟨_,hn,_⟩:=I.loc;hn.lt
theorem Inv.sz (I:Inv X pins σ H s):X.s₀.heap.objs.size<=s.heap.objs.size:=Nat.le_trans I.ok.above (Nat.le_of_lt I.lt)
theorem Inv.nofs (I:Inv X pins σ H s){a:Addr}(h:s.heap.objs.size<=a):a∉X.fs:=fun hb=>by
 obtain⟨_,o,ho,_⟩:=I.ok.funs.mem hb
 exact absurd (Nat.lt_of_lt_of_le (Heap.lt_size ho) (Nat.le_trans I.sz h)) (Nat.lt_irrefl _)
theorem Inv.cne (I:Inv X pins σ H s):∀x c,X.env.cells.lookup x=some c->c≠X.env.locals:=fun x c e z=>by
 obtain⟨v,o,ho,hd⟩:=I.cell x c e
 obtain⟨m,⟨o',es,ep,ho',hd',_⟩,_⟩:=I.loc
 rw[z,ho']at ho;cases ho;rw[hd']at hd;cases hd
theorem Inv.funs (I:Inv X pins σ H s):s.heap.FunFrames X.base X.outer:=by
 have all:∀(l:List Env),(∀b∈frs l,b∈X.fs)->X.s₀.heap.FunFrames X.base l->s.heap.FunFrames X.base l:=by
  intro l
  induction l with
  | nil=>intro _ _;trivial
  | cons env r ih =>
   intro hs hl
   obtain⟨hk,⟨L,o,hf,hn,ho,hd⟩,hr⟩:=hl
   have hL:L∈X.fs:=hs L (by unfold frs;rw[List.filterMap_cons,hf];exact List.mem_cons_self)
   obtain⟨sl,e⟩:=I.base.slot L o ho (I.ok.frf L hL) hL fun z=>I.ok.exfs L z hL
   exact⟨hk,⟨L,_,hf,hn,e,hd⟩,ih (fun b hb=>hs b (by unfold frs;rw[List.filterMap_cons,hf];exact List.mem_cons_of_mem _ hb)) hr⟩
 exact all X.outer (fun _ hb=>hb) I.ok.funs
theorem Inv.stack (I:Inv X pins σ H s):s.heap.FunFrames X.base X.stack:=by
 rcases I.ok.stk with e | ⟨e,hf⟩
 ·rw[e];exact I.funs
 ·rw[e]
  obtain⟨m,hn,_⟩:=I.loc
  refine .cons (by rw[I.ok.kind];decide) hf hn ?_ I.funs
  exact Heap.get?_none_of_le (Nat.le_trans I.ok.bsz I.ok.above)
theorem Inv.stkSub (I:Inv X pins σ H s):∀b∈frs X.stack,b∈X.env.locals::X.fs:=fun b hb=>by
 rcases I.ok.stk with e | ⟨e,hf⟩
 ·rw[e]at hb;exact List.mem_cons_of_mem _ hb
 ·rw[e]at hb
  unfold frs at hb
  rw[List.filterMap_cons,hf]at hb
  exact hb
theorem Inv.stkFree (I:Inv X pins σ H s):∀b∈frs X.stack,H b=none:=fun b hb=>by
 rcases List.mem_cons.mp (I.stkSub b hb)with e | hb
 ·rw[e];exact I.free
 ·obtain⟨_,o,ho,_⟩:=I.ok.funs.mem hb
  exact I.base.free b o ho (I.ok.frf b hb) fun z=>I.ok.exfs b z hb
theorem Inv.step {g':Array GenState}{t':Nat}{d':Drawn}{ch:List Addr}(I:Inv X pins σ H s)
  (hch:∀b∈ch,(b∈X.ex∨X.s₀.heap.objs.size<=b)/\b≠X.env.locals/\(∀x c,X.env.cells.lookup x=some c->c≠b)/\∀p∈X.pn++pins,p.1≠b)
  (keep:∀b o,b≠X.env.locals->b∉X.fs->b∉ch->s.heap.get? b=some o->H b=none->h'.get? b=some o)
  (slot:∀b o,b≠X.env.locals->b∈X.fs->b∉ch->s.heap.get? b=some o->H b=none->∃sl,h'.get? b=some {o with slots:=sl}) (free:∀b o,b∉ch->s.heap.get? b=some o->H b=none->H' b=none)
  (there:∀b o,b∉ch->s.heap.get? b=some o->∃o',h'.get? b=some o')
  (tups:∀b xs,H b=some (.tup xs)->H' b=some (.tup xs)) (frzs:∀b o u,H b=some (.frz o u)->H' b=some (.frz o u)) (tbls:∀b ps,H b=some (.tbl ps)->∃more,H' b=some (.tbl (ps++more)))
  (ns:∀m,s.heap.Ns X.env.locals m->h'.Ns X.env.locals m) (hok:HOk X.prog X.w H' h') (hg:AllBare g') :
  Inv X pins σ H' {s with heap:=h',gens:=g',drawn:=d',toks:=t'}:=by
 have neL:∀b o,X.s₀.heap.get? b=some o->b≠X.env.locals:=fun b o e=>Nat.ne_of_lt (Nat.lt_of_lt_of_le (Heap.lt_size e) I.ok.above)
 have neC:∀b o,X.s₀.heap.get? b=some o->b∉X.ex->b∉ch:=fun b o e hx hb=>by
  rcases(hch b hb).1 with z | z
  ·exact hx z
  ·exact absurd (Nat.lt_of_lt_of_le (Heap.lt_size e) z) (Nat.lt_irrefl _)
 have cellK:∀x c,X.env.cells.lookup x=some c->∀v,s.heap.IsCell c v->h'.IsCell c v:=fun x c e v ⟨o,ho,hd⟩=>by
  have nch:c∉ch:=fun z=>(hch c z).2.2.1 x c e rfl
  by_cases hc:c∈X.fs
  ·obtain⟨sl,q⟩:=slot c o (I.cne x c e) hc nch ho (I.freeC x c e)
   exact⟨_,q,hd⟩
  ·exact⟨o,keep c o (I.cne x c e) hc nch ho (I.freeC x c e),hd⟩
 refine⟨I.ok,I.os,hg,⟨fun b o e n hb hx=>?_,fun b o e n hb hx=>?_,fun b o e n hx=>?_,fun b o e hx=>?_,fun b xs e=>tups b xs (I.base.tups b xs e),fun b o xs e=>frzs b o xs (I.base.frzs b o xs e),fun b ps e=>?_⟩,?_,fun x c e=>?_,?_,fun x c e=>?_,fun p hp=>?_,hok,I.len⟩
 ·exact keep b o (neL b o e) hb (neC b o e hx) (I.base.keep b o e n hb hx) (I.base.free b o e n hx)
 ·obtain⟨sl,e1⟩:=I.base.slot b o e n hb hx
  obtain⟨sl',e2⟩:=slot b _ (neL b o e) hb (neC b o e hx) e1 (I.base.free b o e n hx)
  exact⟨sl',e2⟩
 ·obtain⟨o',e1⟩:=I.base.there b o e hx
  exact free b o' (neC b o e hx) e1 (I.base.free b o e n hx)
 ·obtain⟨o',e1⟩:=I.base.there b o e hx
  exact there b o' (neC b o e hx) e1
 ·obtain⟨m1,e1⟩:=I.base.tbls b ps e
  obtain⟨m2,e2⟩:=tbls b _ e1
  exact⟨m1++m2,by rw[e2,Array.append_assoc]⟩
 ·obtain⟨m,hn,hl⟩:=I.loc
  refine⟨m,ns m hn,fun i x v e1 e2 e3=>?_⟩
  obtain⟨u,r,l⟩:=hl i x v e1 e2 e3
  refine⟨u,r,?_⟩
  rcases l with l | ⟨k,c,e,z⟩
  ·exact .inl l
  ·exact .inr ⟨k,c,e,cellK x c e _ z⟩
 ·obtain⟨v,z⟩:=I.cell x c e
  exact⟨v,cellK x c e v z⟩
 ·obtain⟨m,⟨o,_,_,ho,_⟩,_⟩:=I.loc
  exact free _ o (fun z=>(hch _ z).2.1 rfl) ho I.free
 ·obtain⟨v,o,ho,hd⟩:=I.cell x c e
  exact free c o (fun z=>(hch c z).2.2.1 x c e rfl) ho (I.freeC x c e)
 ·obtain⟨e,n,ne,nf,d⟩:=I.pin p hp
  have nch:p.1∉ch:=fun z=>(hch p.1 z).2.2.2 p hp rfl
  exact⟨keep p.1 p.2 ne nf nch e n,free p.1 p.2 nch e n,ne,nf,d⟩
theorem Inv.un {t':Nat}(I:Inv X pins σ H s)(u:Un X.fs [] H H' s.heap h')(hok:HOk X.prog X.w H' h'):Inv X pins σ H' {s with heap:=h',toks:=t'}:=by
 obtain⟨m,⟨o,es,ep,ho,r⟩,_⟩:=id I.loc
 obtain⟨sl,hL⟩:=u.any ho I.free (by simp)
 exact I.step (g':=s.gens) (d':=s.drawn) (ch:=[]) (fun _ z=>nomatch z) (fun b o _ hb _ e n=>u.keep b o e n hb (by simp)) (fun b o _ hb _ e n=>u.slot b o e n hb (by simp)) (fun b o _ e n=>u.free b o e n (by simp)) (fun b o _ e=>u.there b o e (by simp)) u.tups u.frzs u.tbls (fun m' hm=>by
  obtain⟨o',es',ep',ho',r'⟩:=hm
  rw[ho]at ho';cases ho'
  exact⟨_,es',ep',hL,r'⟩) hok I.bare
theorem Inv.call {g':Array GenState}{t':Nat}{d':Drawn}{ch:List Addr}(I:Inv X pins σ H s)(u:Un (frs X.stack) ch H H' s.heap h')(hok:HOk X.prog X.w H' h')(hg:AllBare g')
  (hch:∀b∈ch,(b∈X.ex∨X.s₀.heap.objs.size<=b)/\b≠X.env.locals/\(∀x c,X.env.cells.lookup x=some c->c≠b)/\∀p∈X.pn++pins,p.1≠b) :
  Inv X pins σ H' {s with heap:=h',gens:=g',drawn:=d',toks:=t'}:=by
 obtain⟨m,⟨o,es,ep,ho,r⟩,_⟩:=id I.loc
 obtain⟨sl,hL⟩:=u.any ho I.free fun z=>(hch _ z).2.1 rfl
 exact I.step (ch:=ch) hch (fun b o hL hb hc e n=>u.keep b o e n (fun z=>(List.mem_cons.mp (I.stkSub b z)).elim hL hb) hc) (fun b o _ _ hc e n=>u.any e n hc) (fun b o hc e n=>u.free b o e n hc) (fun b o hc e=>u.there b o e hc) u.tups u.frzs u.tbls (fun m' hm=>by
  obtain⟨o',es',ep',ho',r'⟩:=hm
  rw[ho]at ho';cases ho'
  exact⟨_,es',ep',hL,r'⟩) hok hg
theorem Inv.turned {t':Nat}{it:Addr}(I:Inv X pins σ H s)(k:∀b o,b≠it->s.heap.get? b=some o->h'.get? b=some o)(hn:H it=none)(hL:it≠X.env.locals)
  (h1:it∈X.ex∨X.s₀.heap.objs.size<=it) (h2:∀x c,X.env.cells.lookup x=some c->c≠it) (h3:∀p∈X.pn++pins,p.1≠it):Inv X pins σ H {s with heap:=h',toks:=t'}:=by
 have nit:∀b u,H b=some u->b≠it:=fun b u e z=>by rw[z,hn]at e;cases e
 refine I.step (g':=s.gens) (d':=s.drawn) (ch:=[it]) (fun b hb=>?_) (fun b o _ _ hc e _=>k b o (fun z=>hc (by simp[z])) e) (fun b o _ _ hc e _=>⟨o.slots,k b o (fun z=>hc (by simp[z])) e⟩) (fun _ _ _ _ n=>n)
  (fun b o hc e=>⟨o,k b o (fun z=>hc (by simp[z])) e⟩) (fun _ _ e=>e) (fun _ _ _ e=>e) (fun b ps e=>⟨#[],by rw[e];simp⟩) (fun m hm=>?_) (fun b u e=>?_) I.bare
 ·have e:b=it:=by simpa using hb
  subst e
  exact⟨h1,hL,h2,h3⟩
 ·obtain⟨o,es,ep,ho,r⟩:=hm
  exact⟨o,es,ep,k _ o (Ne.symm hL) ho,r⟩
 ·refine(I.hok b u e).stay (fun c v hc q=>k c v ?_ q) (fun _ q=>q) fun _ _ q=>q
  rcases hc with z | z
  ·rw[z];exact nit b u e
  ·exact nit c _ z
theorem Inv.tok (I:Inv X pins σ H s)(t:Nat):Inv X pins σ H {s with toks:=t}:=I.un (h':=s.heap) (t':=t) Un.refl I.hok
theorem Inv.kept {t':Nat}(I:Inv X pins σ H s)(k:∀b u,s.heap.get? b=some u->h'.get? b=some u):Inv X pins σ H {s with heap:=h',toks:=t'}:=I.un (Un.kept k) (I.hok.kept k)
theorem Inv.laid {a:Addr}{o:HO}{t':Nat}(I:Inv X pins σ H s)(k:∀b u,s.heap.get? b=some u->h'.get? b=some u)(hp:s.heap.objs.size<=a)(new:d0y X.prog X.w (upd H a o) h' a o) :
  Inv X pins σ (upd H a o) {s with heap:=h',toks:=t'}:=I.un (Un.laid k hp (I.hok.fresh hp)) (I.hok.laid k hp new)
theorem Inv.write {x e:Addr}{o:HO}{t':Nat}(I:Inv X pins σ H s)(mu:Mut (H x))(he:e=x∨H e=some (.own x))(k:∀b u,b≠e->s.heap.get? b=some u->h'.get? b=some u)(heo:∃u,h'.get? e=some u)
  (new:d0y X.prog X.w (upd H x o) h' x o):Inv X pins σ (upd H x o) {s with heap:=h',toks:=t'}:=I.un (Un.write mu he k heo) (I.hok.write mu he k heo new)
theorem Inv.weak {σ':List (Option V)}(I:Inv X pins σ H s)(hl:σ'.length=σ.length)(w:∀(i:Nat) v,σ'[i]? = some (some v)->σ[i]? = some (some v)):Inv X pins σ' H s :=
 ⟨I.ok,I.os,I.bare,I.base,let ⟨m,hn,hl'⟩:=I.loc;⟨m,hn,fun i x v e1 e2 e3=>hl' i x v e1 (w i v e2) e3⟩,I.cell,I.free,I.freeC,I.pin,I.hok,hl.trans I.len⟩
theorem Inv.pins_of {pins':List (Addr×Obj)}(I:Inv X pins σ H s)(h:∀p∈pins',s.heap.get? p.1=some p.2/\H p.1=none/\p.1≠X.env.locals/\p.1∉X.fs/\∀v,p.2.data ≠ .cell v):Inv X pins' σ H s :=
 ⟨I.ok,I.os,I.bare,I.base,I.loc,I.cell,I.free,I.freeC,fun p hp=>(List.mem_append.mp hp).elim (fun z=>I.pin p (List.mem_append_left _ z)) (h p),I.hok,I.len⟩
theorem w0o {N:List Str}(hN:N.Nodup){i j:Nat}{x:Str}(a:N[i]? = some x)(b:N[j]? = some x):i=j:=by
 obtain⟨h1,e1⟩:=List.getElem?_eq_some_iff.mp a
 obtain⟨h2,e2⟩:=List.getElem?_eq_some_iff.mp b
 exact(List.getElem_inj hN).mp (e1.trans e2.symm)
theorem m0b {M:Model}{A:Around}{E:Value->Shared->Prop}{i:Nat}{x:Str}{v:V}{u:Value}{Q:Unit->Shared->Prop}(I:Inv X pins σ H s)(hN:X.N.Nodup)(hi:X.N[i]? = some x)(hx:Loc X.env.scope x)(r:RelV v u)
  (h:∀s',Inv X pins (σ.set i (some v)) H s'->(∃a,Heap.SameBut a s.heap s'.heap/\(a=X.env.locals∨X.env.cells.lookup x=some a))->Q () s') (hf:X.fn x=true∨X.env.scope.names.lookup x=some .local:=by first | exact .inl rfl | exact .inr rfl | assumption):wpAny M A (storeName X.env x u) Q E s:=by
 obtain⟨m,hn,hl⟩:=id I.loc
 have hcls:(X.env.scope.kind == .class||(X.env.scope.kind == .module&&X.env.locals != X.env.globals))=false:=by rw[I.ok.kind];rfl
 have hiσ:i<σ.length:=by rw[I.len];exact(List.getElem?_eq_some_iff.mp hi).1
 have cne:=I.cne
 have tracked:∀ {a:Addr} {h':Heap},(∃o,s.heap.get? a=some o/\H a=none)->Heap.SameBut a s.heap h'->HOk X.prog X.w H h':=fun{a h'} ha hs b ob e=>by
  obtain⟨_,_,hfree⟩:=ha
  refine(I.hok b ob e).stay (fun c w' hc q=>(hs.2 c ?_).trans q) (fun _ q=>q) fun _ _ q=>q
  rintro rfl
  rcases hc with rfl | hc
  ·rw[hfree]at e;cases e
  ·rw[hfree]at hc;cases hc
 rcases hx with hk | hk
 ·refine wpAny_storeName_local hk hn (fun h' hn' hs=>?_) hcls
  obtain⟨oL,_,_,hoL,_⟩:=id hn
  refine h _ ⟨I.ok,I.os,I.bare,⟨fun b o e n hb hx=>?_,fun b o e n hb hx=>?_,I.base.free,fun b o e hx=>?_,I.base.tups,I.base.frzs,I.base.tbls⟩,⟨_,hn',fun j y v' e1 e2 e3=>?_⟩,fun y c e=>?_,I.free,I.freeC,fun p hp=>?_,tracked ⟨oL,hoL,I.free⟩ hs,by simpa using I.len⟩ ⟨_,hs,.inl rfl⟩
  ·exact(hs.2 b (Nat.ne_of_lt (Nat.lt_of_lt_of_le (Heap.lt_size e) I.ok.above))).trans (I.base.keep b o e n hb hx)
  ·obtain⟨sl,e1⟩:=I.base.slot b o e n hb hx
   exact⟨sl,(hs.2 b (Nat.ne_of_lt (Nat.lt_of_lt_of_le (Heap.lt_size e) I.ok.above))).trans e1⟩
  ·obtain⟨o',e1⟩:=I.base.there b o e hx
   exact⟨o',(hs.2 b (Nat.ne_of_lt (Nat.lt_of_lt_of_le (Heap.lt_size e) I.ok.above))).trans e1⟩
  ·by_cases hj:j=i
   ·subst hj
    rw[hi]at e1;cases e1
    rw[List.getElem?_set_self hiσ]at e2
    cases e2
    exact⟨u,r,.inl ⟨hk,by simp⟩⟩
   ·rw[List.getElem?_set_ne (Ne.symm hj)]at e2
    obtain⟨u',r',q⟩:=hl j y v' e1 e2 e3
    refine⟨u',r',?_⟩
    rcases q with⟨k,e⟩ | ⟨k,c,e,z⟩
    ·refine .inl ⟨k,?_⟩
     have:y≠x:=fun e=>hj (w0o hN e1 (e▸hi))
     simp[this,e]
    ·exact .inr ⟨k,c,e,z.sameBut hs (cne y c e)⟩
  ·obtain⟨w',z⟩:=I.cell y c e
   exact⟨w',z.sameBut hs (cne y c e)⟩
  ·obtain⟨e,n,ne,nf,d⟩:=I.pin p hp
   exact⟨(hs.2 p.1 ne).trans e,n,ne,nf,d⟩
 ·have hfn:X.fn x=true:=by
   rcases hf with z | z
   ·exact z
   ·rw[z]at hk;cases hk
  obtain⟨c,hc⟩:=I.ok.has x (.inl hk)
  obtain⟨w',z⟩:=I.cell x c hc
  refine wpAny_storeName_cell I.ok.kind hk hc z (fun h' hc' hs=>?_)
  obtain⟨oc,hoc,hocd⟩:=id z
  refine h {s with heap:=h'} ⟨I.ok,I.os,I.bare,⟨fun b o e n hb hx=>?_,fun b o e n hb hx=>?_,I.base.free,fun b o e hx=>?_,I.base.tups,I.base.frzs,I.base.tbls⟩,⟨m,hn.sameBut hs (Ne.symm (cne x c hc)),fun j y v' e1 e2 e3=>?_⟩,fun y c' e=>?_,I.free,I.freeC,fun p hp=>?_,tracked ⟨oc,hoc,I.freeC x c hc⟩ hs,by simpa using I.len⟩ ⟨c,hs,.inr hc⟩
  ·exact(hs.2 b (Nat.ne_of_lt (Nat.lt_of_lt_of_le (Heap.lt_size e) (I.ok.cab x c hfn hc)))).trans (I.base.keep b o e n hb hx)
  ·obtain⟨sl,e1⟩:=I.base.slot b o e n hb hx
   exact⟨sl,(hs.2 b (Nat.ne_of_lt (Nat.lt_of_lt_of_le (Heap.lt_size e) (I.ok.cab x c hfn hc)))).trans e1⟩
  ·obtain⟨o',e1⟩:=I.base.there b o e hx
   exact⟨o',(hs.2 b (Nat.ne_of_lt (Nat.lt_of_lt_of_le (Heap.lt_size e) (I.ok.cab x c hfn hc)))).trans e1⟩
  ·by_cases hj:j=i
   ·subst hj
    rw[hi]at e1;cases e1
    rw[List.getElem?_set_self hiσ]at e2
    cases e2
    exact⟨u,r,.inr ⟨.inl hk,c,hc,hc'⟩⟩
   ·rw[List.getElem?_set_ne (Ne.symm hj)]at e2
    obtain⟨u',r',q⟩:=hl j y v' e1 e2 e3
    refine⟨u',r',?_⟩
    rcases q with q | ⟨k,c',e,z'⟩
    ·exact .inl q
    ·refine .inr ⟨k,c',e,z'.sameBut hs ?_⟩
     rintro rfl
     exact hj (w0o hN e1 (I.ok.inj _ _ _ e hc▸hi))
  ·by_cases hcc:c'=c
   ·subst hcc;exact⟨_,hc'⟩
   ·obtain⟨w2,z2⟩:=I.cell y c' e
    exact⟨w2,z2.sameBut hs hcc⟩
  ·obtain⟨e,n,ne,nf,d⟩:=I.pin p hp
   refine⟨(hs.2 p.1 ?_).trans e,n,ne,nf,d⟩
   intro q
   rw[q,hoc]at e
   have q':oc=p.2:=Option.some.inj e
   exact d w' (by rw[<- q'];exact hocd)
theorem o0z {M:Model}{A:Around}{E:Value->Shared->Prop}{i:Nat}{x:Str}{v:V}{u:Value}{Q:Unit->Shared->Prop}(I:Inv X pins σ H s)(hN:X.N.Nodup)(hi:X.N[i]? = some x)(hx:Loc X.env.scope x)(r:RelV v u)
  (h:∀s',Inv X pins (σ.set i (some v)) H s'->Q () s') (hf:X.fn x=true∨X.env.scope.names.lookup x=some .local:=by first | exact .inl rfl | exact .inr rfl | assumption):wpAny M A (storeName X.env x u) Q E s :=
 m0b I hN hi hx r (fun s' I' _=>h s' I') hf
theorem Inv.call' {s':Shared}{ch:List Addr}(I:Inv X pins σ H s)(ho:s'.os=s.os)(u:Un (frs X.stack) ch H H' s.heap s'.heap)(hok:HOk X.prog X.w H' s'.heap)(hg:AllBare s'.gens)
  (hch:∀b∈ch,(b∈X.ex∨X.s₀.heap.objs.size<=b)/\b≠X.env.locals/\(∀x c,X.env.cells.lookup x=some c->c≠b)/\∀p∈X.pn++pins,p.1≠b):Inv X pins σ H' s':=by
 obtain⟨h',g',d',t',o'⟩:=s'
 have e:o'=s.os:=ho
 subst e
 exact I.call (g':=g') (t':=t') (d':=d') u hok hg hch
end
abbrev XK:=Value->Option Addr->Hp->Prop
abbrev St:=List (Option V)
abbrev VK:=V->Hp->Prop
abbrev TE:=St->Hp->VK->Prop
abbrev TT:=St->Hp->(Bool->Hp->Prop)->Prop
abbrev TA:=St->Hp->(List V->Hp->Prop)->Prop
structure Ends where
 nx:St->Hp->Prop
 rt:VK
 bk:St->Hp->Prop:=fun _ _=>False
 ct:St->Hp->Prop:=fun _ _=>False
abbrev TS:=Ends->St->Hp->Prop
def EP (X:Cx)(pins:List (Addr×Obj))(σ:St)(Q:VK)(u:Value)(s':Shared):Prop:=∃v H',Inv X pins σ H' s'/\RelV v u/\Q v H'
def TP (X:Cx)(pins:List (Addr×Obj))(σ:St)(Q:Bool->Hp->Prop)(b:Bool)(s':Shared):Prop:=∃H',Inv X pins σ H' s'/\Q b H'
def AP (X:Cx)(pins:List (Addr×Obj))(σ:St)(Q:List V->Hp->Prop)(us:List Value)(s':Shared):Prop:=∃vs H',Inv X pins σ H' s'/\Vals vs us/\Q vs H'
def SP (X:Cx)(pins:List (Addr×Obj))(D:Ends)(f:Flow)(s':Shared):Prop :=
 match f with
 | .next=>∃ σ' H',Inv X pins σ' H' s'/\D.nx σ' H'
 | .brk=>∃ σ' H',Inv X pins σ' H' s'/\D.bk σ' H'
 | .cont=>∃ σ' H',Inv X pins σ' H' s'/\D.ct σ' H'
 | .ret u=>∃v σ' H',Inv X pins σ' H' s'/\RelV v u/\D.rt v H'
def PE (X:Cx)(e:Expr)(t:TE):Prop :=
 ∀(pins:List (Addr×Obj)) (s:Shared) (σ:St) (H:Hp) (Q:VK),Inv X pins σ H s->t σ H Q->wpAny (model X.prog X.w) X.A (eval e X.env) (EP X pins σ Q) X.xe s
def PT (X:Cx)(e:Expr)(t:TT):Prop :=
 ∀(pins:List (Addr×Obj)) (s:Shared) (σ:St) (H:Hp) (Q:Bool->Hp->Prop),Inv X pins σ H s->t σ H Q->wpAny (model X.prog X.w) X.A (isTrue e X.env (eval e X.env)) (TP X pins σ Q) X.xe s
def PW (X:Cx)(e:Expr)(t:TT):Prop :=
 ∀(whole:Sem Value) (pins:List (Addr×Obj)) (s:Shared) (σ:St) (H:Hp) (Q:Bool->Hp->Prop),Inv X pins σ H s->t σ H Q->wpAny (model X.prog X.w) X.A (isTrue e X.env whole) (TP X pins σ Q) X.xe s
theorem PW.pt {X:Cx}{e:Expr}{t:TT}(h:PW X e t):PT X e t:=h _
def PA (X:Cx)(es:List Expr)(t:TA):Prop :=
 ∀(pos:Pos) (pins:List (Addr×Obj)) (s:Shared) (σ:St) (H:Hp) (Q:List V->Hp->Prop),Inv X pins σ H s->t σ H Q->wpAny (model X.prog X.w) X.A (spliced (backTo pos (starEach es X.env))) (AP X pins σ Q) X.xe s
def PS (X:Cx)(st:Stmt)(t:TS):Prop :=
 ∀(pins:List (Addr×Obj)) (s:Shared) (σ:St) (H:Hp) (D:Ends),Inv X pins σ H s->t D σ H->wpAny (model X.prog X.w) X.A (exec st X.env) (SP X pins D) X.xe s
def PSs (X:Cx)(st:List Stmt)(t:TS):Prop :=
 ∀(pins:List (Addr×Obj)) (s:Shared) (σ:St) (H:Hp) (D:Ends),Inv X pins σ H s->t D σ H->wpAny (model X.prog X.w) X.A (execs st X.env) (SP X pins D) X.xe s
theorem thn {α:Type}{t:Sem α}{Q Q':α->Shared->Prop}{M:Model}{A:Around}{E:Value->Shared->Prop}{s:Shared}(h:wpAny M A t Q E s)(hQ:∀a s,Q a s->Q' a s):wpAny M A t Q' E s:=wpAny_mono h hQ fun _ _ x=>x
section
variable {X:Cx}
def tVar (i:Nat):TE:=fun σ H Q=>∃v,σ[i]? = some (some v)/\Q v H
def tC (v:V):TE:=fun _ H Q=>Q v H
theorem l1s {i:Nat}{x:Str}{pos:Pos}(hN:X.N[i]? = some x)(hv:Vis X.env.scope x)(hd:(x==("__debug__" : Str))=false:=by decide)(hcd:(x==("__classdict__" : Str))=false:=by decide):PE X (.Name x pos) (tVar i):=by
 intro pins s σ H Q I h
 obtain⟨v,e,h⟩:=h
 obtain⟨m,hn,hl⟩:=I.loc
 obtain⟨u,r,l⟩:=hl i x v hN e hv
 have fin:EP X pins σ Q u s:=⟨v,H,I,r,h⟩
 rcases l with⟨hk,hm⟩ | ⟨hk,c,hc,hcell⟩
 ·exact wpAny_Name (wpAny_loadName_local I.ok.kind hk hn hm fin) hd
 ·rcases hk with hk | hk
  ·exact wpAny_Name (wpAny_loadName_cell I.ok.kind hk hc hcell fin) hd
  ·exact wpAny_Name (wpAny_loadName_free I.ok.kind hk hc hcell fin hcd) hd
theorem a0r {i j pos}:PE X (.Constant (.int i) j pos) (tC (.int i)):=fun _ _ _ H _ I h=>wpAny_Constant_int ⟨.int i,H,I.tok _,⟨_,rfl⟩,h⟩
theorem h0u {b j pos}:PE X (.Constant (.bool b) j pos) (tC (.bl b)):=fun _ _ _ H _ I h=>Constant_bool ⟨.bl b,H,I,rfl,h⟩
theorem e0e {x j pos}:PE X (.Constant (.str x) j pos) (tC (.str x)):=fun _ _ _ H _ I h=>Calls.Constant_str ⟨.str x,H,I.tok _,⟨_,rfl⟩,h⟩
def Gl (X:Cx)(x:Str):Prop:=X.env.kindOf x=some .globalImplicit
theorem j1g {E:Value->Shared->Prop}{pins:List (Addr×Obj)}{s:Shared}{σ:St}{H:Hp}{x:Str}{u:Value}{pos:Pos}{Q:Value->Shared->Prop}(I:Inv X pins σ H s)(hg:Gl X x)(hm:X.mg x=some u)(h:Q u s)
  (hd:(x==("__debug__" : Str))=false:=by decide):wpAny (model X.prog X.w) X.A (eval (.Name x pos) X.env) Q E s :=
 Calls.Name_function_global I.ok.kind hg (Calls.loadGlobal_global (by rw[I.ok.glob];exact I.mod.glob.keeps I.bk) hm h) hd
theorem g0m {E:Value->Shared->Prop}{pins:List (Addr×Obj)}{s:Shared}{σ:St}{H:Hp}{x:Str}{u:Value}{pos:Pos}{Q:Value->Shared->Prop}(I:Inv X pins σ H s)(hg:Gl X x)(hm:X.mg x=none)(hv:bootBuiltins x=some u)(h:Q u s)
  (hn:x ≠ "__name__" := by decide) (hd:(x==("__debug__" : Str))=false:=by decide):wpAny (model X.prog X.w) X.A (eval (.Name x pos) X.env) Q E s:=by
 obtain⟨mb,h1,h2⟩:=I.mod.blt
 exact Calls.Name_function_global I.ok.kind hg (Calls.loadGlobal_builtin (by rw[I.ok.glob];exact I.mod.glob.keeps I.bk) hm (by rw[I.ok.blt];exact h1.keeps I.bk) ((h2 x hn).trans hv) h) hd
theorem i1q {x:Str}{v:V}{u:Value}{pos:Pos}(hg:Gl X x)(hm:X.mg x=none)(hv:bootBuiltins x=some u)(r:RelV v u)(hn:x ≠ "__name__" := by decide)(hd:(x==("__debug__" : Str))=false:=by decide):PE X (.Name x pos) (tC v) :=
 fun _ _ _ H _ I h=>g0m I hg hm hv ⟨v,H,I,r,h⟩ hn hd
variable {a b:Expr}{ta tb:TE}{pos:Pos}
def PC (X:Cx)(op:CmpOp)(a b:Expr)(t:TE):Prop :=
 ∀(pins:List (Addr×Obj)) (s:Shared) (σ:St) (H:Hp) (Q:VK),Inv X pins σ H s->t σ H Q ->
  wpAny (model X.prog X.w) X.A (eval a X.env) (fun v s₁=>wpAny (model X.prog X.w) X.A (eval b X.env) (fun u s₂=>wpAny (model X.prog X.w) X.A (compareOp op v u) (EP X pins σ Q) X.xe s₂) X.xe s₁) X.xe s
def tB (t:TE):TT:=fun σ H Q=>t σ H fun x H1=>∃c,x = .bl c/\Q c H1
theorem g1q {op:CmpOp}{t:TE}(h:PC X op a b t)(h1:behindInMarks op b=false:=by first | exact nobehind _ (by decide) (by decide) | rfl):PT X (.Compare a [op] [b] pos) (tB t):=by
 intro pins s σ H Q I hw
 refine wpAny_isTrue_Compare1 (thn (h pins s σ H _ I hw) fun v s1 h1=>thn h1 fun u s2 h2=>thn h2 fun c s3 ⟨x,H1,I1,r1,q1⟩=>?_) h1
 obtain⟨d,rfl,q⟩:=q1
 cases r1
 exact wpAny_truthy_bool ⟨H1,I1,q⟩
theorem m0f {e:Expr}{t:TE}(h:PE X e t)(he:∀whole,isTrue e X.env whole=(do let v <- whole;standAt e.pos;holding [v] (truthy v)):=by intro _;rfl):PT X e (tB t):=by
 intro pins s σ H Q I hw
 refine isTrue_plain (thn (h pins s σ H _ I hw) fun v s1 ⟨x,H1,I1,r1,q1⟩=>?_) (he _)
 obtain⟨d,rfl,q⟩:=q1
 cases r1
 exact wpAny_truthy_bool ⟨H1,I1,q⟩
variable {tA tB':TT}{rest:List Expr}
def tAnd (t u:TT):TT:=fun σ H Q=>t σ H fun c H1=>if c=true then u σ H1 Q else Q false H1
def tOr (t u:TT):TT:=fun σ H Q=>t σ H fun c H1=>if c=true then Q true H1 else u σ H1 Q
def tNot (t:TT):TT:=fun σ H Q=>t σ H fun c H1=>Q (!c) H1
theorem p0e (ha:PT X a tA):PW X (.BoolOp .And [a] pos) tA:=by
 intro wh pins s σ H Q I h
 refine isTrue_and (thn (ha pins s σ H Q I h) fun c s1 e=>?_)
 cases c with
 | true=>exact isTrue_and_nil e
 | false=>exact e
theorem a1j (ha:PT X a tA):PW X (.BoolOp .Or [a] pos) tA:=by
 intro wh pins s σ H Q I h
 refine isTrue_or (thn (ha pins s σ H Q I h) fun c s1 e=>?_)
 cases c with
 | false=>exact isTrue_or_nil e
 | true=>exact e
theorem r0e (ha:PT X a tA)(hb:PW X (.BoolOp .And (b::rest) pos) tB'):PW X (.BoolOp .And (a::b::rest) pos) (tAnd tA tB'):=by
 intro wh pins s σ H Q I h
 refine isTrue_and (thn (ha pins s σ H _ I h) fun c s1 ⟨H1,I1,q1⟩=>?_)
 cases c with
 | true=>exact hb wh pins s1 σ H1 Q I1 q1
 | false=>exact⟨H1,I1,q1⟩
theorem i1l (ha:PT X a tA)(hb:PW X (.BoolOp .Or (b::rest) pos) tB'):PW X (.BoolOp .Or (a::b::rest) pos) (tOr tA tB'):=by
 intro wh pins s σ H Q I h
 refine isTrue_or (thn (ha pins s σ H _ I h) fun c s1 ⟨H1,I1,q1⟩=>?_)
 cases c with
 | true=>exact⟨H1,I1,q1⟩
 | false=>exact hb wh pins s1 σ H1 Q I1 q1
theorem i0u (ha:PT X a tA):PT X (.UnaryOp .Not a pos) (tNot tA):=by
 intro pins s σ H Q I h
 exact isTrue_not (ha pins s σ H (fun c H1=>Q (!c) H1) I h)
def l1a (ta tb:TE):TE:=fun σ H Q=>ta σ H fun x H1=>∃c,x = .bl c/\if c=true then tb σ H1 Q else Q (.bl false) H1
def k1y (ta:TE):TE:=fun σ H Q=>ta σ H fun x H1=>∃c,x = .bl c/\Q (.bl (!c)) H1
theorem o0i {op}{t:TE}(h:PE X a t):PE X (.BoolOp op [a] pos) t:=fun pins s σ H Q I hw=>BoolOp_one (h pins s σ H Q I hw)
theorem m0j (ha:PE X a ta)(hb:PE X (.BoolOp .And (b::rest) pos) tb):PE X (.BoolOp .And (a::b::rest) pos) (l1a ta tb):=by
 intro pins s σ H Q I h
 refine BoolOp_and (thn (ha pins s σ H _ I h) fun v s1 ⟨x,H1,I1,r1,q1⟩=>?_)
 obtain⟨c,rfl,q1⟩:=q1
 cases r1
 refine wpAny_truthy_bool ?_
 cases c with
 | true=>exact hb pins s1 σ H1 Q I1 q1
 | false=>exact⟨.bl false,H1,I1,rfl,q1⟩
theorem l1t (ha:PE X a ta):PE X (.UnaryOp .Not a pos) (k1y ta):=by
 intro pins s σ H Q I h
 refine UnaryOp_ (thn (ha pins s σ H _ I h) fun v s1 ⟨x,H1,I1,r1,q1⟩=>?_)
 obtain⟨c,rfl,q1⟩:=q1
 cases r1
 exact not_of (wpAny_truthy_bool ⟨.bl (!c),H1,I1,rfl,q1⟩)
def tIf (t:TT)(ta tb:TE):TE:=fun σ H Q=>t σ H fun c H1=>if c=true then ta σ H1 Q else tb σ H1 Q
theorem e1o {c:Expr}(hc:PT X c tA)(ha:PE X a ta)(hb:PE X b tb):PE X (.IfExp c a b pos) (tIf tA ta tb):=by
 intro pins s σ H Q I h
 refine wpAny_IfExp (thn (hc pins s σ H _ I h) fun d s1 ⟨H1,I1,q1⟩=>?_)
 cases d with
 | true=>exact ha pins s1 σ H1 Q I1 q1
 | false=>exact hb pins s1 σ H1 Q I1 q1
end
def SqL (K:PySem.W.Frag)(H:Hp)(a:Addr)(xs:List V):Prop :=
 Rd H a (.lst xs) ∨
  ∃(o:Obj) (its:Array Value) (n:Nat),K.lookup a=some o/\o.cls = .type "list" /\ o.dict=none/\o.data = .seq its n/\its.size<=sizeLine/\Vals xs its.toList
def SqT (K:PySem.W.Frag)(H:Hp)(a:Addr)(xs:List V):Prop :=
 Rd H a (.tup xs) ∨
  ∃(o:Obj) (its:Array Value) (n:Nat),K.lookup a=some o/\o.cls = .type "tuple" /\ o.data = .seq its n/\its.size<=sizeLine/\Vals xs its.toList
def absV:Value->Option V
 | .none=>some .non
 | .bool b=>some (.bl b)
 | .int i _=>some (.int i)
 | .str x _=>some (.str x)
 | .bytes b _=>some (.byt b)
 | .float b _=>some (.flt b)
 | .ref a=>some (.ref a)
 | .type n=>some (.ty n)
 | _=>none
theorem RelV.abs {x:V}{u:Value}(r:RelV x u):absV u=some x:=by
 cases x with
 | non=>cases r;rfl
 | bl _=>cases r;rfl
 | int _=>obtain⟨t,rfl⟩:=r;rfl
 | str _=>obtain⟨t,rfl⟩:=r;rfl
 | byt _=>obtain⟨t,rfl⟩:=r;rfl
 | flt _=>obtain⟨t,rfl⟩:=r;rfl
 | ref _=>cases r;rfl
 | ty _=>cases r;rfl
theorem RelV.inj {x y:V}{u:Value}(r:RelV x u)(q:RelV y u):x=y:=Option.some.inj (r.abs.symm.trans q.abs)
theorem Vals.inj:∀ {xs ys:List V} {us:List Value},Vals xs us->Vals ys us->xs=ys
 | _,_,_,.nil,.nil=>rfl
 | _,_,_,.cons r t,.cons r' t'=>by rw[r.inj r',Vals.inj t t']
section
variable {X:Cx}{pins:List (Addr×Obj)}{σ:St}{H:Hp}{s:Shared}{a:Addr}{xs ys:List V}
theorem SqL.of {K:PySem.W.Frag}(h:H a=some (.lst xs)):SqL K H a xs:=.inl (.inl h)
theorem SqT.of {K:PySem.W.Frag}(h:H a=some (.tup xs)):SqT K H a xs:=.inl (.inl h)
theorem Inv.list (I:Inv X pins σ H s)(h:SqL X.K H a xs):∃its:List Value,Vals xs its/\PlainL s.heap a its.toArray/\xs.length<=sizeLine:=by
 rcases h with h | ⟨o,its,n,hk,hc,hd,hs,hz,r⟩
 ·obtain⟨z,its,n,r,e⟩:=h.ok I.hok
  exact⟨its,r,⟨_,n,e,rfl,rfl,rfl⟩,z⟩
 ·refine⟨its.toList,r,⟨o,n,I.kIn a o hk,hc,hd,by simpa using hs⟩,?_⟩
  have e:=r.length
  simp only[Array.length_toList]at e
  omega
theorem Inv.tuple (I:Inv X pins σ H s)(h:SqT X.K H a xs):∃its:List Value,Vals xs its/\IsTup s.heap a its.toArray/\xs.length<=sizeLine:=by
 rcases h with h | ⟨o,its,n,hk,hc,hs,hz,r⟩
 ·obtain⟨z,its,r,p⟩:=h.ok I.hok
  exact⟨its,r,p,z⟩
 ·refine⟨its.toList,r,⟨o,I.kIn a o hk,hc,n,by simpa using hs⟩,?_⟩
  have e:=r.length
  simp only[Array.length_toList]at e
  omega
theorem Inv.list_inj (I:Inv X pins σ H s)(h:SqL X.K H a xs)(h':SqL X.K H a ys):xs=ys:=by
 obtain⟨its,r,⟨o,n,e,_,_,d⟩,_⟩:=I.list h
 obtain⟨its',r',⟨o',n',e',_,_,d'⟩,_⟩:=I.list h'
 rw[e]at e';cases e'
 rw[d]at d'
 injection d' with d1 _
 have:its=its':=by simpa using congrArg Array.toList d1
 subst this
 exact r.inj r'
theorem Inv.tuple_inj (I:Inv X pins σ H s)(h:SqT X.K H a xs)(h':SqT X.K H a ys):xs=ys:=by
 obtain⟨its,r,⟨o,e,_,n,d⟩,_⟩:=I.tuple h
 obtain⟨its',r',⟨o',e',_,n',d'⟩,_⟩:=I.tuple h'
 rw[e]at e';cases e'
 rw[d]at d'
 injection d' with d1 _
 have:its=its':=by simpa using congrArg Array.toList d1
 subst this
 exact r.inj r'
end
abbrev Cx.wish (X:Cx)(E:Value->Shared->Prop):Cx:={X with xe:=E}
abbrev Cx.nox (X:Cx):Cx:=X.wish fun _ _=>False
theorem Cx.Ok.wish {X:Cx}(ok:X.Ok)(E:Value->Shared->Prop):(X.wish E).Ok :=
 ⟨ok.mod,ok.kind,ok.glob,ok.blt,ok.above,ok.inj,ok.has,ok.cab,ok.hd,ok.frames,ok.stk,ok.exf,ok.bs,ok.bsz,ok.noex,ok.exfs,ok.funs,ok.frf⟩
theorem Cx.Ok.unwish {X:Cx}{E:Value->Shared->Prop}(ok:(X.wish E).Ok):X.Ok :=
 ⟨ok.mod,ok.kind,ok.glob,ok.blt,ok.above,ok.inj,ok.has,ok.cab,ok.hd,ok.frames,ok.stk,ok.exf,ok.bs,ok.bsz,ok.noex,ok.exfs,ok.funs,ok.frf⟩
section
variable {X:Cx}{pins:List (Addr×Obj)}{σ:St}{H:Hp}{s:Shared}{E:Value->Shared->Prop}
theorem Inv.wish (I:Inv X pins σ H s)(E:Value->Shared->Prop):Inv (X.wish E) pins σ H s:=⟨I.ok.wish E,I.os,I.bare,I.base,I.loc,I.cell,I.free,I.freeC,I.pin,I.hok,I.len⟩
theorem Inv.unwish (I:Inv (X.wish E) pins σ H s):Inv X pins σ H s:=⟨I.ok.unwish,I.os,I.bare,I.base,I.loc,I.cell,I.free,I.freeC,I.pin,I.hok,I.len⟩
theorem SP.unwish {D:Ends}{f:Flow}{s':Shared}(h:SP (X.wish E) pins D f s'):SP X pins D f s':=by
 cases f with
 | next=>obtain⟨σ',H',I,q⟩:=h;exact⟨σ',H',I.unwish,q⟩
 | brk=>obtain⟨σ',H',I,q⟩:=h;exact⟨σ',H',I.unwish,q⟩
 | cont=>obtain⟨σ',H',I,q⟩:=h;exact⟨σ',H',I.unwish,q⟩
 | ret u=>obtain⟨v,σ',H',I,r,q⟩:=h;exact⟨v,σ',H',I.unwish,r,q⟩
theorem PSs.nox {st:List Stmt}{t:TS}(h:PSs X.nox st t):PSs X st t:=fun pins s σ H D I hw =>
 wpAny_mono (h pins s σ H D (I.wish _) hw) (fun _ _ q=>q.unwish) fun _ _ z=>False.elim z
end
section
variable {X:Cx}{st:Stmt}{rest:List Stmt}{t u:TS}{e:Expr}{te:TE}{pos:Pos}
def tNext:TS:=fun D σ H=>D.nx σ H
def tSeq (t u:TS):TS:=fun D σ H=>t {D with nx:=u D} σ H
theorem b0z:PSs X [] tNext:=fun _ _ σ H _ I h=>wpAny_execs_nil ⟨σ,H,I,h⟩
theorem a0f (h1:PS X st t)(h2:PSs X rest u):PSs X (st::rest) (tSeq t u):=by
 intro pins s σ H D I h
 refine wpAny_execs_cons (thn (h1 pins s σ H {D with nx:=u D} I h) fun f s1 q=>?_)
 cases f with
 | next =>
  obtain⟨σ',H',I',q⟩:=q
  exact h2 pins s1 σ' H' D I' q
 | ret v=>exact q
 | brk=>exact q
 | cont=>exact q
theorem a0n (h1:PS X st t):PSs X [st] t:=by
 intro pins s σ H D I h
 refine wpAny_execs_cons (thn (h1 pins s σ H D I h) fun f s1 q=>?_)
 cases f with
 | next=>exact wpAny_execs_nil q
 | ret v=>exact q
 | brk=>exact q
 | cont=>exact q
theorem Inv.quiet {pins:List (Addr×Obj)}{σ:St}{H:Hp}{s:Shared}(I:Inv X pins σ H s):interactive X.env=false:=by simp[interactive,I.ok.kind]
def k1z (te:TE):TS:=fun D σ H=>te σ H fun _ H1=>D.nx σ H1
theorem f0o (he:PE X e te)(hs:swapsWith e none pos.line X.env=pure false:=by rfl):PS X (.Expr e pos) (k1z te):=by
 intro pins s σ H D I h
 exact wpAny_Expr_any (thn (he pins s σ H _ I h) fun v s1 ⟨x,H1,I1,r1,q1⟩=>⟨σ,H1,I1,q1⟩) I.quiet hs
def tRet (te:TE):TS:=fun D σ H=>te σ H D.rt
theorem b0h (he:PE X e te):PS X (.Return (some e) pos) (tRet te):=by
 intro pins s σ H D I h
 exact wpAny_Return_some (thn (he pins s σ H _ I h) fun v s1 ⟨x,H1,I1,r1,q1⟩=>⟨x,σ,H1,I1,r1,q1⟩)
def tIfS (c:TT)(t u:TS):TS:=fun D σ H=>c σ H fun b H1=>if b=true then t D σ H1 else u D σ H1
theorem f0f {c:Expr}{a b:List Stmt}{tc:TT}(hc:PT X c tc)(ha:PSs X a t)(hb:PSs X b u):PS X (.If c a b pos) (tIfS tc t u):=by
 intro pins s σ H D I h
 refine wpAny_If (thn (hc pins s σ H _ I h) fun d s1 ⟨H1,I1,q1⟩=>?_)
 cases d with
 | true=>exact ha pins s1 σ H1 D I1 q1
 | false=>exact hb pins s1 σ H1 D I1 q1
end
abbrev TG:=V->St->Hp->(St->Hp->Prop)->Prop
abbrev TGs:=List V->St->Hp->(St->Hp->Prop)->Prop
def PG (X:Cx)(target:Expr)(t:TG):Prop :=
 ∀(pins:List (Addr×Obj)) (s:Shared) (σ:St) (H:Hp) (v:V) (u:Value) (Q:St->Hp->Prop),Inv X pins σ H s->RelV v u->t v σ H Q ->
  wpAny (model X.prog X.w) X.A (assign target X.env u) (fun _ s'=>∃ σ' H',Inv X pins σ' H' s'/\Q σ' H') X.xe s
def PGs (X:Cx)(ts:List Expr)(t:TGs):Prop :=
 ∀(pins:List (Addr×Obj)) (s:Shared) (σ:St) (H:Hp) (vs:List V) (us:List Value) (Q:St->Hp->Prop),Inv X pins σ H s->Vals vs us->t vs σ H Q ->
  wpAny (model X.prog X.w) X.A (assignInOrder ((assignEach ts X.env).map (·.2)) us) (fun _ s'=>∃ σ' H',Inv X pins σ' H' s'/\Q σ' H') X.xe s
abbrev TIp:=V->V->Hp->VK->Prop
def PIp (X:Cx)(op:Operator)(t:TIp):Prop :=
 ∀(pins:List (Addr×Obj)) (s:Shared) (σ:St) (H:Hp) (x y:V) (v u:Value) (Q:VK),Inv X pins σ H s->RelV x v->RelV y u->t x y H Q ->
  wpAny (model X.prog X.w) X.A (inplaceOp op v u) (EP X pins σ Q) X.xe s
section
variable {X:Cx}{pos:Pos}
def f1i (i:Nat):TG:=fun v σ H Q=>Q (σ.set i (some v)) H
theorem a0q {i:Nat}{x:Str}(hN:X.N.Nodup)(hi:X.N[i]? = some x)(hx:Loc X.env.scope x)(hf:X.fn x=true∨X.env.scope.names.lookup x=some .local:=by first | exact .inl rfl | exact .inr rfl | assumption):PG X (.Name x pos) (f1i i):=by
 intro pins s σ H v u Q I r h
 exact wpAny_assign_Name (o0z I hN hi hx r (fun s' I'=>⟨_,H,I',h⟩) hf)
def gNil:TGs:=fun vs σ H Q=>vs=[]/\Q σ H
def m1w (t:TG)(u:TGs):TGs:=fun vs σ H Q=>∃v r,vs=v::r/\t v σ H fun σ' H'=>u r σ' H' Q
theorem d0j:PGs X [] gNil:=by
 intro pins s σ H vs us Q I r h
 obtain⟨e,h⟩:=h
 subst e
 cases r
 exact assignInOrder_nil ⟨σ,H,I,h⟩
theorem a0v {e:Expr}{es:List Expr}{t:TG}{u:TGs}(h1:PG X e t)(h2:PGs X es u)
  (hs:(assignEach (e::es) X.env).map (·.2)=assign e X.env::(assignEach es X.env).map (·.2):=by rfl):PGs X (e::es) (m1w t u):=by
 intro pins s σ H vs us Q I r h
 obtain⟨v,vr,e1,h⟩:=h
 subst e1
 cases r with
 | cons r rr =>
  rw[hs]
  refine assignInOrder_cons (thn (h1 pins s σ H _ _ _ I r h) fun _ s1 ⟨σ1,H1,I1,q1⟩=>?_)
  exact h2 pins s1 σ1 H1 _ _ Q I1 rr q1
def gTup (K:PySem.W.Frag)(n:Nat)(t:TGs):TG:=fun v σ H Q=>∃a xs,v = .ref a/\SqT K H a xs/\xs.length=n/\t xs σ H Q
theorem l1r {es:List Expr}{k:Nat}{t:TGs}{n:Nat}(hc:X.calm=true)(h:PGs X es t)
  (hn:(assignEach es X.env).length=n:=by rfl) (hst:(assignEach es X.env).findIdx? (·.1)=none:=by rfl):PG X (.Tuple es k pos) (gTup X.K n t):=by
 intro pins s σ H v u Q I r hw
 obtain⟨a,xs,e1,hq,hl,hw⟩:=hw
 subst e1
 cases r
 obtain⟨its,rv,ht,hz⟩:=I.tuple hq
 refine assign_Tuple_tuple (I.ok.hd hc) ht (by simp[hn,<- hl,rv.length]) hst fun h' hx=>?_
 have I1:Inv X pins σ H {s with heap:=h'}:=I.kept (t':=s.toks) fun b o e=>hx b o (Nat.ne_of_lt (Heap.lt_size e)) e
 exact h pins _ σ H xs _ Q I1 (by simpa using rv) hw
def tAsg (te:TE)(g:TG):TS:=fun D σ H=>te σ H fun x H1=>g x σ H1 D.nx
theorem m0h {tg e:Expr}{te:TE}{g:TG}(he:PE X e te)(hg:PG X tg g)(hs:swapsWithSole [tg] e pos.line X.env=pure false:=by rfl)(hw:swappedStores [tg] e X.env=pure none:=by rfl)
  (h1:(assignEach [tg] X.env).map (·.2)=[assign tg X.env]:=by rfl):PS X (.Assign [tg] e pos) (tAsg te g):=by
 intro pins s σ H D I h
 refine wpAny_Assign_stores (thn (he pins s σ H _ I h) fun v s1 ⟨x,H1,I1,r1,q1⟩=>?_) hs hw
 rw[h1]
 exact thn (hg pins s1 σ H1 x v _ I1 r1 q1) fun _ s2 q=>q
theorem b0e {i:Nat}{x:Str}{e:Expr}{te:TE}{pos':Pos}(hN:X.N.Nodup)(hi:X.N[i]? = some x)(hx:Loc X.env.scope x)(he:PE X e te)(hs:swapsWith e (some (.Name x pos')) pos.line X.env=pure false:=by rfl)(hf:X.fn x=true∨X.env.scope.names.lookup x=some .local:=by first | exact .inl rfl | exact .inr rfl | assumption) :
  PS X (.Assign [.Name x pos'] e pos) (tAsg te (f1i i)):=by
 intro pins s σ H D I h
 refine wpAny_Assign_Name (thn (he pins s σ H _ I h) fun v s1 ⟨y,H1,I1,r1,q1⟩=>?_) hs
 exact o0z I1 hN hi hx r1 (fun s2 I2=>⟨_,H1,I2,q1⟩) hf
def tAug (i:Nat)(te:TE)(ti:TIp):TS:=fun D σ H=>∃x,σ[i]? = some (some x)/\te σ H fun y H1=>ti x y H1 fun z H2=>D.nx (σ.set i (some z)) H2
theorem g1r {i:Nat}{x:Str}{e:Expr}{te:TE}{op:Operator}{ti:TIp}{pos':Pos}(hN:X.N.Nodup)(hi:X.N[i]? = some x)(hx:Loc X.env.scope x)(he:PE X e te)(ho:PIp X op ti)(hf:X.fn x=true∨X.env.scope.names.lookup x=some .local:=by first | exact .inl rfl | exact .inr rfl | assumption) :
  PS X (.AugAssign (.Name x pos') op e pos) (tAug i te ti):=by
 intro pins s σ H D I h
 obtain⟨v,e1,h⟩:=h
 obtain⟨m,hn,hl⟩:=I.loc
 have vis:Vis X.env.scope x:=by rcases hx with k | k;exact .inl k;exact .inr (.inl k)
 obtain⟨u,r,l⟩:=hl i x v hi e1 vis
 refine wpAny_AugAssign_Name ?_
 have go:wpAny (model X.prog X.w) X.A (eval e X.env) (fun w s₂=>wpAny (model X.prog X.w) X.A (inplaceOp op u w) (fun r s₃=>wpAny (model X.prog X.w) X.A (storeName X.env x r) (fun _=>SP X pins D .next) X.xe s₃) X.xe s₂) X.xe s:=by
  refine thn (he pins s σ H _ I h) fun w s1 ⟨y,H1,I1,r1,q1⟩=>?_
  refine thn (ho pins s1 σ H1 v y u w _ I1 r r1 q1) fun z s2 ⟨zv,H2,I2,r2,q2⟩=>?_
  exact o0z I2 hN hi hx r2 (fun s3 I3=>⟨_,H2,I3,q2⟩) hf
 rcases l with⟨hk,hm⟩ | ⟨hk,c,hc,hcell⟩
 ·exact wpAny_loadName_local I.ok.kind hk hn hm go
 ·rcases hk with hk | hk
  ·exact wpAny_loadName_cell I.ok.kind hk hc hcell go
  ·rcases hx with k | k
   ·have:X.env.scope.names.lookup x=some .free:=hk
    rw[k]at this;cases this
   ·have:X.env.scope.names.lookup x=some .free:=hk
    rw[k]at this;cases this
def ipI (f:Int->Int->Int):TIp:=fun x y H Q=>∃i j,x = .int i/\y = .int j/\Q (.int (f i j)) H
end
section
variable {X:Cx}{pos:Pos}
def g1i (c:TT)(tb:TS):TS:=fun D σ H=>∃W:Nat->St->Hp->Prop,(∃m,W m σ H)/\∀m σ H,W m σ H ->
 c σ H fun b H1=>if b=true then ∃N:St->Hp->Prop,(∀ σ' H',N σ' H'->∃m',m'<m/\W m' σ' H')/\tb {D with nx:=N,ct:=N,bk:=D.nx} σ H1 else D.nx σ H1
theorem e1l {c:Expr}{body:List Stmt}{tc:TT}{tb:TS}(hp:PassesOwn (model X.prog X.w) X.A X.env X.xe)(hc:PT X c tc)(hb:PSs X body tb):PS X (.While c body [] pos) (g1i tc tb):=by
 intro pins s σ H D I h
 obtain⟨W,⟨m0,w0⟩,turn⟩:=h
 refine wpAny_While (codeAny_whileLoop (fun n s'=>∃ σ' H',Inv X pins σ' H' s'/\W n σ' H') ?_ m0 ⟨σ,H,I,w0⟩)
 rintro n s1 ⟨σ1,H1,I1,w1⟩
 refine wpAny_passesOwn hp (thn (hc pins s1 σ1 H1 _ I1 (turn n σ1 H1 w1)) fun b s2 ⟨H2,I2,q2⟩=>?_)
 cases b with
 | true =>
  obtain⟨N,hN,q2⟩:=q2
  rw[if_pos rfl]
  refine wpAny_passesOwn hp (thn (hb pins s2 σ1 H2 _ I2 q2) fun f s3 q3=>?_)
  cases f with
  | next =>
   obtain⟨σ3,H3,I3,n3⟩:=q3
   obtain⟨m',hm,w3⟩:=hN σ3 H3 n3
   exact⟨m',hm,σ3,H3,I3,w3⟩
  | cont =>
   obtain⟨σ3,H3,I3,n3⟩:=q3
   obtain⟨m',hm,w3⟩:=hN σ3 H3 n3
   exact⟨m',hm,σ3,H3,I3,w3⟩
  | brk=>exact q3
  | ret v=>exact q3
 | false =>
  rw[if_neg Bool.false_ne_true]
  exact wpAny_execs_nil ⟨σ1,H2,I2,q2⟩
end
structure It where
 go:Nat->Hp->Prop
 yld:Nat->Hp->V->Hp->Prop
 stop:Nat->Hp->Prop
def FpOk (X:Cx)(pins:List (Addr×Obj))(H:Hp)(b:Addr):Prop :=
 H b=none/\b≠X.env.locals/\b∉X.fs/\(b∈X.ex∨X.s₀.heap.objs.size<=b)/\(∀x c,X.env.cells.lookup x=some c->c≠b)/\∀p∈X.pn++pins,p.1≠b
theorem Inv.fpOk {X:Cx}{pins:List (Addr×Obj)}{σ:St}{H H':Hp}{s:Shared}{b:Addr}(I:Inv X pins σ H s)(hb:s.heap.objs.size<=b)(hn:H' b=none):FpOk X pins H' b:=by
 refine⟨hn,Nat.ne_of_gt (Nat.lt_of_lt_of_le I.lt hb),I.nofs hb,.inr (Nat.le_trans I.sz hb),fun x c e z=>?_,fun p hp z=>?_⟩
 ·obtain⟨v,q⟩:=I.cell x c e
  exact absurd (Nat.lt_of_lt_of_le q.lt (by rw[z];exact hb)) (Nat.lt_irrefl _)
 ·exact absurd (Nat.lt_of_lt_of_le (Heap.lt_size (I.pin p hp).1) (by rw[z];exact hb)) (Nat.lt_irrefl _)
structure Turn (P:Program)(w:World)(K:PySem.W.Frag)(tg:Expr)(J:It)(fp:List Addr)(it:Addr)(tn:Nat->Heap->Prop):Prop where
 mem:it∈fp
 obj:∀i h,tn i h->∀b∈fp,∃o,h.get? b=some o/\∀v,o.data ≠ .cell v
 keep:∀i h h',tn i h->(∀b∈fp,∀o,h.get? b=some o->h'.get? b=some o)->tn i h'
 item:∀(X:Cx),X.prog=P->X.w=w->X.K=K->X.calm=true->∀(i:Nat) (pins:List (Addr×Obj)) (s:Shared) (σ:St) (H:Hp) (E:Value->Shared->Prop),Inv X pins σ H s->(∀b∈fp,FpOk X pins H b)->tn i s.heap->J.go i H ->
  wpAny (model P w) X.A (pyNext (.ref it)) (fun r s1=>∃u,r=some u /\
   wpAny (model P w) X.A (letOwnedTupleGo tg (.ref it) u) (fun _ s2=>∃x H',Inv X pins σ H' s2/\RelV x u/\J.yld i H x H'/\tn (i+1) s2.heap/\∀b∈fp,H' b=none) E s1) E s
 done:∀(X:Cx),X.prog=P->X.w=w->X.K=K->X.calm=true->∀(i:Nat) (pins:List (Addr×Obj)) (s:Shared) (σ:St) (H:Hp) (E:Value->Shared->Prop),Inv X pins σ H s->(∀b∈fp,FpOk X pins H b)->tn i s.heap->J.stop i H ->
  wpAny (model P w) X.A (pyNext (.ref it)) (fun r s1=>r=none/\Inv X pins σ H s1) E s
 self:∀(A:Around) (i:Nat) (s:Shared) (Q:Value->Shared->Prop) (E:Value->Shared->Prop),tn i s.heap->Q (.ref it) s->wpAny (model P w) A (pyIter (.ref it)) Q E s
abbrev TI:=St->Hp->(It->Hp->Prop)->Prop
def PIE (X:Cx)(pins:List (Addr×Obj))(σ:St)(tg:Expr)(R:It->Hp->Prop)(itv:Value)(s2:Shared):Prop :=
 ∃(it:Addr) (fp:List Addr) (tn:Nat->Heap->Prop) (J:It) (H':Hp),itv = .ref it/\Inv X pins σ H' s2/\Turn X.prog X.w X.K tg J fp it tn/\tn 0 s2.heap/\(∀b∈fp,FpOk X pins H' b)/\R J H'
def PI (X:Cx)(tg iter:Expr)(wi:TI):Prop :=
 ∀(pins:List (Addr×Obj)) (s:Shared) (σ:St) (H:Hp) (R:It->Hp->Prop),Inv X pins σ H s->wi σ H R ->
  wpAny (model X.prog X.w) X.A (eval iter X.env) (fun v s1=>wpAny (model X.prog X.w) X.A (pyIter v) (PIE X pins σ tg R) X.xe s1) X.xe s
theorem f1g {M:Model}{A:Around}{E:Value->Shared->Prop}{s:Shared}{tg:Expr}{it:Addr}{u:Value}{o:Obj}{n:String}{vs:Array Value}{Q:Unit->Shared->Prop}(ho:s.heap.get? it=some o)(hc:o.cls = .type n)(hd:o.data = .fields vs)
  (hn:["enumerate", "zip", "dict_itemiterator", "dict_reverseitemiterator", "odict_iterator", "itertools.zip_longest", "itertools.pairwise"].contains n=false) (hQ:Q () s):wpAny M A (letOwnedTupleGo tg (.ref it) u) Q E s:=by
 unfold letOwnedTupleGo
 cases tg <;> first
  | exact wpAny_pure hQ
  | (cases u <;> first
    | exact wpAny_pure hQ
    | (refine wpAny_bind (wpAny_load ho ?_);rw[hc,hd];show wpAny M A (if(["enumerate", "zip", "dict_itemiterator", "dict_reverseitemiterator", "odict_iterator", "itertools.zip_longest", "itertools.pairwise"].contains n&&vs[0]? == some (rawInt _))=true then _ else _) Q E s;rw[if_neg (by intro h;rw[hn,Bool.false_and]at h;cases h)];exact wpAny_pure hQ))
def Itl (K:PySem.W.Frag)(a:Addr):It :=
 ⟨fun i H=>∃xs x,SqL K H a xs/\xs[i]? = some x,fun i H x H'=>H'=H/\∀xs,SqL K H a xs->xs[i]? = some x,fun i H=>∃xs,SqL K H a xs/\xs.length<=i⟩
def Itt (K:PySem.W.Frag)(a:Addr):It :=
 ⟨fun i H=>∃xs x,SqT K H a xs/\xs[i]? = some x,fun i H x H'=>H'=H/\∀xs,SqT K H a xs->xs[i]? = some x,fun i H=>∃xs,SqT K H a xs/\xs.length<=i⟩
def Itr (lo:Int)(n:Nat):It:=⟨fun i _=>i<n,fun i H x H'=>H'=H/\x = .int (lo+i),fun i _=>n<=i⟩
theorem z0b {P:Program}{w:World}{K:PySem.W.Frag}{tg:Expr}(a it:Addr):Turn P w K tg (Itl K a) [it] it (fun i h=>h.IsListIter it a i) where
 mem:=by simp
 obj:=fun i h st b hb=>by
  have e:b=it:=by simpa using hb
  subst e
  obtain⟨o,e,c,d⟩:=st
  exact⟨o,e,fun v z=>by rw[d]at z;cases z⟩
 keep:=fun i h h' st k=>st.at fun o e=>k it (by simp) o e
 item:=by
  intro X hP hw hK hc i pins s σ H E I hf st hg
  subst hP hw hK
  obtain⟨xs,x,hq,hx⟩:=hg
  obtain⟨its,rv,p,hz⟩:=I.list hq
  obtain⟨u,hu,ru⟩:=rv.get hx
  obtain⟨f0,f1,f2,f3,f4,f5⟩:=hf it (by simp)
  refine wpAny_pyNext_list_item st p.isList (x:=u) (by simpa using hu) fun h' st' sb=>?_
  have I1:Inv X pins σ H {s with heap:=h'}:=I.turned (t':=s.toks) (fun b o hb e=>(sb.2 b hb).trans e) f0 f1 f3 f4 f5
  obtain⟨o,e,c,d⟩:=id st'
  exact⟨u,rfl,f1g (s:={s with heap:=h'}) e c d (by decide) ⟨x,H,I1,ru,⟨rfl,fun ys hy=>by rw[I.list_inj hy hq];exact hx⟩,st',fun b hb=>(hf b hb).1⟩⟩
 done:=by
  intro X hP hw hK hc i pins s σ H E I hf st hg
  subst hP hw hK
  obtain⟨xs,hq,hx⟩:=hg
  obtain⟨its,rv,p,hz⟩:=I.list hq
  obtain⟨f0,f1,f2,f3,f4,f5⟩:=hf it (by simp)
  have hl:=rv.length
  exact wpAny_pyNext_list_end (I.ok.hd hc) st p.isList (by simp;omega) fun h' eb=>⟨rfl,I.turned (t':=s.toks) (fun b o hb e=>eb b o hb e) f0 f1 f3 f4 f5⟩
 self:=fun _ _ _ _ _ st h=>wpAny_pyIter_listiter st h
theorem x0l {P:Program}{w:World}{K:PySem.W.Frag}{tg:Expr}(a it:Addr):Turn P w K tg (Itt K a) [it] it (fun i h=>h.IsTupleIter it a i) where
 mem:=by simp
 obj:=fun i h st b hb=>by
  have e:b=it:=by simpa using hb
  subst e
  obtain⟨o,e,c,d⟩:=st
  exact⟨o,e,fun v z=>by rw[d]at z;cases z⟩
 keep:=fun i h h' st k=>st.at fun o e=>k it (by simp) o e
 item:=by
  intro X hP hw hK hc i pins s σ H E I hf st hg
  subst hP hw hK
  obtain⟨xs,x,hq,hx⟩:=hg
  obtain⟨its,rv,p,hz⟩:=I.tuple hq
  obtain⟨u,hu,ru⟩:=rv.get hx
  obtain⟨f0,f1,f2,f3,f4,f5⟩:=hf it (by simp)
  refine wpAny_pyNext_tuple_item st (show s.heap.IsTuple a its.toArray from p) (x:=u) (by simpa using hu) fun h' st' sb=>?_
  have I1:Inv X pins σ H {s with heap:=h'}:=I.turned (t':=s.toks) (fun b o hb e=>(sb.2 b hb).trans e) f0 f1 f3 f4 f5
  obtain⟨o,e,c,d⟩:=id st'
  exact⟨u,rfl,f1g (s:={s with heap:=h'}) e c d (by decide) ⟨x,H,I1,ru,⟨rfl,fun ys hy=>by rw[I.tuple_inj hy hq];exact hx⟩,st',fun b hb=>(hf b hb).1⟩⟩
 done:=by
  intro X hP hw hK hc i pins s σ H E I hf st hg
  subst hP hw hK
  obtain⟨xs,hq,hx⟩:=hg
  obtain⟨its,rv,p,hz⟩:=I.tuple hq
  obtain⟨f0,f1,f2,f3,f4,f5⟩:=hf it (by simp)
  have hl:=rv.length
  exact wpAny_pyNext_tuple_end (I.ok.hd hc) st (show s.heap.IsTuple a its.toArray from p) (by simp;omega) fun h' eb=>⟨rfl,I.turned (t':=s.toks) (fun b o hb e=>eb b o hb e) f0 f1 f3 f4 f5⟩
 self:=fun _ _ _ _ _ st h=>wpAny_pyIter_tupleiter st h
theorem x0m {P:Program}{w:World}{K:PySem.W.Frag}{tg:Expr}(it:Addr)(lo:Int)(n:Nat):Turn P w K tg (Itr lo n) [it] it (fun i h=>IsRangeIter h it (lo+(i:Nat)*1) ((n:Int) - (i:Nat)) 1) where
 mem:=by simp
 obj:=fun i h st b hb=>by
  have e:b=it:=by simpa using hb
  subst e
  exact⟨_,st,fun v z=>by
   have z':Data.fields _=Data.cell v:=z
   cases z'⟩
 keep:=fun i h h' st k=>k it (by simp) _ st
 item:=by
  intro X hP hw hK hc i pins s σ H E I hf st hg
  subst hP hw hK
  obtain⟨f0,f1,f2,f3,f4,f5⟩:=hf it (by simp)
  have W:=Walks.range (prog:=X.prog) (w:=X.w) (I.ok.hd hc) it lo 1 n
  refine W.item i s _ _ hg st fun v h' tk hv st' kk=>?_
  obtain⟨t,rfl⟩:=hv
  have I1:Inv X pins σ H {s with heap:=h',toks:=tk}:=I.turned (fun b o hb e=>kk b o (by simpa using hb) e) f0 f1 f3 f4 f5
  refine⟨_,rfl,f1g (s:={s with heap:=h',toks:=tk}) (n := "range_iterator") st' rfl rfl (by decide) ⟨.int (lo+i),H,I1,⟨t,?_⟩,⟨rfl,rfl⟩,st',fun b hb=>(hf b hb).1⟩⟩
  rw[Int.mul_one]
 done:=by
  intro X hP hw hK hc i pins s σ H E I hf st hg
  subst hP hw hK
  obtain⟨f0,f1,f2,f3,f4,f5⟩:=hf it (by simp)
  exact wpAny_pyNext_range_end (I.ok.hd hc) st (by have:n<=i:=hg;omega) fun h' eb=>⟨rfl,I.turned (t':=s.toks) (fun b o hb e=>eb b o hb e) f0 f1 f3 f4 f5⟩
 self:=fun _ _ _ _ _ st h=>wpAny_pyIter_rangeiter st h
section
variable {X:Cx}{tg:Expr}
theorem e1i {pins:List (Addr×Obj)}{σ:St}{H:Hp}{s:Shared}{R:It->Hp->Prop}{E:Value->Shared->Prop}{lo hi:Int}{t u v:Tok}{tk:Nat}(I:Inv X pins σ H s)(h1:-(2^62)<=lo)(h2:lo<2^62)(h3:-(2^62)<=hi)(h4:hi<2^62)
  (q:R (Itr lo (hi - lo).toNat) H):wpAny (model X.prog X.w) X.A (pyIter (.ref s.heap.objs.size)) (PIE X pins σ tg R) E {s with heap:=s.heap.push {cls:=.type "range",data:=.fields #[.int lo t,.int hi u,.int 1 v]},toks:=tk}:=by
 refine wpAny_pyIter_range (IsRange.new ..) (small_one h1 h2 h3 h4) ?_
 have I1:Inv X pins σ H {s with heap:=s.heap.push {cls:=.type "range",data:=.fields #[.int lo t,.int hi u,.int 1 v]},toks:=tk}:=I.kept fun b o e=>Heap.get?_push_of_some _ e
 refine⟨(s.heap.push {cls:=.type "range",data:=.fields #[.int lo t,.int hi u,.int 1 v]}).objs.size,[(s.heap.push {cls:=.type "range",data:=.fields #[.int lo t,.int hi u,.int 1 v]}).objs.size],_,_,H,rfl,
  I1.kept (t':=tk) fun b o e=>Heap.get?_push_of_some _ e,x0m _ lo (hi - lo).toNat,?_,fun b hb=>?_,q⟩
 ·have e1:lo+((0:Nat):Int)*1=lo:=by simp
  have e2:(((hi - lo).toNat:Nat):Int) - ((0:Nat):Int)=Builtin.Range.rangeSize lo hi 1:=by rw[rangeSize_one];split <;> omega
  show IsRangeIter _ _ (lo+((0:Nat):Int)*1) ((((hi - lo).toNat:Nat):Int) - ((0:Nat):Int)) 1
  rw[e1,e2]
  exact Heap.get?_push_size _ rfl
 ·have e:b=(s.heap.push {cls:=.type "range",data:=.fields #[.int lo t,.int hi u,.int 1 v]}).objs.size:=by simpa using hb
  subst e
  exact I1.fpOk (Nat.le_refl _) (I1.hok.fresh (Nat.le_refl _))
def m1q (ta:TA):TI:=fun σ H R=>ta σ H fun vs H1=>∃j:Int,vs=[.int j]/\-(2^62)<=j/\j<2^62/\R (Itr 0 j.toNat) H1
theorem e0d {a:Expr}{ta:TA}{p pos:Pos}(hg:Gl X "range")(hm:X.mg "range" = none)(ha:PA X [a] ta)(hs:starEach [a] X.env=[(false,eval a X.env)]:=by rfl):PI X tg (.Call (.Name "range" p) [a] [] pos) (m1q ta):=by
 intro pins s σ H R I h
 refine Call_ (g0m I hg hm boot_range (PyProof.Rows.callWith_type1 (thn (ha pos pins s σ H _ I h) fun us s1 ⟨vs,H1,I1,r1,q1⟩=>?_) hs rfl))
 obtain⟨j,e,q1,q2,q⟩:=q1
 subst e
 cases r1 with
 | cons r rr =>
  cases rr
  obtain⟨t,rfl⟩:=r
  exact call_range_1 (e1i I1 (by omega) (by omega) q1 q2 (by simpa using q))
def tFor (wi:TI)(g:TG)(tb:TS):TS:=fun D σ H=>wi σ H fun J H1=>∃W:Nat->Nat->St->Hp->Prop,(∃m,W 0 m σ H1)/\∀i m σ H,W i m σ H ->
 (J.stop i H/\D.nx σ H)∨(J.go i H/\∃N:St->Hp->Prop,(∀ σ' H',N σ' H'->∃m',m'<m/\W (i+1) m' σ' H')/\∀x H',J.yld i H x H'->g x σ H' fun σ2 H2=>tb {D with nx:=N,ct:=N,bk:=D.nx} σ2 H2)
def h0q (fp:List Addr)(h:Heap):List (Addr×Obj):=fp.filterMap fun b=>(h.get? b).map fun o=>(b,o)
theorem c0s {fp:List Addr}{h:Heap}{b:Addr}{o:Obj}(hb:b∈fp)(e:h.get? b=some o):(b,o)∈h0q fp h:=List.mem_filterMap.mpr ⟨b,hb,by rw[e];rfl⟩
theorem r0r {fp:List Addr}{h:Heap}{p:Addr×Obj}(hp:p∈h0q fp h):p.1∈fp/\h.get? p.1=some p.2:=by
 obtain⟨b,hb,e⟩:=List.mem_filterMap.mp hp
 cases q:h.get? b with
 | none=>rw[q]at e;cases e
 | some o =>
  rw[q]at e
  have e':(b,o)=p:=Option.some.inj e
  subst e'
  exact⟨hb,q⟩
theorem Inv.pinned {pins:List (Addr×Obj)}{σ:St}{H:Hp}{s:Shared}{fp:List Addr}(I:Inv X pins σ H s)(hf:∀b∈fp,FpOk X pins H b)(ho:∀b∈fp,∃o,s.heap.get? b=some o/\∀v,o.data ≠ .cell v):Inv X (pins++h0q fp s.heap) σ H s :=
 I.pins_of fun p hp=>(List.mem_append.mp hp).elim (fun z=>I.pin p (List.mem_append_right _ z)) fun z=>by
  obtain⟨hb,e⟩:=r0r z
  obtain⟨f0,f1,f2,_⟩:=hf p.1 hb
  obtain⟨o,e',d⟩:=ho p.1 hb
  rw[e]at e';cases e'
  exact⟨e,f0,f1,f2,d⟩
theorem Inv.unpinned {pins pl:List (Addr×Obj)}{σ:St}{H:Hp}{s:Shared}(I:Inv X (pins++pl) σ H s):Inv X pins σ H s:=I.pins_of fun p hp=>I.pin p (List.mem_append_right _ (List.mem_append_left _ hp))
theorem g0j {iter:Expr}{body:List Stmt}{wi:TI}{g:TG}{tb:TS}{pos:Pos}(hp:PassesOwn (model X.prog X.w) X.A X.env X.xe)(hc:X.calm=true)(hi:PI X tg iter wi)(hg:PG X tg g)(hb:PSs X body tb)
  (hs:∀x,foldedSetIterable iter X.env x=pure x:=by intro _;rfl):PS X (.For tg iter body [] pos) (tFor wi g tb):=by
 intro pins s σ H D I h
 refine wpAny_For (thn (hi pins s σ H _ I h) fun v s1 h1=>thn h1 fun itv s2 h2=>?_) hs
 obtain⟨it,fp,tn,J,H2,e,I2,T,st2,f2,W,⟨m0,w0⟩,turn⟩:=h2
 subst e
 have stat:∀ {H':Hp},(∀b∈fp,H' b=none)->∀b∈fp,FpOk X pins H' b:=fun hn b hb=>⟨hn b hb,(f2 b hb).2⟩
 refine codeAny_forLoop_any (fun n s'=>∃i σ' H',Inv X pins σ' H' s'/\tn i s'.heap/\(∀b∈fp,H' b=none)/\W i n σ' H') ?_ m0 ⟨0,σ,H2,I2,st2,fun b hb=>(f2 b hb).1,w0⟩
 rintro n s3 ⟨i,σ3,H3,I3,st3,fr3,w3⟩
 rcases turn i n σ3 H3 w3 with⟨stop,qn⟩ | ⟨go,N,hN,step⟩
 ·refine wpAny_passesOwn hp (thn (T.done X rfl rfl rfl hc i pins s3 σ3 H3 X.xe I3 (stat fr3) st3 stop) fun r s4 ⟨hr,I4⟩=>?_)
  subst hr
  exact wpAny_execs_nil ⟨σ3,H3,I4,qn⟩
 ·refine wpAny_passesOwn hp (thn (T.item X rfl rfl rfl hc i pins s3 σ3 H3 X.xe I3 (stat fr3) st3 go) fun r s4 ⟨u,hr,h4⟩=>?_)
  subst hr
  refine wpAny_passesOwn hp (thn h4 fun _ s5 ⟨x,H5,I5,r5,y5,st5,fr5⟩=>?_)
  have I5':=I5.pinned (stat fr5) (T.obj _ _ st5)
  refine wpAny_passesOwn hp (thn (hg _ s5 σ3 H5 x u _ I5' r5 (step x H5 y5)) fun _ s6 ⟨σ6,H6,I6,q6⟩=>?_)
  refine wpAny_passesOwn hp (thn (hb _ s6 σ6 H6 _ I6 q6) fun f s7 q7=>?_)
  have again:∀ {σ7:St} {H7:Hp},Inv X (pins++h0q fp s5.heap) σ7 H7 s7->N σ7 H7->∃m,m<n/\∃i σ' H',Inv X pins σ' H' s7/\tn i s7.heap/\(∀b∈fp,H' b=none)/\W i m σ' H':=fun{σ7 H7} I7 n7=>by
   obtain⟨m',hm,w7⟩:=hN σ7 H7 n7
   refine⟨m',hm,i+1,σ7,H7,I7.unpinned,T.keep _ _ _ st5 fun b hb o e=>(I7.pin (b,o) (List.mem_append_right _ (List.mem_append_right _ (c0s hb e)))).1,fun b hb=>?_,w7⟩
   obtain⟨o,e,d⟩:=T.obj _ _ st5 b hb
   exact(I7.pin (b,o) (List.mem_append_right _ (List.mem_append_right _ (c0s hb e)))).2.1
  cases f with
  | next=>obtain⟨σ7,H7,I7,n7⟩:=q7;exact again I7 n7
  | cont=>obtain⟨σ7,H7,I7,n7⟩:=q7;exact again I7 n7
  | brk=>obtain⟨σ7,H7,I7,q7⟩:=q7;exact⟨σ7,H7,I7.unpinned,q7⟩
  | ret v=>obtain⟨x7,σ7,H7,I7,r7,q7⟩:=q7;exact⟨x7,σ7,H7,I7.unpinned,r7,q7⟩
end
abbrev R2:=V->V->Hp->VK->Prop
def OpR (X:Cx)(f:Value->Value->Sem Value)(r:R2):Prop :=
 ∀(pins:List (Addr×Obj)) (s:Shared) (σ:St) (H:Hp) (x y:V) (v u:Value) (Q:VK),Inv X pins σ H s->RelV x v->RelV y u->r x y H Q ->
  wpAny (model X.prog X.w) X.A (f v u) (EP X pins σ Q) X.xe s
def h0n (X:Cx)(f:Value)(r:List V->Hp->VK->Prop):Prop :=
 ∀(pins:List (Addr×Obj)) (s:Shared) (σ:St) (H:Hp) (xs:List V) (us:List Value) (Q:VK),Inv X pins σ H s->Vals xs us->r xs H Q ->
  wpAny (model X.prog X.w) X.A (call f us) (EP X pins σ Q) X.xe s
def TruR (X:Cx)(r:V->Hp->(Bool->Hp->Prop)->Prop):Prop :=
 ∀(pins:List (Addr×Obj)) (s:Shared) (σ:St) (H:Hp) (x:V) (v:Value) (Q:Bool->Hp->Prop),Inv X pins σ H s->RelV x v->r x H Q ->
  wpAny (model X.prog X.w) X.A (truthy v) (TP X pins σ Q) X.xe s
def tOp (r:R2)(ta tb:TE):TE:=fun σ H Q=>ta σ H fun x H1=>tb σ H1 fun y H2=>r x y H2 Q
def rI (C:Int->Int->Prop)(g:Int->Int->V):R2:=fun x y H Q=>∃i j,x = .int i/\y = .int j/\C i j/\Q (g i j) H
def rI0 (g:Int->Int->V):R2:=fun x y H Q=>∃i j,x = .int i/\y = .int j/\Q (g i j) H
section
variable {X:Cx}{a b c:Expr}{ta tb tc:TE}{pos:Pos}
theorem binT (ha:PE X a ta)(hb:PE X b tb){pins:List (Addr×Obj)}{s:Shared}{σ:St}{H:Hp}{R:V->V->Hp->Prop}(I:Inv X pins σ H s)
  (h:ta σ H fun x H1=>tb σ H1 fun y H2=>R x y H2) {Q:Value->Shared->Prop} {f:Value->Value->Sem Value}
  (hf:∀v u s2 x y H2,Inv X pins σ H2 s2->RelV x v->RelV y u->R x y H2->wpAny (model X.prog X.w) X.A (f v u) Q X.xe s2) :
  wpAny (model X.prog X.w) X.A (eval a X.env) (fun v s₁=>wpAny (model X.prog X.w) X.A (eval b X.env) (fun u s₂=>wpAny (model X.prog X.w) X.A (f v u) Q X.xe s₂) X.xe s₁) X.xe s:=by
 refine thn (ha pins s σ H _ I h) fun v s1 ⟨x,H1,I1,r1,q1⟩=>?_
 refine thn (hb pins s1 σ H1 _ I1 q1) fun u s2 ⟨y,H2,I2,r2,q2⟩=>?_
 exact hf v u s2 x y H2 I2 r1 r2 q2
theorem b0m {op:Operator}{r:R2}(ho:OpR X (binaryOp op) r)(ha:PE X a ta)(hb:PE X b tb):PE X (.BinOp a op b pos) (tOp r ta tb):=by
 intro pins s σ H Q I h
 exact wpAny_BinOp (binT ha hb I h fun v u s2 x y H2 I2 rx ry q=>ho pins s2 σ H2 x y v u Q I2 rx ry q)
theorem opI {f:Value->Value->Sem Value}{C:Int->Int->Prop}{g:Int->Int->Int}
  (rule:∀(i j:Int) (t u:Tok) (s:Shared) (Q:Value->Shared->Prop) (E:Value->Shared->Prop),C i j->Q (.int (g i j) s.toks) {s with toks:=s.toks+1}->wpAny (model X.prog X.w) X.A (f (.int i t) (.int j u)) Q E s) :
  OpR X f (rI C fun i j=>.int (g i j)):=by
 intro pins s σ H x y v u Q I rx ry h
 obtain⟨i,j,rfl,rfl,hc,q⟩:=h
 obtain⟨t,rfl⟩:=rx
 obtain⟨t',rfl⟩:=ry
 exact rule i j t t' s _ _ hc ⟨.int (g i j),H,I.tok _,⟨_,rfl⟩,q⟩
theorem opI0 {f:Value->Value->Sem Value}{g:Int->Int->Int}
  (rule:∀(i j:Int) (t u:Tok) (s:Shared) (Q:Value->Shared->Prop) (E:Value->Shared->Prop),Q (.int (g i j) s.toks) {s with toks:=s.toks+1}->wpAny (model X.prog X.w) X.A (f (.int i t) (.int j u)) Q E s) :
  OpR X f (rI0 fun i j=>.int (g i j)):=by
 intro pins s σ H x y v u Q I rx ry h
 obtain⟨i,j,rfl,rfl,q⟩:=h
 obtain⟨t,rfl⟩:=rx
 obtain⟨t',rfl⟩:=ry
 exact rule i j t t' s _ _ ⟨.int (g i j),H,I.tok _,⟨_,rfl⟩,q⟩
theorem opB0 {f:Value->Value->Sem Value}{g:Int->Int->Bool}
  (rule:∀(i j:Int) (t u:Tok) (s:Shared) (Q:Value->Shared->Prop) (E:Value->Shared->Prop),Q (.bool (g i j)) s->wpAny (model X.prog X.w) X.A (f (.int i t) (.int j u)) Q E s) :
  OpR X f (rI0 fun i j=>.bl (g i j)):=by
 intro pins s σ H x y v u Q I rx ry h
 obtain⟨i,j,rfl,rfl,q⟩:=h
 obtain⟨t,rfl⟩:=rx
 obtain⟨t',rfl⟩:=ry
 exact rule i j t t' s _ _ ⟨.bl (g i j),H,I,rfl,q⟩
def CPow (i j:Int):Prop:=0<=j/\j<=1000000/\i.natAbs<2^64
def CMul (i j:Int):Prop:=(-(2^64)<i/\i<2^64)∨(-(2^64)<j/\j<2^64)
theorem CMul.ok {i j:Int}(h:CMul i j):IntMulOk i j:=by
 rcases h with⟨h1,h2⟩ | ⟨h1,h2⟩
 ·exact .of_left (intBits_le_64 h1 h2)
 ·exact .of_right (intBits_le_64 h1 h2)
theorem x0k (k:Nat):(0:Int)<=2^k:=by
 rw[two_pow_cast]
 exact Int.natCast_nonneg _
theorem f0x:OpR X (binaryOp .Add) (rI0 fun i j=>.int (i+j)):=opI0 fun _ _ _ _ _ _ _ q=>add_int q
theorem h0v:OpR X (binaryOp .Sub) (rI0 fun i j=>.int (i - j)):=opI0 fun _ _ _ _ _ _ _ q=>sub_int q
theorem r0h:OpR X (binaryOp .Mult) (rI CMul fun i j=>.int (i*j)):=opI fun _ _ _ _ _ _ _ hc q=>mul_int q hc.ok
theorem j0p:OpR X (binaryOp .Mod) (rI (fun _ j=>0<j) fun i j=>.int (i % j)):=opI fun i j _ _ _ _ _ hc q=>by
 have h1:(0:Int)<j:=hc
 exact mod_int' (by omega) (by rw[Int.fmod_eq_emod_of_nonneg i (by omega)];exact q)
theorem a1y:OpR X (binaryOp .Pow) (rI CPow fun i j=>.int (i^j.toNat)):=opI fun _ _ _ _ _ _ _ hc q=>pow_int_small hc.1 hc.2.1 hc.2.2 q
theorem a1x:OpR X (binaryOp .LShift) (rI CPow fun i j=>.int (i*2^j.toNat)):=opI fun _ _ _ _ _ _ _ hc q=>lshift_int_small hc.1 hc.2.1 hc.2.2 q
theorem l1w:OpR X (binaryOp .RShift) (rI (fun _ j=>0<=j) fun i j=>.int (i / 2^j.toNat)):=opI fun i j _ _ _ _ _ hc q =>
 rshift_int hc (by rw[Int.fdiv_eq_ediv_of_nonneg i (x0k _)];exact q)
theorem r0j:OpR X (binaryOp .BitAnd) (rI0 fun i j=>.int (Builtin.bitAnd i j)):=opI0 fun _ _ _ _ _ _ _ q=>and_int q
theorem a1w:OpR X (binaryOp .BitXor) (rI0 fun i j=>.int (Builtin.bitXor i j)):=opI0 fun _ _ _ _ _ _ _ q=>xor_int q
theorem g1y:OpR X (inplaceOp .BitOr) (rI0 fun i j=>.int (Builtin.bitOr i j)):=opI0 fun _ _ _ _ _ _ _ q=>ior_int q
end
section
variable {X:Cx}{a b c:Expr}{ta tb tc:TE}{pos:Pos}
theorem h1c {pins:List (Addr×Obj)}{σ:St}{H:Hp}{s:Shared}{Q:VK}{k k':Bool}(I:Inv X pins σ H s)(q:Q (.bl k) H)(e:k=k'):EP X pins σ Q (.bool k') s:=by
 subst e
 exact⟨.bl k,H,I,rfl,q⟩
theorem o1a:OpR X (compareOp .Lt) (rI0 fun i j=>.bl (decide (i<j))):=opB0 fun _ _ _ _ _ _ _ q=>lt_int q
theorem e1u:OpR X (compareOp .LtE) (rI0 fun i j=>.bl (decide (i<=j))):=opB0 fun _ _ _ _ _ _ _ q=>le_int q
theorem r0i:OpR X (compareOp .Gt) (rI0 fun i j=>.bl (decide (j<i))):=opB0 fun _ _ _ _ _ _ _ q=>gt_int q
theorem e1v:OpR X (compareOp .GtE) (rI0 fun i j=>.bl (decide (j<=i))):=opB0 fun _ _ _ _ _ _ _ q=>ge_int q
theorem c0k (b:Expr){op:CmpOp}(h:op ≠ .In:=by decide)(h2:op ≠ .NotIn:=by decide):behindInMarks op b=false:=by
 have e1:(op==CmpOp.In)=false:=by cases op <;> first | rfl | exact absurd rfl h
 have e2:(op==CmpOp.NotIn)=false:=by cases op <;> first | rfl | exact absurd rfl h2
 cases b <;> simp[behindInMarks,e1,e2]
theorem h0s {op:CmpOp}{r:R2}(ho:OpR X (compareOp op) r)(ha:PE X a ta)(hb:PE X b tb)(hm:behindInMarks op b=false):PE X (.Compare a [op] [b] pos) (tOp r ta tb):=by
 intro pins s σ H Q I h
 exact wpAny_Compare1 (binT ha hb I h fun v u s2 x y H2 I2 rx ry q=>ho pins s2 σ H2 x y v u Q I2 rx ry q) hm
def k1w (t:TE):TT:=fun σ H Q=>t σ H fun x H'=>∃k,x = .bl k/\Q k H'
theorem b0w {op:CmpOp}{r:R2}(ho:OpR X (compareOp op) r)(ha:PE X a ta)(hb:PE X b tb)(hm:behindInMarks op b=false):PT X (.Compare a [op] [b] pos) (k1w (tOp r ta tb)):=by
 intro pins s σ H Q I h
 refine wpAny_isTrue_Compare1 (thn (ha pins s σ H _ I h) fun v s1 ⟨x,H1,I1,r1,q1⟩=>thn (hb pins s1 σ H1 _ I1 q1) fun u s2 ⟨y,H2,I2,r2,q2⟩ =>
  thn (ho pins s2 σ H2 x y v u _ I2 r1 r2 q2) fun c s3 ⟨z,H3,I3,r3,k,e,q3⟩=>?_) hm
 subst e
 cases r3
 exact wpAny_truthy_bool ⟨H3,I3,q3⟩
def g1l (r r':R2)(ta tb tc:TE):TE:=fun σ H Q=>ta σ H fun x H1=>tb σ H1 fun y H2=>r x y H2 fun z H3=>∃k,z = .bl k /\
 (if k=true then tc σ H3 fun w' H4=>r' y w' H4 Q else Q (.bl false) H3)
theorem w0g {op op':CmpOp}{r r':R2}(ho:OpR X (compareOp op) r)(ho':OpR X (compareOp op') r')(ha:PE X a ta)(hb:PE X b tb)(hc:PE X c tc)
  (hm:lastMarks [op,op'] [b,c]=false:=by with_unfolding_all rfl):PE X (.Compare a [op,op'] [b,c] pos) (g1l r r' ta tb tc):=by
 intro pins s σ H Q I h
 refine Compare_chain (thn (ha pins s σ H _ I h) fun v s1 ⟨x,H1,I1,r1,q1⟩=>chain_link (thn (hb pins s1 σ H1 _ I1 q1) fun u s2 ⟨y,H2,I2,r2,q2⟩ =>
  thn (ho pins s2 σ H2 x y v u _ I2 r1 r2 q2) fun d s3 ⟨z,H3,I3,r3,k,e,q3⟩=>?_)) hm
 subst e
 cases r3
 refine wpAny_truthy_bool ?_
 cases k with
 | false=>exact ite_ff ⟨.bl false,H3,I3,rfl,q3⟩
 | true=>exact ite_tt (chain_last (thn (hc pins s3 σ H3 _ I3 q3) fun w' s4 ⟨z',H4,I4,r4,q4⟩=>ho' pins s4 σ H4 y z' u w' Q I4 r2 r4 q4))
def TruV (K:PySem.W.Frag)(x:V)(H:Hp)(k:Bool):Prop :=
 match x with
 | .non=>k=false
 | .bl b=>k=b
 | .int i=>k=(i != 0)
 | .str y=>y.length<=sizeLine/\k=((y.length:Int) != 0)
 | .byt y=>y.size<=sizeLine/\k=((y.size:Int) != 0)
 | .ref p=>(∃xs,SqL K H p xs/\k = !xs.isEmpty)∨(∃xs,SqT K H p xs/\k = !xs.isEmpty) ∨ ∃kvs,H p=some (.dK kvs)/\k = !kvs.isEmpty
 | _=>False
theorem y0h {κ:Type}{kvs:List (κ×V)}{vs:List (κ×Value)}(r:KV kvs vs):(!vs.isEmpty) = !kvs.isEmpty:=by
 cases r <;> rfl
theorem o0m {xs:List V}{its:List Value}(r:Vals xs its):(!its.toArray.isEmpty) = !xs.isEmpty:=by
 cases r <;> simp
theorem r0w:(sizeLine:Nat)<2^63:=by rw[sizeLine_eq];decide
theorem k1q:TruR X (fun x H Q=>∃k,TruV X.K x H k/\Q k H):=by
 intro pins s σ H x v Q I rx h
 obtain⟨k,e,q⟩:=h
 have hl:=r0w
 have hs:sizeLine=16777216:=sizeLine_eq
 cases x with
 | non =>
  cases rx
  have e':k=false:=e
  subst e'
  exact truthy_none ⟨H,I,q⟩
 | bl b =>
  cases rx
  have e':k=b:=e
  subst e'
  exact wpAny_truthy_bool ⟨H,I,q⟩
 | int i =>
  obtain⟨t,rfl⟩:=rx
  have e':k=(i != 0):=e
  subst e'
  exact PySem.P.truthy_int ⟨H,I,q⟩
 | str y =>
  obtain⟨t,rfl⟩:=rx
  obtain⟨hy,e'⟩:y.length<=sizeLine/\k=((y.length:Int) != 0):=e
  subst e'
  exact PySem.P.truthy_str (by omega) ⟨H,I.tok _,q⟩
 | byt y =>
  obtain⟨t,rfl⟩:=rx
  obtain⟨hy,e'⟩:y.size<=sizeLine/\k=((y.size:Int) != 0):=e
  subst e'
  exact PySem.W.truthy_bytes (by omega) ⟨H,I.tok _,q⟩
 | ref p =>
  cases rx
  have e':(∃xs,SqL X.K H p xs/\k = !xs.isEmpty)∨(∃xs,SqT X.K H p xs/\k = !xs.isEmpty) ∨ ∃kvs,H p=some (.dK kvs)/\k = !kvs.isEmpty:=e
  rcases e' with⟨xs,hx,e'⟩ | ⟨xs,hx,e'⟩ | ⟨kvs,hx,e'⟩
  ·subst e'
   obtain⟨its,r,pl,hz⟩:=I.list hx
   have hlen:=r.length
   exact wpAny_truthy_list pl.isList (by simp only[List.size_toArray];omega) ⟨H,I.tok _,by rw[o0m r];exact q⟩
  ·subst e'
   obtain⟨its,r,pl,hz⟩:=I.tuple hx
   have hlen:=r.length
   exact truthy_tuple pl (by simp only[List.size_toArray];omega) ⟨H,I.tok _,by rw[o0m r];exact q⟩
  ·subst e'
   obtain⟨hz,hS,vs,r,m⟩:kvs.length<=sizeLine/\(p==sysModules)=false/\∃vs,KV kvs vs/\s.heap.DictOf (c0j X.prog X.w) p vs:=I.hok p _ hx
   have hlen:kvs.length=vs.length:=Paired.length r
   exact wpAny_truthy_dict hS m (by omega) ⟨H,I.tok _,by rw[y0h r];exact q⟩
 | _=>exact(show False from e).elim
theorem e1k (ha:PE X a ta)(he:∀whole,isTrue a X.env whole=(do let v <- whole;standAt a.pos;holding [v] (truthy v))) :
  PT X a (fun σ H Q=>ta σ H fun x H'=>∃k,TruV X.K x H' k/\Q k H'):=by
 intro pins s σ H Q I h
 exact isTrue_plain (thn (ha pins s σ H _ I h) fun v s1 ⟨x,H1,I1,r1,q1⟩=>k1q pins s1 σ H1 x v Q I1 r1 q1) (he _)
theorem i0q {x:V}{us:List Value}(r:Vals [x] us):∃u,us=[u]/\RelV x u:=by
 cases r with
 | cons r1 r2=>cases r2;exact⟨_,rfl,r1⟩
theorem k1o {x y:V}{us:List Value}(r:Vals [x,y] us):∃u w',us=[u,w']/\RelV x u/\RelV y w':=by
 cases r with
 | cons r1 r2 =>
  cases r2 with
  | cons r3 r4=>cases r4;exact⟨_,_,rfl,r1,r3⟩
theorem k0g (hc:X.calm=true):h0n X (.builtin "max") (fun xs H Q=>∃i j,xs=[.int i,.int j]/\Q (.int (if j > i then j else i)) H):=by
 intro pins s σ H xs us Q I r h
 obtain⟨i,j,rfl,q⟩:=h
 obtain⟨u,w',rfl,⟨t,rfl⟩,⟨t',rfl⟩⟩:=k1o r
 refine max_two_ints (I.ok.hd hc) fun h' tk k=>⟨_,H,I.kept k,?_,q⟩
 by_cases hj:j > i
 ·rw[if_pos hj,if_pos hj];exact⟨_,rfl⟩
 ·rw[if_neg hj,if_neg hj];exact⟨_,rfl⟩
theorem s0t (hc:X.calm=true):h0n X (.builtin "min") (fun xs H Q=>∃i j,xs=[.int i,.int j]/\Q (.int (if j<i then j else i)) H):=by
 intro pins s σ H xs us Q I r h
 obtain⟨i,j,rfl,q⟩:=h
 obtain⟨u,w',rfl,⟨t,rfl⟩,⟨t',rfl⟩⟩:=k1o r
 refine min_two_ints (I.ok.hd hc) fun h' tk k=>⟨_,H,I.kept k,?_,q⟩
 by_cases hj:j<i
 ·rw[if_pos hj,if_pos hj];exact⟨_,rfl⟩
 ·rw[if_neg hj,if_neg hj];exact⟨_,rfl⟩
end
structure ObjM (h:Heap)(x dx C:Addr)(mA:Str->Option Value):Prop where
 obj:h.get? x=some (PySem.W.instObj C dx)
 ns:h.Ns1 dx mA
 ne:dx≠x
theorem b1n {h:Heap}{dx:Addr}{mA:Str->Option Value}(n:h.Ns1 dx mA):∃od,h.get? dx=some od/\∀name,PySem.W.lookIn name od=some (mA name):=by
 obtain⟨o,es,ep,ho,hd,hk,_,hm⟩:=n
 refine⟨o,ho,fun name=>?_⟩
 have e:=hm name
 unfold nsFind findBy at e
 rw[<- Array.find?_toList]at e
 unfold PySem.W.lookIn
 rw[hd]
 dsimp only
 split
 ·rename_i y q
  rw[q]at e
  exact congrArg some e
 ·rename_i q
  rw[q]at e
  have a:es.toList.any (·.refKey)=false:=by
   rw[List.any_eq_false]
   intro y hy
   obtain⟨z,t,hkey⟩:=hk y (Array.mem_toList_iff.mp hy)
   simp[DictEntry.refKey,hkey]
  have a':¬es.toList.any (·.refKey)=true:=by rw[a];exact Bool.false_ne_true
  rw[if_neg a']
  exact congrArg some e
theorem ObjM.look {h:Heap}{x dx C:Addr}{mA:Str->Option Value}(I:ObjM h x dx C mA):∃od,PySem.W.InstAt h x (PySem.W.instObj C dx) C (some od)/\∀name,PySem.W.lookIn name od=some (mA name) :=
 let ⟨od,ho,hl⟩:=b1n I.ns
 ⟨od,⟨I.obj,rfl,rfl,ho⟩,hl⟩
theorem RelO.some_of {v:V}{o:Option Value}(r:RelO (some v) o):∃u,o=some u/\RelV v u:=by
 cases o with
 | none=>exact(show False from r).elim
 | some u=>exact⟨u,rfl,r⟩
section
variable {P:Program}{w:World}{H H':Hp}{h h':Heap}{a C dx:Addr}{fs fs':List (Str×V)}
theorem j1k (hok:HOk P w H h)(e:H a=some (.ins C dx fs)):∃mA,ObjM h a dx C mA/\(∀f,RelO (fs.lookup f) (mA f))/\PySem.Within mA (fs.map (·.1))/\fs.length<=1000/\H dx=some (.own a):=by
 obtain⟨d,z,ne,ob,mA,n,r,q⟩:=(show d0y P w H h a (.ins C dx fs)from hok a _ e)
 exact⟨mA,⟨ob,n,ne⟩,r,q,z,d⟩
end
structure Cls (K:PySem.W.Frag)(C:Addr):Prop where
 pg:PySem.W.plainGet K C Str.empty=true
 hd:PySem.W.hasDictIn K C=true
 po:PySem.W.plainOver K C=true
 sa:PySem.W.findIn K (.ref C) "__setattr__" = some (some (.builtin "object.__setattr__"))
theorem Cls.get {K:PySem.W.Frag}{C:Addr}(c:Cls K C)(f:Str):PySem.W.plainGet K C f=true:=c.pg
section
variable {X:Cx}{pins:List (Addr×Obj)}{σ:St}{H:Hp}{s:Shared}{A:Around}{E:Value->Shared->Prop}{Q:Value->Shared->Prop}{c:Value}{b:Bool}
inductive TyOf (K:PySem.W.Frag) (H:Hp):V->Value->Prop where
 | non:TyOf K H .non (.type "NoneType")
 | bl (x:Bool):TyOf K H (.bl x) (.type "bool")
 | int (i:Int):TyOf K H (.int i) (.type "int")
 | str (x:Str):TyOf K H (.str x) (.type "str")
 | flt (x:UInt64):TyOf K H (.flt x) (.type "float")
 | lst {a:Addr} {xs:List V} (e:H a=some (.lst xs)):TyOf K H (.ref a) (.type "list")
 | frz {a:Addr} {o:Obj} {xs:List V} (e:H a=some (.frz o (.lst xs))):TyOf K H (.ref a) (.type "list")
 | tup {a:Addr} {xs:List V} (e:H a=some (.tup xs)):TyOf K H (.ref a) (.type "tuple")
 | dK {a:Addr} {kvs:List (Key×V)} (e:H a=some (.dK kvs)):TyOf K H (.ref a) (.type "dict")
 | dT {a:Addr} {kvs:List (List Key×V)} (e:H a=some (.dT kvs)):TyOf K H (.ref a) (.type "dict")
 | ins {a C dx:Addr} {fs:List (Str×V)} (e:H a=some (.ins C dx fs)) (cl:Cls K C) (ha:PySem.W.findIn K (.ref C) "__class__" = some (some (.builtin "object.__class__")))
   (hn:PySem.W.specialIn K (.builtin "object.__class__") "__get__" = some (some (.builtin "getset_descriptor.__get__"))) (htk:PySem.W.takesIn K (.builtin "object.__class__")=some true)
   (hm:PySem.W.mroIn K C (.type "object")=some true):TyOf K H (.ref a) (.ref C)
theorem j0x {x:V}{u t:Value}(I:Inv X pins σ H s)(rx:RelV x u)(ty:TyOf X.K H x t)(e:PySem.W.kitOne X.K t c=some b)(h:∀tk,Q (.bool b) {s with toks:=tk}) :
  wpAny (model X.prog X.w) A (call (.builtin "isinstance") [u,c]) Q E s:=by
 cases ty with
 | non=>cases (show u=Value.none from rx);exact PySem.W.kia_one PySem.W.kitx_none I.kIn True.intro e (fun z=>nomatch z) h
 | bl y=>cases (show u=Value.bool y from rx);exact PySem.W.kia_one PySem.W.kitx_bool I.kIn True.intro e (fun z=>nomatch z) h
 | int i=>obtain⟨t,q⟩:=(show ∃t,u=Value.int i t from rx);cases q;exact PySem.W.kia_one PySem.W.kitx_int I.kIn True.intro e (fun z=>nomatch z) h
 | str y=>obtain⟨t,q⟩:=(show ∃t,u=Value.str y t from rx);cases q;exact PySem.W.kia_one PySem.W.kitx_str I.kIn True.intro e (fun z=>nomatch z) h
 | flt y=>obtain⟨t,q⟩:=(show ∃t,u=Value.float y t from rx);cases q;exact PySem.W.kia_one PySem.W.kitx_float I.kIn True.intro e (fun z=>nomatch z) h
 | @lst a xs ea =>
  cases (show u=Value.ref a from rx)
  obtain⟨_,_,n,_,h1⟩:=(show d0y X.prog X.w H s.heap a (.lst xs)from I.hok a _ ea)
  exact PySem.W.kia_one PySem.W.kitx_list I.kIn ⟨_,h1,rfl⟩ e (fun z=>nomatch z) h
 | @frz a ob xs ea =>
  cases (show u=Value.ref a from rx)
  obtain⟨_,_,_,n,_,h1⟩:=(show d0y X.prog X.w H s.heap a (.frz ob (.lst xs))from I.hok a _ ea)
  exact PySem.W.kia_one PySem.W.kitx_list I.kIn ⟨_,h1,rfl⟩ e (fun z=>nomatch z) h
 | @tup a xs ea =>
  cases (show u=Value.ref a from rx)
  obtain⟨_,_,_,p⟩:=(show d0y X.prog X.w H s.heap a (.tup xs)from I.hok a _ ea)
  obtain⟨o,h1,h2,_⟩:=p
  exact PySem.W.kia_one PySem.W.kitx_tuple I.kIn ⟨o,h1,h2⟩ e (fun z=>nomatch z) h
 | @dK a kvs ea =>
  cases (show u=Value.ref a from rx)
  obtain⟨_,_,vs,_,p⟩:=(show d0y X.prog X.w H s.heap a (.dK kvs)from I.hok a _ ea)
  obtain⟨o,es,ep,h1,h2,_⟩:=p
  exact PySem.W.kia_one PySem.W.kitx_dict I.kIn ⟨o,h1,h2.1⟩ e (fun z=>nomatch z) h
 | @dT a kvs ea =>
  cases (show u=Value.ref a from rx)
  obtain⟨_,_,xs,_,o,es,ep,h1,h2,_⟩:=(show d0y X.prog X.w H s.heap a (.dT kvs)from I.hok a _ ea)
  exact PySem.W.kia_one PySem.W.kitx_dict I.kIn ⟨o,h1,h2.1⟩ e (fun z=>nomatch z) h
 | @ins a C dx fs ea cl ha hn htk hm =>
  cases (show u=Value.ref a from rx)
  obtain⟨mA,O,_⟩:=j1k I.hok ea
  obtain⟨od,J,_⟩:=O.look
  exact PySem.W.kia_one (PySem.W.kitx_own (cl.get _) cl.hd ha hn htk hm) I.kIn J e (fun z=>nomatch z) h
end
structure Room (k:Nat)(A:Around):Prop where
 hd:A.handled=none
 dp:A.depth+3*k+5<recursionLimit
 un:A.units+16*k+200<cLine
theorem Room.mono {j k:Nat}{A:Around}(r:Room k A)(h:j<=k):Room j A:=⟨r.hd,by have:=r.dp;omega,by have:=r.un;omega⟩
theorem Room.deeper {k:Nat}{A:Around}(r:Room (k+1) A)(env:Env):Room k (A.deeper env) :=
 ⟨r.hd,by have:=r.dp;show A.depth+1+3*k+5<_;omega,by have:=r.un;show A.units+3+16*k+200<_;omega⟩
theorem Room.depth {k:Nat}{A:Around}(r:Room k A):A.depth<recursionLimit:=by have:=r.dp;omega
theorem Room.units {k:Nat}{A:Around}(r:Room k A):A.units+64<cLine:=by have:=r.un;omega
def tNil:TA:=fun _ H Q=>Q [] H
def e1d (ta:TE)(tr:TA):TA:=fun σ H Q=>ta σ H fun x H1=>tr σ H1 fun xs H2=>Q (x::xs) H2
section
variable {X:Cx}{e:Expr}{es:List Expr}{te:TE}{t:TA}{pos:Pos}
theorem a0g:PA X [] tNil:=fun _ _ _ _ H Q I h=>Calls.spliced_nil ⟨[],H,I,.nil,h⟩
theorem a0c (ha:PE X e te)(hr:PA X es t)(hs:starEach (e::es) X.env=(false,eval e X.env)::starEach es X.env:=by rfl):PA X (e::es) (e1d te t):=by
 intro pos pins s σ H Q I h
 rw[hs]
 show wpAny _ _ (spliced ((false,eval e X.env)::backTo pos (starEach es X.env))) _ _ s
 refine Calls.spliced_cons (thn (ha pins s σ H _ I h) fun u s1 ⟨x,H1,I1,r1,q1⟩=>?_)
 exact thn (hr pos pins s1 σ H1 _ I1 q1) fun us s2 ⟨xs,H2,I2,r2,q2⟩=>⟨x::xs,H2,I2,.cons r1 r2,q2⟩
def tTup (t:TA):TE:=fun σ H Q=>t σ H fun xs H1=>xs.length<=sizeLine/\∀p,H1 p=none->Q (.ref p) (upd H1 p (.tup xs))
def tLst (t:TA):TE:=fun σ H Q=>t σ H fun xs H1=>xs.length<=sizeLine/\∀p,H1 p=none->Q (.ref p) (upd H1 p (.lst xs))
theorem g0k {x1}(h:PA X es t):PE X (.Tuple es x1 pos) (tTup t):=by
 intro pins s σ H Q I hq
 refine wpAny_Tuple_spliced (thn (h pos pins s σ H _ I hq) fun us s1 ⟨xs,H1,I1,r,z,q⟩=>⟨by rw[<- r.length];exact z,?_⟩)
 have hf:H1 s1.heap.objs.size=none:=I1.hok.fresh (Nat.le_refl _)
 refine⟨.ref s1.heap.objs.size,upd H1 s1.heap.objs.size (.tup xs),I1.laid (t':=s1.toks) (fun b u e=>Heap.get?_push_of_some _ e) (Nat.le_refl _) ?_,rfl,q _ hf⟩
 exact⟨z,us,r,⟨_,Heap.get?_push_size _ rfl,rfl,_,rfl⟩⟩
theorem h0r (h:PA X es t):PE X (.List es pos) (tLst t):=by
 intro pins s σ H Q I hq
 refine wpAny_List_spliced (thn (h pos pins s σ H _ I hq) fun us s1 ⟨xs,H1,I1,r,z,q⟩=>⟨by rw[<- r.length];exact z,?_⟩)
 have hf:H1 s1.heap.objs.size=none:=I1.hok.fresh (Nat.le_refl _)
 refine⟨.ref s1.heap.objs.size,upd H1 s1.heap.objs.size (.lst xs),I1.laid (t':=s1.toks) (fun b u e=>Heap.get?_push_of_some _ e) (Nat.le_refl _) ?_,rfl,q _ hf⟩
 exact⟨z,us,0,r,Heap.get?_push_size _ rfl⟩
end
abbrev Sp:=List V->Hp->VK->XK->Prop
abbrev CXT:=List Env->Hp->Shared->XK->Value->Shared->Prop
structure Env0 (P:Program)(w:World)(K:PySem.W.Frag)(mg:Str->Option Value)(base:Heap)(A:Around)(outer:List Env)(s:Shared)(H:Hp):Prop where
 frames:A.frames=some outer
 mod:Mod K mg base
 bs:∀b o,base.get? b=some o->s.heap.get? b=some o/\H b=none
 bsz:base.objs.size<=s.heap.objs.size
 funs:s.heap.FunFrames base outer
 frf:∀b∈frs outer,H b=none
 hok:HOk P w H s.heap
 bare:AllBare s.gens
def CE (outer:List Env)(P:Program)(w:World)(H:Hp)(s:Shared)(Q:VK)(u:Value)(s':Shared):Prop :=
 ∃v H',s'.os=s.os/\AllBare s'.gens/\Un (frs outer) [] H H' s.heap s'.heap/\HOk P w H' s'.heap/\RelV v u/\Q v H'
def CR (CX:CXT)(outer:List Env)(P:Program)(w:World)(H:Hp)(s:Shared)(Q:VK)(E:XK)(r:Result)(s':Shared):Prop :=
 match r with
 | .ok (.ret u)=>CE outer P w H s Q u s'
 | .ok _=>False
 | .error e=>CX outer H s E e s'
structure FnOk (P:Program)(w:World)(K:PySem.W.Frag)(mg:Str->Option Value)(base:Heap)(CX:CXT)(k:Nat)(f:Addr)(fd:FuncData)(ps:List Str)(sp:Sp):Prop where
 len:∀vs H Q E,sp vs H Q E->vs.length=ps.length
 run:∀(A:Around) (outer:List Env) (s:Shared) (H:Hp) (args:Args) (us:List Value) (vs:List V) (Q:VK) (E:XK),Room k A->Env0 P w K mg base A outer s H->BindsTo s fd args (ps.zip us)->Vals vs us->sp vs H Q E ->
  codeAny (model P w) A (.call (.ref f) args) (CR CX outer P w H s Q E) s
theorem FnOk.imp {P:Program}{w:World}{K:PySem.W.Frag}{mg:Str->Option Value}{base:Heap}{CX:CXT}{k:Nat}{f:Addr}{fd:FuncData}{ps:List Str}{sp sp':Sp}(F:FnOk P w K mg base CX k f fd ps sp)
  (h:∀vs H Q E,sp' vs H Q E->sp vs H Q E):FnOk P w K mg base CX k f fd ps sp' :=
 ⟨fun vs H Q E q=>F.len vs H Q E (h _ _ _ _ q),fun A outer s H args us vs Q E hr he hb hv hs=>F.run A outer s H args us vs Q E hr he hb hv (h _ _ _ _ hs)⟩
section
variable {X:Cx}{pins:List (Addr×Obj)}{σ:St}{H:Hp}{s s':Shared}
theorem Inv.env0 (I:Inv X pins σ H s):Env0 X.prog X.w X.K X.mg X.base X.A X.stack s H :=
 ⟨I.ok.frames,I.ok.mod,I.bs,Nat.le_trans I.ok.bsz I.sz,I.stack,I.stkFree,I.hok,I.bare⟩
theorem Inv.after {Q:VK}{u:Value}(I:Inv X pins σ H s)(h:CE X.stack X.prog X.w H s Q u s'):EP X pins σ Q u s':=by
 obtain⟨v,H',os,bare,un,hok,r,q⟩:=h
 obtain⟨hh,g,d,t,os'⟩:=s'
 obtain rfl:os'=s.os:=os
 exact⟨v,H',I.call (h':=hh) (g':=g) (d':=d) (t':=t) (ch:=[]) un hok bare (fun b z=>absurd z (by simp)),r,q⟩
end
def h1z (sp:Sp)(dvs:List V)(E:XK)(t:TA):TE:=fun σ H Q=>t σ H fun vs H1=>sp (vs++dvs) H1 Q E
def d1r (K:PySem.W.Frag)(fd:FuncData)(ps:List Str)(ds:List Value):Prop :=
 ∀(s:Shared) (us:List Value),K.In s.heap->(us++ds).length=ps.length->BindsTo s fd ⟨us,[]⟩ (ps.zip (us++ds))
theorem d1r.all {K:PySem.W.Frag}{fd:FuncData}{ps:List Str}(h:∀us:List Value,us.length=ps.length->bindArgs fd ⟨us,[]⟩=pure (ps.zip us)):d1r K fd ps []:=fun s us _ hl=>by
 rw[List.append_nil]at hl ⊢
 exact .of_eq (h us hl)
def d1p (CX:CXT)(X:Cx)(E:XK):Prop:=∀(pins:List (Addr×Obj)) (σ:St) (H:Hp) (s:Shared) (e:Value) (s':Shared),Inv X pins σ H s->CX X.stack H s E e s'->X.xe e s'
section
variable {X:Cx}{CX:CXT}{k:Nat}{f C:Addr}{fd:FuncData}{ps:List Str}{sp:Sp}{dvs:List V}{ds:List Value}{E:XK}{x m:Str}{p pos apos:Pos}{e o:Expr}{es:List Expr}{ta:TE}{t:TA}
theorem l1g {pins:List (Addr×Obj)}{σ:St}{H:Hp}{s:Shared}{Q:VK}{us:List Value}{vs:List V}(F:FnOk X.prog X.w X.K X.mg X.base CX k f fd ps sp)(hr:Room k X.A)(hb:d1r X.K fd ps ds)(hd:Vals dvs ds)(hx:d1p CX X E)
  (I:Inv X pins σ H s) (r:Vals vs us) (h:sp (vs++dvs) H Q E):wpAny (model X.prog X.w) X.A (call (.ref f) us) (EP X pins σ Q) X.xe s:=by
 have r2:Vals (vs++dvs) (us++ds):=r.append hd
 have hl:(us++ds).length=ps.length:=by rw[<- r2.length];exact F.len _ _ _ _ h
 refine wpAny_call (codeAny_mono (F.run X.A X.stack s H ⟨us,[]⟩ (us++ds) (vs++dvs) Q E hr I.env0 (hb s us I.kIn hl) r2 h) fun r s' hq=>?_)
 cases r with
 | error e=>exact hx pins σ H s e s' I hq
 | ok fl =>
  cases fl with
  | ret u=>exact I.after hq
  | next=>exact False.elim hq
  | brk=>exact False.elim hq
  | cont=>exact False.elim hq
theorem i1o (F:FnOk X.prog X.w X.K X.mg X.base CX k f fd ps sp)(hr:Room k X.A)(hg:Gl X x)(hm:X.mg x=some (.ref f))(hk:PySem.W.keepIn X.K (.ref f)=true)(hb:d1r X.K fd ps ds)(hd:Vals dvs ds)(hx:d1p CX X E)
  (ha:PA X (e::es) t) (hdb:(x==("__debug__" : Str))=false:=by decide) (he:starEach (e::es) X.env=(false,eval e X.env)::starEach es X.env:=by rfl) (hpl:(backTo pos (starEach es X.env)).any (·.1)=false:=by rfl) :
  PE X (.Call (.Name x p) (e::es) [] pos) (h1z sp dvs E t):=by
 intro pins s σ H Q I h
 refine wpAny_Call_Name_kw (j1g I hg hm ?_ hdb)
 refine PySem.W.callWith_K (h₀:=X.base) I.ok.mod.kin hk (thn (ha pos pins s σ H _ I h) fun us s1 ⟨vs,H1,I1,r,q⟩=>⟨I1.kIn,?_⟩) he hpl
 exact l1g F hr hb hd hx I1 r q
end
structure b0a (N P:List Str)(sc:Scope):Prop where
 kind:sc.kind = .function
 co:sc.isCoroutine=false
 gen:sc.isGenerator=false
 nd:N.Nodup
 pre:N.take P.length=P
 par:∀x∈P,sc.names.lookup x=some .local∨sc.names.lookup x=some .cell
 nofree:∀y∈sc.names,y.2 ≠ .free
theorem s0y {kindOf:Str->Option NameKind}{x:Str}:∀ {binds:List (Str×Value)} {m:Str->Option Value},(∀v,(x,v)∉binds)->bindL kindOf binds m x=m x
 | [],_,_=>rfl
 | (n,v)::r,m,h=>by
  unfold bindL
  rw[s0y fun w hw=>h w (List.mem_cons_of_mem _ hw)]
  split
  ·have:x≠n:=by rintro rfl;exact h v List.mem_cons_self
   simp[this]
  ·rfl
theorem t0a {kindOf:Str->Option NameKind}{x:Str}:∀ {binds:List (Str×Value)} {m:Str->Option Value},(∀v,(x,v)∉binds)->bindC kindOf binds m x=m x
 | [],_,_=>rfl
 | (n,v)::r,m,h=>by
  unfold bindC
  rw[t0a fun w hw=>h w (List.mem_cons_of_mem _ hw)]
  split
  ·rfl
  ·have:x≠n:=by rintro rfl;exact h v List.mem_cons_self
   simp[this]
theorem s0z {kindOf:Str->Option NameKind}{x:Str}{v:Value}:∀ {P:List Str} {vs:List Value} {i:Nat} {m:Str->Option Value},P.Nodup->P[i]? = some x->vs[i]? = some v->kindOf x=some .local ->
  bindL kindOf (P.zip vs) m x=some v
 | [],_,_,_,_,h,_,_=>by simp at h
 | _::_,[],_,_,_,_,h,_=>by simp at h
 | p::P,w::vs,0,m,nd,h1,h2,hk=>by
  simp at h1 h2;subst h1;subst h2
  show bindL kindOf ((p,w)::P.zip vs) m p=_
  unfold bindL
  rw[s0y fun v hv=>(List.nodup_cons.mp nd).1 (List.of_mem_zip hv).1,if_pos hk]
  simp
 | p::P,w::vs,i+1,m,nd,h1,h2,hk=>by
  show bindL kindOf ((p,w)::P.zip vs) m x=_
  unfold bindL
  exact s0z (i:=i) (List.nodup_cons.mp nd).2 (by simpa using h1) (by simpa using h2) hk
theorem t0b {kindOf:Str->Option NameKind}{x:Str}{v:Value}:∀ {P:List Str} {vs:List Value} {i:Nat} {m:Str->Option Value},P.Nodup->P[i]? = some x->vs[i]? = some v->kindOf x≠some .local ->
  bindC kindOf (P.zip vs) m x=some v
 | [],_,_,_,_,h,_,_=>by simp at h
 | _::_,[],_,_,_,_,h,_=>by simp at h
 | p::P,w::vs,0,m,nd,h1,h2,hk=>by
  simp at h1 h2;subst h1;subst h2
  show bindC kindOf ((p,w)::P.zip vs) m p=_
  unfold bindC
  rw[t0a fun v hv=>(List.nodup_cons.mp nd).1 (List.of_mem_zip hv).1,if_neg hk]
  simp
 | p::P,w::vs,i+1,m,nd,h1,h2,hk=>by
  show bindC kindOf ((p,w)::P.zip vs) m x=_
  unfold bindC
  exact t0b (i:=i) (List.nodup_cons.mp nd).2 (by simpa using h1) (by simpa using h2) hk
def start (N:List Str)(vs:List V):St:=vs.map some++List.replicate (N.length - vs.length) none
def cxOf (CX:CXT)(P:Program)(w:World)(K:PySem.W.Frag)(mg:Str->Option Value)(base:Heap)(N:List Str)(qual:Str)(scope:Scope)(f:Addr)(cd:Value)(A:Around)(outer:List Env)(s:Shared)(H:Hp)(E:XK):Cx where
 prog:=P
 w:=w
 K:=K
 mg:=mg
 base:=base
 A:=A.deeper (envOfC qual scope s.heap.objs.size f cd)
 N:=N
 s₀:=s
 H₀:=H
 env:=envOfC qual scope s.heap.objs.size f cd
 outer:=outer
 stack:=envOfC qual scope s.heap.objs.size f cd::outer
 ex:=[]
 calm:=true
 fn:=fun _=>true
 pn:=[]
 xe:=fun e s'=>wpAny (model P w) (A.deeper (envOfC qual scope s.heap.objs.size f cd)) (leaving (envOfC qual scope s.heap.objs.size f cd) e) (fun _ s''=>CX outer H s E e s'') (fun e' s''=>CX outer H s E e' s'') s'
theorem x0e {sc:Scope}{n:Nat}{x:Str}(h:sc.names.lookup x=some .cell):∃c,(cellsFrom n sc.names []).lookup x=some c:=by
 have q:=PySem.W.cellsFrom_some sc.names n [] (.inl h)
 exact Option.isSome_iff_exists.mp q
theorem b1t {CX:CXT}{P:Program}{w:World}{K:PySem.W.Frag}{mg:Str->Option Value}{base:Heap}{N ps:List Str}{qual:Str}{scope:Scope}{f:Addr}{cd:Value}{A:Around}{outer:List Env}{s s1:Shared}{H:Hp}{E:XK}{us:List Value}{vs:List V}
  (S:b0a N ps scope) (hd:A.handled=none) (e0:Env0 P w K mg base A outer s H) (hl:vs.length=ps.length) (r:Vals vs us)
  (x:InCallC s s.heap.objs.size (bindL (envOfC qual scope s.heap.objs.size f cd).kindOf (ps.zip us) fun _=>none) (cellsFrom (s.heap.objs.size+1) scope.names []) (bindC (envOfC qual scope s.heap.objs.size f cd).kindOf (ps.zip us) fun _=>none) s1) :
  Inv (cxOf CX P w K mg base N qual scope f cd A outer s H E) [] (start N vs) H s1:=by
 have hpl:ps.length<=N.length:=by have:=congrArg List.length S.pre;rw[List.length_take]at this;omega
 obtain⟨h1,tk,rfl,hk⟩:=x.done
 have noA:∀b:Addr,b∉(cxOf CX P w K mg base N qual scope f cd A outer s H E).ex:=fun b z=>absurd (show b∈([]:List Addr)from z) (by simp)
 refine⟨⟨e0.mod,S.kind,rfl,rfl,Nat.le_refl _,fun y z c h1 h2=>?_,fun y hy=>?_,fun y c _ h=>?_,fun _=>hd,Around.frames_deeper e0.frames,.inr ⟨rfl,rfl⟩,fun b z=>absurd z (noA b),e0.bs,e0.bsz,fun b _ _=>noA b,fun b z=>absurd z (noA b),e0.funs,e0.frf⟩,
  rfl,e0.bare,Un.kept hk,⟨_,x.toInCall.ns,fun i y v h1 h2 h3=>?_⟩,fun y c h=>⟨_,x.cell y c h⟩,e0.hok.fresh (Nat.le_refl _),fun y c h=>?_,fun p hp=>absurd (show p∈([]:List (Addr×Obj))from hp) (by simp),e0.hok.kept hk,?_⟩
 ·exact name_of_addr x.apart (PySem.mem_of_lookup h1) (PySem.mem_of_lookup h2)
 ·have hy:scope.names.lookup y=some .cell∨scope.names.lookup y=some .free:=hy
  rcases hy with hy | hy
  ·exact x0e hy
  ·exact absurd rfl (S.nofree _ (PySem.mem_of_lookup hy))
 ·exact Nat.le_of_lt (x.above y c (PySem.mem_of_lookup h))
 ·have hi:i<vs.length:=by
   unfold start at h2
   by_cases hi:i<vs.length
   ·exact hi
   ·rw[List.getElem?_append_right (by simpa using hi)]at h2
    rw[List.getElem?_replicate]at h2
    split at h2 <;> cases h2
  have ha:vs[i]? = some v:=by
   unfold start at h2
   rw[List.getElem?_append_left (by simpa using hi),List.getElem?_map]at h2
   cases e:vs[i]? with
   | none=>rw[e]at h2;cases h2
   | some a=>rw[e]at h2;cases h2;rfl
  obtain⟨u,hu,rv⟩:=r.get ha
  have hp:ps[i]? = some y:=by
   rw[<- S.pre,List.getElem?_take_of_lt (by omega)];exact h1
  have ndP:ps.Nodup:=by rw[<- S.pre];exact S.nd.sublist (List.take_sublist _ _)
  refine⟨u,rv,?_⟩
  rcases S.par y (List.mem_of_getElem? hp)with k | k
  ·exact .inl ⟨k,s0z ndP hp hu k⟩
  ·obtain⟨c,e⟩:=x0e (n:=s.heap.objs.size+1) k
   refine .inr ⟨.inl k,c,e,?_⟩
   have q:=x.cell y c e
   rw[t0b ndP hp hu (by show scope.names.lookup y≠_;rw[k];decide)]at q
   exact q
 ·exact e0.hok.fresh (Nat.le_of_lt (x.above y c (PySem.mem_of_lookup h)))
 ·unfold start
  show _=N.length
  rw[List.length_append,List.length_map,List.length_replicate]
  omega
theorem o1f {CX:CXT}{P:Program}{w:World}{K:PySem.W.Frag}{mg:Str->Option Value}{base:Heap}{k:Nat}{f:Addr}{name qual:Str}{params:Arguments}{body:List Stmt}{scope:Scope}{dV kV doc pm cdv ct oc:Value}{an od:Option Addr}
  {osl:Array (Option Value)} {N ps:List Str} {sp:Sp} (lk:K.lookup f=some ⟨oc,od,.func (PySem.W.fnOf name qual params body scope dV kV doc pm an cdv ct),osl⟩) (hcd:PySem.W.codeIn K cdv qual=true) (S:b0a N ps scope)
  (len:∀vs H Q E,sp vs H Q E->vs.length=ps.length)
  (hbody:∀(A:Around) (outer:List Env) (s:Shared) (H:Hp) (vs:List V) (Q:VK) (E:XK),Room k (A.deeper (envOfC qual scope s.heap.objs.size f cdv))->sp vs H Q E ->
   ∃t,PSs (cxOf CX P w K mg base N qual scope f cdv A outer s H E) body t/\t {nx:=fun _ H'=>Q .non H',rt:=Q} (start N vs) H) :
  FnOk P w K mg base CX (k+1) f (PySem.W.fnOf name qual params body scope dV kV doc pm an cdv ct) ps sp:=by
 refine⟨len,fun A outer s H args us vs Q E hr e0 hb r hsp=>?_⟩
 have hl:=len _ _ _ _ hsp
 have KX:K.In s.heap:=e0.mod.kin.keeps fun b o e=>(e0.bs b o e).1
 have lim:s.heap.NoLimit:=e0.mod.nolimit.keeps fun b o e=>(e0.bs b o e).1
 have hkind:∀y∈ps.zip us,scope.names.lookup y.1=some .local∨(scope.names.lookup y.1=some .cell/\((cellsFrom (s.heap.objs.size+1) scope.names []).lookup y.1).isSome=true):=fun⟨n,v⟩ hy=>by
  rcases S.par n (List.of_mem_zip hy).1 with q | q
  ·exact .inl q
  ·exact .inr ⟨q,PySem.W.cellsFrom_some _ _ _ (.inl q)⟩
 refine codeAny_call_function hr.depth (KX _ _ lk) rfl S.co S.gen rfl (PySem.W.codeRec_of KX hcd) (hb _ _ _ _ ?_)
 refine wpAny_newFunctionEnv_cells S.kind hkind fun env he s1 x=>?_
 subst he
 refine⟨lim.keeps x.toInCall.keep,codeAny_func ?_⟩
 obtain⟨t,ht,hq⟩:=hbody A outer s H vs Q E (hr.deeper _) hsp
 have I:Inv (cxOf CX P w K mg base N qual scope f cdv A outer s H E) [] (start N vs) H s1:=b1t S hr.hd e0 hl r x
 refine wpAny_mono (ht [] s1 (start N vs) H _ I hq) (fun fl s' hs=>?_) fun e s' hs=>hs
 have fin:∀ {σ':St} {H':Hp} {v:V} {u:Value},Inv (cxOf CX P w K mg base N qual scope f cdv A outer s H E) [] σ' H' s'->RelV v u->Q v H'->CE outer P w H s Q u s' :=
  fun{σ' H' v u} J rv q=>⟨v,H',J.os,J.bare,J.base,J.hok,rv,q⟩
 cases fl with
 | ret u =>
  obtain⟨v,σ',H',J,rv,q⟩:=hs
  exact fin J rv q
 | next =>
  obtain⟨σ',H',J,q⟩:=hs
  exact fin (v:=V.non) (u:=Value.none) J rfl q
 | brk =>
  obtain⟨_,_,_,q⟩:=hs
  exact False.elim q
 | cont =>
  obtain⟨_,_,_,q⟩:=hs
  exact False.elim q
section
variable {X:Cx}{x:Str}{p pos:Pos}{e:Expr}{es:List Expr}{t:TA}{id T:String}{r:List V->Hp->VK->Prop}
def tCB (r:List V->Hp->VK->Prop)(t:TA):TE:=fun σ H Q=>t σ H fun vs H1=>r vs H1 Q
theorem a0s (hc:h0n X (.builtin id) r)(hg:Gl X x)(hm:X.mg x=none)(hv:bootBuiltins x=some (.builtin id))(ha:PA X (e::es) t)(hn:x ≠ "__name__" := by decide)(hdb:(x==("__debug__" : Str))=false:=by decide)
  (he:starEach (e::es) X.env=(false,eval e X.env)::starEach es X.env:=by rfl) (hpl:(backTo pos (starEach es X.env)).any (·.1)=false:=by rfl):PE X (.Call (.Name x p) (e::es) [] pos) (tCB r t):=by
 intro pins s σ H Q I h
 refine wpAny_Call_Name_kw (g0m I hg hm hv ?_ hn hdb)
 exact PyProof.Rows.callWith_builtin1 (thn (ha pos pins s σ H _ I h) fun us s1 ⟨vs,H1,I1,r1,q1⟩=>hc pins s1 σ H1 vs us Q I1 r1 q1) he hpl
theorem e0f (hc:h0n X (.type T) r)(hg:Gl X x)(hm:X.mg x=none)(hv:bootBuiltins x=some (.type T))(ha:PA X (e::es) t)(hn:x ≠ "__name__" := by decide)(hdb:(x==("__debug__" : Str))=false:=by decide)
  (he:starEach (e::es) X.env=(false,eval e X.env)::starEach es X.env:=by rfl) (hpl:(backTo pos (starEach es X.env)).any (·.1)=false:=by rfl):PE X (.Call (.Name x p) (e::es) [] pos) (tCB r t):=by
 intro pins s σ H Q I h
 refine wpAny_Call_Name_kw (g0m I hg hm hv ?_ hn hdb)
 exact PyProof.Rows.callWith_type1 (thn (ha pos pins s σ H _ I h) fun us s1 ⟨vs,H1,I1,r1,q1⟩=>hc pins s1 σ H1 vs us Q I1 r1 q1) he hpl
end
end L2
namespace HT
open PySem PyProof.Rows
def lexLt:List Int->List Int->Bool
 | [],[]=>false
 | [],_::_=>true
 | _::_,[]=>false
 | x::xs,y::ys=>if x=y then lexLt xs ys else decide (x<y)
theorem lexLt_cons (x y:Int)(xs ys:List Int):lexLt (x::xs) (y::ys)=if x=y then lexLt xs ys else decide (x<y):=rfl
theorem lexLt_nil_nil:lexLt [] []=false:=rfl
theorem lexLt_nil_cons (y:Int)(ys:List Int):lexLt [] (y::ys)=true:=rfl
theorem lexLt_cons_nil (x:Int)(xs:List Int):lexLt (x::xs) []=false:=rfl
section
variable {prog:Program}{w:World}{A:Around}{E:Value->Shared->Prop}{s:Shared}
def sIx (n d:Nat):Option Int->Nat
 | none=>d
 | some v=>if v<0 then(v+(n:Int)).toNat else min v.toNat n
theorem sIx_nat (n d k:Nat):sIx n d (some (k:Int))=min k n:=by
 show(if(k:Int)<0 then((k:Int)+(n:Int)).toNat else min (k:Int).toNat n)=min k n
 rw[if_neg (by omega),Int.toNat_natCast]
theorem l1e (n d:Nat)(hd:d<=n)(o:Option Int):sIx n d o<=n:=by
 cases o with
 | none=>exact hd
 | some v =>
  show(if v<0 then(v+(n:Int)).toNat else min v.toNat n)<=n
  by_cases hv:v<0
  ·rw[if_pos hv];omega
  ·rw[if_neg hv];exact Nat.min_le_right _ _
theorem c1y (v:Int)(n d:Nat):(if v<0 then max (v+(n:Int)) 0 else min v (n:Int))=((sIx n d (some v):Nat):Int):=by
 show(if v<0 then max (v+(n:Int)) 0 else min v (n:Int))=(((if v<0 then(v+(n:Int)).toNat else min v.toNat n):Nat):Int)
 by_cases hv:v<0
 ·simp only[if_pos hv];omega
 ·simp only[if_neg hv];omega
theorem y0v (lo hi:Option Int)(n:Nat):Builtin.Slice.sliceAdjust lo hi 1 (n:Int)=(((sIx n 0 lo:Nat):Int),((sIx n n hi:Nat):Int)):=by
 have h1:¬((1:Int)<0):=by omega
 unfold Builtin.Slice.sliceAdjust
 simp only[h1,if_false]
 refine Prod.ext ?_ ?_
 ·cases lo with
  | none=>rfl
  | some v=>exact c1y v n 0
 ·cases hi with
  | none=>rfl
  | some v=>exact c1y v n n
theorem x0t (i j:Nat):Builtin.Slice.slicePlaces (i:Int) (j:Int) 1=j - i:=by
 unfold Builtin.Slice.slicePlaces
 have h1:(1:Int) > 0:=by omega
 simp only[h1,if_true,Int.ediv_one]
 split <;> omega
theorem o0g {v:Value}{o:Option Int}{Q:Option Int->Shared->Prop}(p:IsPart v o)(h:Q o s):wpAny (model prog w) A (Builtin.Slice.slicePartIndex v) Q E s:=by
 cases p with
 | none=>exact slicePart_none h
 | int i t=>exact slicePart_int h
theorem h0j {sl:Addr}{vl vu:Value}{lo hi:Option Int}{n:Nat}{Q:Int×Int×Nat->Shared->Prop}(hs:s.heap.IsSliceOf sl vl vu .none)(pl:IsPart vl lo)(pu:IsPart vu hi)
  (h:Q (((sIx n 0 lo:Nat):Int),1,sIx n n hi - sIx n 0 lo) s):wpAny (model prog w) A (Builtin.Slice.sliceApplied (.ref sl) (pure (n:Int))) Q E s:=by
 obtain⟨os,hos,hcs,hds⟩:=id hs
 unfold Builtin.Slice.sliceApplied Builtin.Slice.sliceFields
 refine wpAny_bind (wpAny_bind (wpAny_field hos hds (x:=vl) rfl (wpAny_bind (wpAny_field hos hds (x:=vu) rfl (wpAny_bind (wpAny_field hos hds (x:=.none) rfl (wpAny_pure ?_)))))))
 refine wpAny_bind (slicePart_none ?_)
 show wpAny _ _ (if((1:Int)==0)=true then _ else _) _ _ s
 rw[if_neg (by decide)]
 refine wpAny_bind (o0g pl (wpAny_bind (o0g pu (wpAny_bind (wpAny_pure ?_)))))
 show wpAny _ _ (match Builtin.Slice.sliceAdjust lo hi 1 (n:Int)with | (lo,hi)=>pure (lo,(1:Int),Builtin.Slice.slicePlaces lo hi 1)) _ _ s
 rw[y0v lo hi n]
 show wpAny _ _ (pure (((sIx n 0 lo:Nat):Int),(1:Int),Builtin.Slice.slicePlaces ((sIx n 0 lo:Nat):Int) ((sIx n n hi:Nat):Int) 1)) _ _ s
 rw[x0t]
 exact wpAny_pure h
theorem e1n (xs:Array Value)(i k:Nat):((List.range k).filterMap fun(m:Nat)=>xs[((i:Int)+(m:Int)*1).toNat]?).toArray=((xs.toList.drop i).take k).toArray:=by
 have e:(fun(m:Nat)=>xs[((i:Int)+(m:Int)*1).toNat]?)=fun m=>xs[i+m]?:=by
  funext m
  have:((i:Int)+(m:Int)*1).toNat=i+m:=by omega
  rw[this]
 rw[e]
 have:=pick_run xs i k
 rw[List.filterMap_map]at this
 have e2:((fun x=>xs[x]?) ∘ fun x=>i+x)=fun m=>xs[i+m]?:=rfl
 rw[e2]at this
 rw[this]
theorem getItem_tuple_cut {t sl:Addr}{items:Array Value}{vl vu:Value}{lo hi:Option Int}{Q:Value->Shared->Prop}(ht:IsTup s.heap t items)(hs:s.heap.IsSliceOf sl vl vu .none)(pl:IsPart vl lo)(pu:IsPart vu hi)
  (hw:¬(sIx items.size 0 lo=0/\sIx items.size items.size hi=items.size))
  (h:Q (.ref s.heap.objs.size) {s with heap:=s.heap.push {cls:=.type "tuple",data:=.seq ((items.toList.drop (sIx items.size 0 lo)).take (sIx items.size items.size hi - sIx items.size 0 lo)).toArray}})
  (hsz:items.size<=sizeLine):wpAny (model prog w) A (getItem (.ref t) (.ref sl)) Q E s:=by
 have htake:sizeOk (.seq ((items.toList.drop (sIx items.size 0 lo)).take (sIx items.size items.size hi - sIx items.size 0 lo)).toArray):=by
  show((items.toList.drop (sIx items.size 0 lo)).take (sIx items.size items.size hi - sIx items.size 0 lo)).toArray.size<=sizeLine
  rw[List.size_toArray,List.length_take,List.length_drop,Array.length_toList]
  omega
 have hj:sIx items.size items.size hi<=items.size:=l1e _ _ (Nat.le_refl _) hi
 obtain⟨os,hos,hcs,hds⟩:=id hs
 have hTs:s.TypeIs (.ref sl) "slice" := ⟨os,hos,hcs⟩
 unfold getItem
 try with_reducible refine wpAny_holding ?_
 first | refine wpAny_bind (wpAny_pure ?_) | skip
 refine wpAny_bind (wpAny_sequenceKey ht.typeIs (by decide) ?_)
 refine wpAny_bind (wpAny_callSpecial?_slot (name:=Str.ofString "__getitem__") ht.typeIs PyProof.Rows.slot_tuple_getitem
  (wpAny_call_entry PyProof.Rows.slot_tuple_getitem ht.typeIs entry_tuple_getitem ?_ (args_tuple_getitem _ _)))
 show wpAny _ _ (Builtin.Tuple.tupleItemsOf (.ref t)>>=_) _ _ s
 refine wpAny_bind (tupleItemsOf_ ht ?_)
 refine wpAny_bind (wpAny_typeOf hTs ?_)
 rw[if_pos (by decide)]
 refine wpAny_bind (h0j hs pl pu ?_)
 have hno:¬((((sIx items.size 0 lo:Nat):Int)==0&&(1:Int)==1&&(sIx items.size items.size hi - sIx items.size 0 lo)==items.size)=true):=by
  intro q
  rw[Bool.and_eq_true,Bool.and_eq_true]at q
  have q1:((sIx items.size 0 lo:Nat):Int)=0:=eq_of_beq q.1.1
  have q2:sIx items.size items.size hi - sIx items.size 0 lo=items.size:=eq_of_beq q.2
  exact hw ⟨by omega,by omega⟩
 show wpAny _ _ (if(((sIx items.size 0 lo:Nat):Int)==0&&(1:Int)==1&&(sIx items.size items.size hi - sIx items.size 0 lo)==items.size)=true then _ else _) _ _ s
 rw[if_neg hno,e1n]
 first
  | exact wpAny_bind (m:=Builtin.Tuple.tupleExact _) (wpAny_newObj_type (wpAny_pure ⟨_,rfl,wpAny_pure h⟩) htake)
  | exact wpAny_bind (m:=Builtin.Tuple.tupleExact _) (wpAny_newObj_type (wpAny_bind (wpAny_pure (wpAny_pure ⟨_,rfl,wpAny_pure h⟩))) htake)
  | exact wpAny_bind (wpAny_bind (m:=Builtin.Tuple.tupleExact _) (wpAny_newObj_type (wpAny_pure (wpAny_pure ⟨_,rfl,wpAny_pure h⟩)) htake))
  | exact wpAny_bind (wpAny_bind (m:=Builtin.Tuple.tupleExact _) (wpAny_newObj_type (wpAny_pure ⟨_,rfl,wpAny_pure h⟩) htake))
end
end HT
namespace L2
open PySem PySem.Spec PyProof.Rows
abbrev TO:=St->Hp->(Option Int->Hp->Prop)->Prop
def PO (X:Cx)(e:Option Expr)(t:TO):Prop :=
 ∀(pins:List (Addr×Obj)) (s:Shared) (σ:St) (H:Hp) (Q:Option Int->Hp->Prop),Inv X pins σ H s->t σ H Q ->
  wpAny (model X.prog X.w) X.A (evalPart e X.env) (fun u s'=>∃o H',Inv X pins σ H' s'/\IsPart u o/\Q o H') X.xe s
def tNoPart:TO:=fun _ H Q=>Q none H
def k1x (t:TE):TO:=fun σ H Q=>t σ H fun x H1=>∃i,x = .int i/\Q (some i) H1
theorem i0m {ns:List Int}:∀ {us:List Value},Vals (ns.map V.int) us->IntsAre us ns:=by
 induction ns with
 | nil=>intro us r;rw[List.map_nil]at r;cases r;exact .nil
 | cons n ns ih =>
  intro us r
  rw[List.map_cons]at r
  cases r with
  | cons r1 r2 =>
   obtain⟨t,e⟩:=r1
   subst e
   exact .cons n t (ih r2)
section
variable {X:Cx}{e:Expr}{te:TE}{lo hi:Option Expr}{tl th:TO}{pos p2:Pos}
theorem a1n:PO X none tNoPart:=by
 intro pins s σ H Q I h
 rw[evalPart_none]
 exact wpAny_pure ⟨none,H,I,.none,h⟩
theorem a1m (h:PE X e te):PO X (some e) (k1x te):=by
 intro pins s σ H Q I hw
 rw[evalPart_some]
 refine thn (h pins s σ H _ I hw) fun u s1 ⟨x,H1,I1,r1,q1⟩=>?_
 obtain⟨i,rfl,q⟩:=q1
 obtain⟨t,rfl⟩:=r1
 exact⟨some i,H1,I1,.int i t,q⟩
def SlR (X:Cx)(r:V->Option Int->Option Int->Hp->VK->Prop):Prop :=
 ∀(pins:List (Addr×Obj)) (s:Shared) (σ:St) (H:Hp) (x:V) (v vl vu:Value) (lo hi:Option Int) (sl:Addr) (Q:VK),Inv X pins σ H s->RelV x v->s.heap.IsSliceOf sl vl vu .none->IsPart vl lo->IsPart vu hi->r x lo hi H Q ->
  ∃T id,typeLookup (.type T) "__getitem__" = pure (some (.builtin id))/\s.TypeIs v T/\wpAny (model X.prog X.w) X.A (getItem v (.ref sl)) (EP X pins σ Q) X.xe s
def tSl (r:V->Option Int->Option Int->Hp->VK->Prop)(te:TE)(tl th:TO):TE:=fun σ H Q=>te σ H fun x H1=>tl σ H1 fun l H2=>th σ H2 fun u H3=>r x l u H3 Q
theorem w0f {r:V->Option Int->Option Int->Hp->VK->Prop}(hr:SlR X r)(he:PE X e te)(hl:PO X lo tl)(hu:PO X hi th):PE X (.Subscript e (.Slice lo hi none p2) pos) (tSl r te tl th):=by
 intro pins s σ H Q I h
 refine Subscript_ (thn (he pins s σ H _ I h) fun v s1 ⟨x,H1,I1,r1,q1⟩=>?_)
 refine wpAny_Slice (thn (hl pins s1 σ H1 _ I1 q1) fun vl s2 ⟨l,H2,I2,pl,q2⟩=>thn (hu pins s2 σ H2 _ I2 q2) fun vu s3 ⟨u,H3,I3,pu,q3⟩=>?_)
 rw[evalPart_none]
 refine wpAny_pure ?_
 have I4:Inv X pins σ H3 {s3 with heap:=s3.heap.push {cls:=.type "slice",data:=.fields #[vl,vu,.none]}}:=I3.kept (t':=s3.toks) fun b ob q=>Heap.get?_push_of_some _ q
 obtain⟨T,id,hT,ht,hg⟩:=hr pins {s3 with heap:=s3.heap.push {cls:=.type "slice",data:=.fields #[vl,vu,.none]}} σ H3 x v vl vu l u s3.heap.objs.size Q I4 r1 (Heap.IsSliceOf.new ..) pl pu q3
 show wpAny (model X.prog X.w) X.A (subscriptTail e (.Slice lo hi none p2) v (.ref s3.heap.objs.size)) (EP X pins σ Q) X.xe {s3 with heap:=s3.heap.push {cls:=.type "slice",data:=.fields #[vl,vu,.none]}}
 exact tail_any (ops:=[.ref s3.heap.objs.size,v]) ht hT hg (by with_unfolding_all rfl)
def cutV (xs:List V)(lo hi:Option Int):List V:=(xs.drop (HT.sIx xs.length 0 lo)).take (HT.sIx xs.length xs.length hi - HT.sIx xs.length 0 lo)
theorem m0z (xs:List V)(lo hi:Option Int):(cutV xs lo hi).length<=xs.length:=by
 unfold cutV
 rw[List.length_take,List.length_drop]
 omega
def rSlT (K:PySem.W.Frag):V->Option Int->Option Int->Hp->VK->Prop:=fun x lo hi H Q=>∃a xs,x = .ref a/\SqT K H a xs /\
 ¬(HT.sIx xs.length 0 lo=0/\HT.sIx xs.length xs.length hi=xs.length)/\∀p,H p=none->Q (.ref p) (upd H p (.tup (cutV xs lo hi)))
theorem l1d:SlR X (rSlT X.K):=by
 intro pins s σ H x v vl vu lo hi sl Q I rx hs pl pu h
 obtain⟨a,xs,rfl,hx,hw,q⟩:=h
 cases rx
 obtain⟨its,r,ht,hz⟩:=I.tuple hx
 have hlen:its.toArray.size=xs.length:=by rw[List.size_toArray];exact r.length.symm
 refine⟨"tuple",_,PyProof.Rows.slot_tuple_getitem.lookup,ht.typeIs,?_⟩
 refine HT.getItem_tuple_cut ht hs pl pu (by rw[hlen];exact hw) ?_ (by rw[hlen];exact hz)
 rw[hlen]
 refine⟨.ref s.heap.objs.size,_,I.laid (t':=s.toks) (o:=.tup (cutV xs lo hi)) (fun b ob q=>Heap.get?_push_of_some _ q) (Nat.le_refl _) ?_,rfl,q _ (I.hok.fresh (Nat.le_refl _))⟩
 exact⟨Nat.le_trans (m0z xs lo hi) hz,_,(r.drop (HT.sIx xs.length 0 lo)).take (HT.sIx xs.length xs.length hi - HT.sIx xs.length 0 lo),IsTup.new _ _⟩
end
def ixN (n:Nat)(i:Int):Option Nat:=if 0<=i then(if i<n then some i.toNat else none)else if -(n:Int)<=i then some (i+n).toNat else none
def atI {α:Type}(xs:List α)(i:Int):Option α:=(ixN xs.length i).bind fun j=>xs[j]?
theorem j1j {n:Nat}{i:Int}{j:Nat}(h:ixN n i=some j):seqIndex? i n=some j/\j<n/\-(n:Int)<=i/\i<n:=by
 unfold ixN at h
 by_cases h0:0<=i
 ·rw[if_pos h0]at h
  by_cases h1:i<n
  ·rw[if_pos h1]at h
   have e:i.toNat=j:=Option.some.inj h
   exact⟨by rw[seqIndex_of h0 h1,e],by omega,by omega,h1⟩
  ·rw[if_neg h1]at h;cases h
 ·rw[if_neg h0]at h
  by_cases h1:-(n:Int)<=i
  ·rw[if_pos h1]at h
   have e:(i+n).toNat=j:=Option.some.inj h
   exact⟨by rw[seqIndex_neg (by omega) h1,e],by omega,h1,by omega⟩
  ·rw[if_neg h1]at h;cases h
theorem v0g {α:Type}{xs:List α}{i:Int}{v:α}(h:atI xs i=some v):∃j,seqIndex? i xs.length=some j/\xs[j]? = some v/\j<xs.length/\-(xs.length:Int)<=i/\i<xs.length:=by
 unfold atI at h
 cases e:ixN xs.length i with
 | none=>rw[e]at h;cases h
 | some j =>
  rw[e]at h
  obtain⟨h1,h2,h3,h4⟩:=j1j e
  exact⟨j,h1,h,h2,h3,h4⟩
theorem d1f {α:Type}{xs:List α}{j:Nat}{v:α}(h:xs[j]? = some v):atI xs (j:Int)=some v:=by
 have hj:j<xs.length:=(List.getElem?_eq_some_iff.mp h).1
 have e:ixN xs.length (j:Int)=some j:=by
  unfold ixN
  rw[if_pos (by omega),if_pos (by omega)];simp
 unfold atI;rw[e];exact h
def k1f (b:Expr):Prop:=∀o i,subscripted b false o i=operate [o,i] (getItem o i)
def IxR (X:Cx)(r:R2):Prop :=
 ∀(value slice:Expr) (pins:List (Addr×Obj)) (s:Shared) (σ:St) (H:Hp) (x y:V) (v u:Value) (Q:VK),Inv X pins σ H s->RelV x v->RelV y u->r x y H Q ->
  subscripted slice false v u=operate [v,u] (getItem v u)->wpAny (model X.prog X.w) X.A (subscriptTail value slice v u) (EP X pins σ Q) X.xe s
def MtR (X:Cx)(id:String)(r:V->List V->Hp->VK->Prop):Prop :=
 ∀(pins:List (Addr×Obj)) (s:Shared) (σ:St) (H:Hp) (x:V) (xs:List V) (v:Value) (us:List Value) (Q:VK),Inv X pins σ H s->RelV x v->Vals xs us->r x xs H Q ->
  wpAny (model X.prog X.w) X.A (call (.builtin id) (v::us)) (EP X pins σ Q) X.xe s
section
variable {X:Cx}{a b:Expr}{ta tb:TE}{pos:Pos}
theorem IxR.or {r r':R2}(h:IxR X r)(h':IxR X r'):IxR X (fun x y H Q=>r x y H Q∨r' x y H Q):=by
 intro value slice pins s σ H x y v u Q I rx ry q hs
 rcases q with q | q
 ·exact h value slice pins s σ H x y v u Q I rx ry q hs
 ·exact h' value slice pins s σ H x y v u Q I rx ry q hs
theorem c0w {r:R2}(hr:IxR X r)(ha:PE X a ta)(hb:PE X b tb)(hs:k1f b):PE X (.Subscript a b pos) (tOp r ta tb):=by
 intro pins s σ H Q I h
 exact Subscript_ (binT ha hb I h fun v u s2 x y H2 I2 rx ry q=>hr a b pins s2 σ H2 x y v u Q I2 rx ry q (hs _ _))
def rIxL (K:PySem.W.Frag):R2:=fun x y H Q=>∃p xs i v,x = .ref p/\y = .int i/\SqL K H p xs/\atI xs i=some v/\Q v H
def rIxT (K:PySem.W.Frag):R2:=fun x y H Q=>∃p xs i v,x = .ref p/\y = .int i/\SqT K H p xs/\atI xs i=some v/\Q v H
def rIxS:R2:=fun x y H Q=>∃z i c,x = .str z/\y = .int i/\z.length<=sizeLine/\atI z.cps.toList i=some c/\Q (.str ⟨#[c]⟩) H
theorem j1i:IxR X (rIxL X.K):=by
 intro value slice pins s σ H x y v u Q I rx ry h hs
 obtain⟨p,xs,i,z,rfl,rfl,hq,he,q⟩:=h
 cases rx
 obtain⟨t,rfl⟩:=ry
 obtain⟨its,r,pl,hz⟩:=I.list hq
 obtain⟨j,h1,h2,h3,h4,h5⟩:=v0g he
 obtain⟨w,ew,rw'⟩:=r.get h2
 have hl:=r.length
 have hn:=r0w
 have fin:EP X pins σ Q w s:=⟨z,H,I,rw',q⟩
 by_cases h0:0<=i
 ·have hj:i.toNat=j:=by
   rw[seqIndex_of h0 h5]at h1
   exact Option.some.inj h1
  exact item_listR pl.isList h0 (by omega) (by rw[hj];simpa using ew) fin hs
 ·have hj:(i+(its.toArray.size:Int)).toNat=j:=by
   rw[seqIndex_neg (by omega) h4]at h1
   rw[List.size_toArray,<- hl]
   exact Option.some.inj h1
  exact subscriptTail_builtinR (x:=w) pl.isList.typeIs slot_list_getitem.lookup
   (wpAny_getItem_list_neg (Q:=fun r s'=>r=w/\EP X pins σ Q r s') pl.isList (by omega) (by rw[List.size_toArray] <;> omega) (by omega) (by rw[hj];simpa using ew) ⟨rfl,fin⟩) hs
theorem m1k:IxR X (rIxT X.K):=by
 intro value slice pins s σ H x y v u Q I rx ry h hs
 obtain⟨p,xs,i,z,rfl,rfl,hq,he,q⟩:=h
 cases rx
 obtain⟨t,rfl⟩:=ry
 obtain⟨its,r,pl,hz⟩:=I.tuple hq
 obtain⟨j,h1,h2,h3,h4,h5⟩:=v0g he
 obtain⟨w,ew,rw'⟩:=r.get h2
 have hl:=r.length
 have hn:=r0w
 have fin:EP X pins σ Q w s:=⟨z,H,I,rw',q⟩
 exact subscriptTail_builtinR (x:=w) pl.typeIs slot_tuple_getitem.lookup
  (getItem_tuple (j:=j) (Q:=fun r s'=>r=w/\EP X pins σ Q r s') pl (by omega) (by omega) (by rw[List.size_toArray,<- hl];exact h1) (by simpa using ew) ⟨rfl,fin⟩) hs
theorem m1l:IxR X rIxS:=by
 intro value slice pins s σ H x y v u Q I rx ry h hs
 obtain⟨z,i,c,rfl,rfl,hz,he,q⟩:=h
 obtain⟨t,rfl⟩:=rx
 obtain⟨t',rfl⟩:=ry
 obtain⟨j,h1,h2,h3,h4,h5⟩:=v0g he
 have hl:z.cps.toList.length=z.length:=by simp[Str.length]
 rw[hl]at h1 h4 h5
 have hn:=r0w
 exact tail_any (typeIs_str s z t) slot_str_getitem.lookup (getItem_str (c:=c) (by
  have e1:decide (i < -(2^63:Int))=false:=decide_eq_false (by omega)
  have e2:decide (i>=2^63)=false:=decide_eq_false (by omega)
  rw[e1,e2,Bool.or_false]) (by rw[h1];simpa using h2) ⟨.str ⟨#[c]⟩,H,I.tok _,⟨_,rfl⟩,q⟩) hs
def rIx (K:PySem.W.Frag):R2:=fun x y H Q=>rIxL K x y H Q∨rIxT K x y H Q∨rIxS x y H Q
theorem m1m:IxR X (rIx X.K):=j1i.or (m1k.or m1l)
theorem q0y (lo hi:Option Int)(n:Nat):(sliceBounds lo hi none n).1=((HT.sIx n 0 lo:Nat):Int)/\(sliceBounds lo hi none n).2.1=((HT.sIx n n hi:Nat):Int)/\(sliceBounds lo hi none n).2.2=1:=by
 refine⟨?_,?_,rfl⟩
 ·cases lo with
  | none=>simp[sliceBounds,HT.sIx]
  | some i =>
   simp only[sliceBounds,HT.sIx,Option.getD_none,show(1:Int) > 0 by decide,if_true]
   by_cases h:i<0
   ·simp only[h,if_true] <;> omega
   ·simp only[h,if_false] <;> omega
 ·cases hi with
  | none=>simp[sliceBounds,HT.sIx]
  | some i =>
   simp only[sliceBounds,HT.sIx,Option.getD_none,show(1:Int) > 0 by decide,if_true]
   by_cases h:i<0
   ·simp only[h,if_true] <;> omega
   ·simp only[h,if_false] <;> omega
theorem p0a (its:List Value)(lo hi:Option Int):slicePick its.toArray lo hi none=((its.drop (HT.sIx its.length 0 lo)).take (HT.sIx its.length its.length hi - HT.sIx its.length 0 lo)).toArray:=by
 obtain⟨h1,h2,h3⟩:=q0y lo hi its.toArray.size
 unfold slicePick
 rw[h1,h2,h3]
 simp only[sliceRange_one,pick_run,List.size_toArray] <;> rfl
def rSlL (K:PySem.W.Frag):V->Option Int->Option Int->Hp->VK->Prop:=fun x lo hi H Q=>∃a xs,x = .ref a/\SqL K H a xs/\∀p,H p=none->Q (.ref p) (upd H p (.lst (cutV xs lo hi)))
theorem i1h:SlR X (rSlL X.K):=by
 intro pins s σ H x v vl vu lo hi sl Q I rx hs pl pu h
 obtain⟨a,xs,rfl,hx,q⟩:=h
 cases rx
 obtain⟨its,r,ht,hz⟩:=I.list hx
 have hlen:=r.length
 refine⟨"list",_,slot_list_getitem.lookup,ht.isList.typeIs,?_⟩
 refine wpAny_getItem_list_slice ht.isList hs pl pu .none (by simp) ?_ (by rw[List.size_toArray] <;> omega)
 rw[p0a,<- hlen]
 refine⟨.ref s.heap.objs.size,_,I.laid (t':=s.toks) (o:=.lst (cutV xs lo hi)) (fun b ob q=>Heap.get?_push_of_some _ q) (Nat.le_refl _) ?_,rfl,q _ (I.hok.fresh (Nat.le_refl _))⟩
 exact⟨Nat.le_trans (m0z xs lo hi) hz,_,0,(r.drop (HT.sIx xs.length 0 lo)).take (HT.sIx xs.length xs.length hi - HT.sIx xs.length 0 lo),Heap.get?_push_size _ rfl⟩
def o0a:V->Bool
 | .non=>true
 | .bl _=>true
 | .int _=>true
 | .str _=>true
 | _=>false
def eqV:V->V->Bool
 | .non,.non=>true
 | .bl a,.bl b=>a==b
 | .bl a,.int b=>(if a then 1 else 0)==b
 | .int a,.bl b=>a==(if b then 1 else 0)
 | .int a,.int b=>a==b
 | .str a,.str b=>a==b
 | _,_=>false
theorem n1a {A:Around}{s:Shared}{y x:V}{u v:Value}(ry:RelV y u)(rx:RelV x v)(fy:o0a y=true)(fx:o0a x=true):SeqAt.EqAt A s u v (eqV y x):=by
 cases y with
 | non =>
  cases ry
  cases x with
  | non=>cases rx;exact SeqAt.EqAt.same _
  | bl b=>cases rx;exact SeqAt.EqAt.none_bool b
  | int b=>obtain⟨t,rfl⟩:=rx;exact SeqAt.EqAt.none_int b t
  | str b=>obtain⟨t,rfl⟩:=rx;exact SeqAt.EqAt.none_str b t
  | _=>exact absurd (show false=true from fx) Bool.false_ne_true
 | bl a =>
  cases ry
  cases x with
  | non=>cases rx;exact SeqAt.EqAt.bool_none a
  | bl b=>cases rx;exact SeqAt.EqAt.bool_bool a b
  | int b=>obtain⟨t,rfl⟩:=rx;exact SeqAt.EqAt.bool_int a b t
  | str b=>obtain⟨t,rfl⟩:=rx;exact SeqAt.EqAt.bool_str a b t
  | _=>exact absurd (show false=true from fx) Bool.false_ne_true
 | int a =>
  obtain⟨t',rfl⟩:=ry
  cases x with
  | non=>cases rx;exact SeqAt.EqAt.int_none a t'
  | bl b=>cases rx;exact SeqAt.EqAt.int_bool a t' b
  | int b=>obtain⟨t,rfl⟩:=rx;exact SeqAt.EqAt.int_int a t' b t
  | str b=>obtain⟨t,rfl⟩:=rx;exact SeqAt.EqAt.int_str a t' b t
  | _=>exact absurd (show false=true from fx) Bool.false_ne_true
 | str a =>
  obtain⟨t',rfl⟩:=ry
  cases x with
  | non=>cases rx;exact SeqAt.EqAt.str_none a t'
  | bl b=>cases rx;exact SeqAt.EqAt.str_bool a t' b
  | int b=>obtain⟨t,rfl⟩:=rx;exact SeqAt.EqAt.str_int a t' b t
  | str b=>obtain⟨t,rfl⟩:=rx;exact SeqAt.EqAt.str_str a t' b t
  | _=>exact absurd (show false=true from fx) Bool.false_ne_true
 | _=>exact absurd (show false=true from fy) Bool.false_ne_true
def eqU (x:V)(u:Value):Bool:=match u with
 | .none=>eqV .non x
 | .bool b=>eqV (.bl b) x
 | .int i _=>eqV (.int i) x
 | .str z _=>eqV (.str z) x
 | _=>false
theorem h1e {x y:V}{u:Value}(r:RelV y u)(f:o0a y=true):eqU x u=eqV y x:=by
 cases y with
 | non=>cases r;rfl
 | bl b=>cases r;rfl
 | int i=>obtain⟨t,rfl⟩:=r;rfl
 | str z=>obtain⟨t,rfl⟩:=r;rfl
 | _=>exact absurd (show false=true from f) Bool.false_ne_true
theorem v0h {x:V}:∀ {xs:List V} {us:List Value},Vals xs us->xs.all o0a=true->us.any (eqU x)=xs.any fun y=>eqV y x
 | _,_,.nil,_=>rfl
 | y::xs,u::us,.cons r t,f=>by
  rw[List.all_cons,Bool.and_eq_true]at f
  rw[List.any_cons,List.any_cons,h1e r f.1,v0h t f.2]
theorem p0o {A:Around}{s:Shared}{x:V}{v:Value}(rx:RelV x v)(fx:o0a x=true):∀ {xs:List V} {us:List Value},Vals xs us->xs.all o0a=true->∀u∈us,SeqAt.EqAt A s u v (eqU x u)
 | _,_,.nil,_=>fun u hu=>by cases hu
 | y::xs,u::us,.cons r t,f=>fun u' hu=>by
  rw[List.all_cons,Bool.and_eq_true]at f
  rcases List.mem_cons.mp hu with rfl | hu
  ·rw[h1e r f.1];exact n1a r rx f.1 fx
  ·exact p0o rx fx t f.2 u' hu
def inV (x:V)(xs:List V):Bool:=xs.any fun y=>eqV y x
def rIn (K:PySem.W.Frag)(neg:Bool):R2:=fun x y H Q=>∃p xs,y = .ref p/\(SqL K H p xs∨SqT K H p xs)/\o0a x=true/\xs.all o0a=true/\Q (.bl (if neg then !inV x xs else inV x xs)) H
theorem r0f:OpR X (compareOp .NotIn) (rIn X.K true):=by
 intro pins s σ H x y v u Q I rx ry h
 obtain⟨p,xs,rfl,hq,fx,fs,q⟩:=h
 cases ry
 rcases hq with hq | hq
 ·obtain⟨its,r,pl,hz⟩:=I.list hq
  refine SeqAt.notIn_listAt (eqU x) pl.isList (fun w hw=>p0o rx fx r fs w (by simpa using hw)) ⟨.bl _,H,I,rfl,?_⟩
  rw[show its.toArray.any (eqU x)=its.any (eqU x)by simp,v0h r fs]
  exact q
 ·obtain⟨its,r,pl,hz⟩:=I.tuple hq
  refine SeqAt.notIn_tupleAt (eqU x) pl (fun w hw=>p0o rx fx r fs w (by simpa using hw)) ⟨.bl _,H,I,rfl,?_⟩
  rw[show its.toArray.any (eqU x)=its.any (eqU x)by simp,v0h r fs]
  exact q
theorem s0v:h0n X (.builtin "len") (fun xs H Q=>∃p ys,xs=[.ref p]/\(SqL X.K H p ys∨SqT X.K H p ys)/\Q (.int ys.length) H):=by
 intro pins s σ H xs us Q I r h
 obtain⟨p,ys,rfl,hq,q⟩:=h
 obtain⟨u,rfl,rx⟩:=i0q r
 cases rx
 have hn:=r0w
 rcases hq with hq | hq
 ·obtain⟨its,r',pl,hz⟩:=I.list hq
  have hlen:=r'.length
  exact Calls.call_len_list pl.isList (by simp only[List.size_toArray] <;> omega) ⟨.int ys.length,H,I.tok _,⟨s.toks+1,by rw[List.size_toArray,hlen]⟩,q⟩
 ·obtain⟨its,r',pl,hz⟩:=I.tuple hq
  have hlen:=r'.length
  exact len_tuple pl (by simp only[List.size_toArray] <;> omega) ⟨.int ys.length,H,I.tok _,⟨s.toks+1,by rw[List.size_toArray,hlen]⟩,q⟩
theorem s0u:h0n X (.type "list") (fun xs H Q=>∃p ys,xs=[.ref p]/\(SqL X.K H p ys∨SqT X.K H p ys)/\∀l,H l=none->Q (.ref l) (upd H l (.lst ys))):=by
 intro pins s σ H xs us Q I r h
 obtain⟨p,ys,rfl,hq,q⟩:=h
 obtain⟨u,rfl,rx⟩:=i0q r
 cases rx
 have fin:∀(its:List Value),Vals ys its->ys.length<=sizeLine->∀(h':Heap) (c':Nat),(∀b o',s.heap.get? b=some o'->h'.get? b=some o') ->
   h'.get? s.heap.objs.size=some {cls:=.type "list",dict:=none,data:=.seq its.toArray c',slots:=#[]}->EP X pins σ Q (.ref s.heap.objs.size) {s with heap:=h'}:=fun its r' hz h' c' kp e =>
  ⟨.ref s.heap.objs.size,_,I.laid (t':=s.toks) kp (Nat.le_refl _) (show d0y X.prog X.w _ h' _ (.lst ys)from⟨hz,its,c',r',e⟩),rfl,q _ (I.hok.fresh (Nat.le_refl _))⟩
 rcases hq with hq | hq
 ·obtain⟨its,r',pl,hz⟩:=I.list hq
  have hlen:=r'.length
  obtain⟨o,ho,hc,n,hd⟩:=pl.isList
  exact call_list_seq p (.inl rfl) ho hc hd (fun h' c' kp e=>fin its r' hz h' c' kp e) (by simp only[List.size_toArray] <;> omega)
 ·obtain⟨its,r',pl,hz⟩:=I.tuple hq
  have hlen:=r'.length
  obtain⟨o,ho,hc,n,hd⟩:=pl
  exact call_list_seq p (.inr rfl) ho hc hd (fun h' c' kp e=>fin its r' hz h' c' kp e) (by simp only[List.size_toArray] <;> omega)
theorem q0k:h0n X (.type "tuple") (fun xs H Q=>∃p ys,xs=[.ref p]/\((SqL X.K H p ys/\∀l,H l=none->Q (.ref l) (upd H l (.tup ys)))∨(SqT X.K H p ys/\Q (.ref p) H))):=by
 intro pins s σ H xs us Q I r h
 obtain⟨p,ys,rfl,h⟩:=h
 obtain⟨u,rfl,rx⟩:=i0q r
 cases rx
 rcases h with⟨hq,q⟩ | ⟨hq,q⟩
 ·obtain⟨its,r',pl,hz⟩:=I.list hq
  have hlen:=r'.length
  refine call_tuple_list pl.isList (fun h' kp=>?_) (by simp only[List.size_toArray] <;> omega)
  have I1:Inv X pins σ H {s with heap:=h'}:=I.kept (t':=s.toks) kp
  have I2:Inv X pins σ (upd H h'.objs.size (.tup ys)) {s with heap:=h'.push {cls:=.type "tuple",data:=.seq its.toArray}} :=
   I1.laid (t':=s.toks) (fun b o e=>Heap.get?_push_of_some _ e) (Nat.le_refl _) (show d0y X.prog X.w _ _ _ (.tup ys)from⟨hz,its,r',IsTup.new _ _⟩)
  exact⟨.ref h'.objs.size,_,I2,rfl,q _ (I1.hok.fresh (Nat.le_refl _))⟩
 ·obtain⟨its,r',pl,hz⟩:=I.tuple hq
  exact call_tuple_same pl ⟨.ref p,H,I,rfl,q⟩
def tyV (K:PySem.W.Frag)(T:String)(x:V)(H:Hp):Prop:=match x with
 | .str _=>T = "str"
 | .int _=>T = "int"
 | .ref p=>(T = "list" /\ ∃xs,SqL K H p xs)∨(T = "tuple" /\ ∃o,K.lookup p=some o/\o.cls = .type "tuple" /\ o.dict=none) ∨
   (T = "dict" /\ ((∃kvs,H p=some (.dK kvs)) ∨ ∃kvs,H p=some (.dT kvs)))∨(T = "set" /\ ∃S n,H p=some (.set S n))
 | _=>False
theorem g1h {pins:List (Addr×Obj)}{σ:St}{H:Hp}{s:Shared}{T:String}{x:V}{v:Value}(I:Inv X pins σ H s)(r:RelV x v)(ty:tyV X.K T x H) :
  s.TypeIs v T/\∀a,v = .ref a->∃ob,s.heap.get? a=some ob/\ob.dict=none:=by
 cases x with
 | str z =>
  obtain⟨t,rfl⟩:=r
  cases (show T = "str" from ty)
  exact⟨typeIs_str s z t,fun _ e=>nomatch e⟩
 | int i =>
  obtain⟨t,rfl⟩:=r
  cases (show T = "int" from ty)
  exact⟨typeIs_int s i t,fun _ e=>nomatch e⟩
 | ref p =>
  cases r
  rcases ty with⟨rfl,xs,hq⟩ | ⟨rfl,o,hk,hc,hd⟩ | ⟨rfl,hk⟩ | ⟨rfl,S,n,hk⟩
  ·obtain⟨its,_,pl,_⟩:=I.list hq
   refine⟨pl.isList.typeIs,fun a e=>?_⟩
   cases e
   obtain⟨o,n,e,c,hd,_⟩:=pl
   exact⟨o,e,hd⟩
  ·refine⟨⟨o,I.kIn p o hk,hc⟩,fun a e=>?_⟩
   cases e
   exact⟨o,I.kIn _ o hk,hd⟩
  ·have z:∃o,s.heap.get? p=some o/\o.ExactDict:=by
    rcases hk with⟨kvs,hk⟩ | ⟨kvs,hk⟩
    ·obtain⟨_,_,_,_,o,_,_,e,ex,_⟩:=I.hok p _ hk
     exact⟨o,e,ex⟩
    ·obtain⟨_,_,_,_,o,_,_,e,ex,_⟩:=I.hok p _ hk
     exact⟨o,e,ex⟩
   obtain⟨o,e,ex⟩:=z
   refine⟨⟨o,e,ex.1⟩,fun a e2=>?_⟩
   cases e2
   exact⟨o,e,ex.2.1⟩
  ·obtain⟨o,_,_,_,e,ex,_⟩:=I.hok p _ hk
   refine⟨⟨o,e,ex.1⟩,fun a e2=>?_⟩
   cases e2
   exact⟨o,e,ex.2.1⟩
 | _=>exact False.elim ty
def tBM0 (K:PySem.W.Frag)(T:String)(r:V->List V->Hp->VK->Prop)(to:TE):TE:=fun σ H Q=>to σ H fun x H1=>tyV K T x H1/\r x [] H1 Q
def tBM (K:PySem.W.Frag)(T:String)(r:V->List V->Hp->VK->Prop)(to:TE)(t:TA):TE:=fun σ H Q=>to σ H fun x H1=>tyV K T x H1/\t σ H1 fun xs H2=>r x xs H2 Q
variable {o e:Expr}{es:List Expr}{to:TE}{t:TA}{name:Str}{apos cpos:Pos}{T id:String}{r:V->List V->Hp->VK->Prop}
theorem l1v (pa:PlainAttrs T)(slot:Slot T name id)(hty:typeOf (.builtin id)=pure (.type "method_descriptor"))(hm:MtR X id r)(ho:PE X o to)
  (hbase:attributeBase o name X.env (eval o X.env)=eval o X.env:=by rfl) (hline:(apos.endLine==cpos.line)=true:=by rfl):PE X (.Call (.Attribute o name apos) [] [] cpos) (tBM0 X.K T r to):=by
 intro pins s σ H Q I h
 refine wpAny_Call_method0_late hbase hline (thn (ho pins s σ H _ I h) fun v s1 ⟨x,H1,I1,r1,ty,q1⟩=>?_)
 obtain⟨h1,h2⟩:=g1h I1 r1 ty
 exact⟨T,id,pa,slot,hty,h1,h2,Calls.callWith_builtin rfl (PySem.evalArgs_none (hm pins s1 σ H1 x [] v [] Q I1 r1 .nil q1))⟩
theorem n1x (pa:PlainAttrs T)(slot:Slot T name id)(hty:typeOf (.builtin id)=pure (.type "method_descriptor"))(hm:MtR X id r)(ho:PE X o to)(ha:PA X (e::es) t)
  (hbase:attributeBase o name X.env (eval o X.env)=eval o X.env:=by rfl)
  (hfew:((backTo cpos (starEach (e::es) X.env)).all (fun x=>!x.1)&&(backToKw cpos (keywordEach [] X.env)).all (fun x=>x.1.isSome)
   && decide ((e::es).length+([]:List Keyword).length+(if([]:List Keyword).isEmpty then 0 else 1)<30))=true:=by rfl)
  (hline:(apos.endLine==cpos.line)=true:=by rfl) (hs:starEach (e::es) X.env=(false,eval e X.env)::starEach es X.env:=by rfl) (hplain:(backTo cpos (starEach es X.env)).any (·.1)=false:=by rfl) :
  PE X (.Call (.Attribute o name apos) (e::es) [] cpos) (tBM X.K T r to t):=by
 intro pins s σ H Q I h
 refine wpAny_Call_method_late hbase hfew hline rfl (thn (ho pins s σ H _ I h) fun v s1 ⟨x,H1,I1,r1,ty,q1⟩=>?_)
 obtain⟨h1,h2⟩:=g1h I1 r1 ty
 refine⟨T,id,pa,slot,hty,h1,h2,?_⟩
 have hA:=ha cpos pins s1 σ H1 _ I1 q1
 rw[hs]at hA ⊢
 refine Calls.callWith_builtin (by show(false||(backTo cpos (starEach es X.env)).any (·.1))=false;rw[hplain] <;> rfl) (Calls.evalArgs_plain ?_)
 exact thn hA fun us s2 ⟨vs,H2,I2,r2,q2⟩=>hm pins s2 σ H2 x vs v us Q I2 r1 r2 q2
end
def MtM (X:Cx)(id:String)(r:V->List V->Hp->VK->Prop):Prop :=
 ∀(pins:List (Addr×Obj)) (s:Shared) (σ:St) (H:Hp) (x:V) (xs:List V) (v:Value) (us:List Value) (Q:VK),Inv X pins σ H s->RelV x v->Vals xs us->r x xs H Q ->
  wpAny (model X.prog X.w) X.A (call (.builtin id) (v::us)) (EP X pins σ Q) X.xe s
theorem Vals.one:∀ {x:V} {us:List Value},Vals [x] us->∃u,us=[u]/\RelV x u
 | _,_,.cons r .nil=>⟨_,rfl,r⟩
section
variable {X:Cx}{pins:List (Addr×Obj)}{σ:St}{H:Hp}{s:Shared}{l b:Addr}{xs ys zs:List V}
theorem Inv.lset {its its':List Value}{n:Nat}{f:Array Value->Array Value}{t':Nat}(I:Inv X pins σ H s)(hH:H l=some (.lst xs))
  (e:s.heap.get? l=some {cls:=.type "list",data:=.seq its.toArray n}) (hf:f its.toArray=its'.toArray) (hv:Vals ys its') (hz:ys.length<=sizeLine) :
  Inv X pins σ (upd H l (.lst ys)) {s with heap:=s.heap.update l (Obj.mapSeq f),toks:=t'}:=by
 have q:=PySem.IsL.update e f
 rw[hf]at q
 refine I.write (x:=l) (e:=l) (by rw[hH];exact trivial) (.inl rfl) (fun b' u hb hu=>(Heap.get?_update_other s.heap (Obj.mapSeq f) (Ne.symm hb)).trans hu) ⟨_,q⟩ ?_
 exact⟨hz,its',_,hv,q⟩
theorem Inv.lstM (I:Inv X pins σ H s)(hH:H l=some (.lst xs)):xs.length<=sizeLine/\∃(its:List Value) (n:Nat),Vals xs its/\xs.length=its.length/\s.heap.get? l=some {cls:=.type "list",data:=.seq its.toArray n}:=by
 obtain⟨z,its,n,r,e⟩:=I.hok l _ hH
 exact⟨z,its,n,r,r.length,e⟩
end
section
variable {X:Cx}
def rAppend:V->List V->Hp->VK->Prop:=fun x vs H Q=>∃l xs y,x = .ref l/\vs=[y]/\H l=some (.lst xs)/\xs.length<sizeLine/\Q .non (upd H l (.lst (xs++[y])))
theorem d0g:MtM X "list.append" rAppend:=by
 intro pins s σ H x vs v us Q I rx rv h
 obtain⟨l,xs,y,rfl,rfl,hH,hz,q⟩:=h
 cases rx
 obtain⟨u,rfl,ru⟩:=rv.one
 obtain⟨z,its,n,r,hl,e⟩:=I.lstM hH
 refine call_meets F.slot_list_append ⟨_,e,rfl⟩ F.entry_list_append (F.args_list_append_2 _ _) (PySem.list_append l its.toArray n u (by rw[List.size_toArray];omega)) ⟨e,?_⟩
 refine⟨.non,_,I.lset (its':=its++[u]) hH e (by simp) (r.append (.cons ru .nil)) ?_,rfl,q⟩
 rw[List.length_append,List.length_singleton]
 omega
end
section
variable {κ:Type} [DecidableEq κ]
def valV (kvs:List (κ×V))(k:κ):Option V:=(kvs.find? fun kv=>decide (kv.1=k)).map (·.2)
def putK (kvs:List (κ×V))(k:κ)(v:V):List (κ×V) :=
 if(kvs.any fun kv=>decide (kv.1=k))=true then kvs.map (fun kv=>if kv.1=k then(kv.1,v)else kv)else kvs++[(k,v)]
theorem l0l {p:κ×V}{r:List (κ×V)}{k:κ}(e:p.1=k):valV (p::r) k=some p.2:=by simp[valV,List.find?_cons,e]
theorem l0m {p:κ×V}{r:List (κ×V)}{k:κ}(e:¬p.1=k):valV (p::r) k=valV r k:=by simp[valV,List.find?_cons,e]
theorem v0t (k:κ):∀kvs:List (κ×V),(kvs.any fun kv=>decide (kv.1=k))=(valV kvs k).isSome
 | []=>rfl
 | p::r=>by
  rw[List.any_cons]
  by_cases e:p.1=k
  ·simp only[l0l e,decide_eq_true e,Bool.true_or,Option.isSome_some]
  ·rw[l0m e,decide_eq_false e,Bool.false_or];exact v0t k r
theorem h0e (kvs:List (κ×V))(k:κ)(v:V):(putK kvs k v).length<=kvs.length+1:=by
 unfold putK
 split
 ·rw[List.length_map];omega
 ·rw[List.length_append,List.length_cons,List.length_nil];omega
theorem RelO.isSome_eq {o:Option V}{u:Option Value}(r:RelO o u):o.isSome=u.isSome:=by
 cases o with
 | none=>cases u with
  | none=>rfl
  | some _=>exact(show False from r).elim
 | some _=>cases u with
  | none=>exact(show False from r).elim
  | some _=>rfl
theorem KV.val {kvs:List (κ×V)}{vs:List (κ×Value)}(r:KV kvs vs)(k:κ):RelO (valV kvs k) (valueAt vs k):=by
 unfold KV at r
 induction r with
 | nil=>exact True.intro
 | @cons p q ps qs h t ih =>
  obtain⟨h1,h2⟩:=h
  by_cases e:p.1=k
  ·have e':q.1=k:=h1.symm.trans e
   have b:valueAt (q::qs) k=some q.2:=by simp[valueAt,List.find?_cons,e']
   rw[l0l e,b];exact h2
  ·have e':¬q.1=k:=fun z=>e (h1.trans z)
   have b:valueAt (q::qs) k=valueAt qs k:=by simp[valueAt,List.find?_cons,e']
   rw[l0m e,b];exact ih
theorem KV.any {kvs:List (κ×V)}{vs:List (κ×Value)}(r:KV kvs vs)(k:κ):(kvs.any fun kv=>decide (kv.1=k))=vs.any fun kv=>decide (kv.1=k):=by
 unfold KV at r
 induction r with
 | nil=>rfl
 | cons h t ih=>rw[List.any_cons,List.any_cons,ih,h.1]
theorem KV.repl {kvs:List (κ×V)}{vs:List (κ×Value)}(r:KV kvs vs)(k:κ){y:V}{u:Value}(ry:RelV y u) :
  KV (kvs.map fun kv=>if kv.1=k then(kv.1,y)else kv) (vs.map fun kv=>if kv.1=k then(kv.1,u)else kv):=by
 unfold KV at r ⊢
 induction r with
 | nil=>exact .nil
 | @cons p q ps qs h t ih =>
  rw[List.map_cons,List.map_cons]
  refine .cons ?_ ih
  obtain⟨h1,h2⟩:=h
  by_cases e:p.1=k
  ·rw[if_pos e,if_pos (h1.symm.trans e)];exact⟨h1,ry⟩
  ·rw[if_neg e,if_neg (fun z=>e (h1.trans z))];exact⟨h1,h2⟩
theorem KV.put {kvs:List (κ×V)}{vs:List (κ×Value)}(r:KV kvs vs)(k:κ){y:V}{u:Value}(ry:RelV y u):KV (putK kvs k y) (stored vs k u):=by
 unfold putK stored
 rw[r.any k]
 by_cases e:(vs.any fun kv=>decide (kv.1=k))=true
 ·rw[if_pos e,if_pos e];exact r.repl k ry
 ·rw[if_neg e,if_neg e];exact Paired.snoc r ⟨rfl,ry⟩
theorem KV.length {kvs:List (κ×V)}{vs:List (κ×Value)}(r:KV kvs vs):kvs.length=vs.length:=Paired.length r
end
theorem u0m {P:Program}{w:World}{k:Key}{u:Value}(r:RelV (kV k) u):(c0j P w).is k u=true:=by
 cases k with
 | inl i=>obtain⟨t,e⟩:=(show ∃t,u=Value.int i t from r);subst e;exact u0h P w i t
 | inr x=>obtain⟨t,e⟩:=(show ∃t,u=Value.str x t from r);subst e;exact u0g P w x t
theorem s0a {P:Program}{w:World}:∀ {ks:List Key} {us:List Value},Vals (ks.map kV) us->ItemsAre (c0j P w) ks us
 | [],_,r=>by rw[List.map_nil]at r;cases r;exact .nil
 | k::ks,_,r=>by
  rw[List.map_cons]at r
  cases r with
  | cons h t=>exact .cons (u0m h) (s0a t)
abbrev KT (H:Hp):List (List Key×V)->List (List Key×Addr×Value)->Prop:=Paired fun p q=>p.1=q.1/\H q.2.1=some (.tup (p.1.map kV))/\RelV p.2 q.2.2
theorem KT.val {H:Hp}{kvs:List (List Key×V)}{xs:List (List Key×Addr×Value)}(r:KT H kvs xs)(k:List Key):RelO (valV kvs k) ((atKey xs k).map (·.2)):=by
 induction r with
 | nil=>exact True.intro
 | @cons p q ps qs h t ih =>
  obtain⟨h1,_,h2⟩:=h
  by_cases e:p.1=k
  ·have e':q.1=k:=h1.symm.trans e
   have b:atKey (q::qs) k=some q.2:=by simp[atKey,List.find?_cons,e']
   rw[l0l e,b];exact h2
  ·have e':¬q.1=k:=fun z=>e (h1.trans z)
   have b:atKey (q::qs) k=atKey qs k:=by simp[atKey,List.find?_cons,e']
   rw[l0m e,b];exact ih
theorem KT.repl {H:Hp}{kvs:List (List Key×V)}{xs:List (List Key×Addr×Value)}(r:KT H kvs xs)(k:List Key){y:V}{u:Value}(ry:RelV y u) :
  KT H (kvs.map fun kv=>if kv.1=k then(kv.1,y)else kv) (xs.map (putAt k u)):=by
 induction r with
 | nil=>exact .nil
 | @cons p q ps qs h t ih =>
  rw[List.map_cons,List.map_cons]
  refine .cons ?_ ih
  obtain⟨h1,h2,h3⟩:=h
  unfold putAt
  by_cases e:p.1=k
  ·rw[if_pos e,if_pos (h1.symm.trans e)];exact⟨h1,h2,ry⟩
  ·rw[if_neg e,if_neg (fun z=>e (h1.trans z))];exact⟨h1,h2,h3⟩
theorem KT.put {H:Hp}{kvs:List (List Key×V)}{xs:List (List Key×Addr×Value)}(r:KT H kvs xs)(k:List Key){b:Addr}{y:V}{u:Value}(hb:H b=some (.tup (k.map kV)))(ry:RelV y u) :
  KT H (putK kvs k y) (storedH xs k b u):=by
 have e:(kvs.any fun kv=>decide (kv.1=k))=(atKey xs k).isSome:=by
  rw[v0t,(r.val k).isSome_eq,Option.isSome_map]
 unfold putK storedH
 rw[e]
 by_cases q:(atKey xs k).isSome=true
 ·rw[if_pos q,if_pos q];exact r.repl k ry
 ·rw[if_neg q,if_neg q];exact Paired.snoc r ⟨rfl,hb,ry⟩
theorem KT.keeps {H H':Hp}{kvs:List (List Key×V)}{xs:List (List Key×Addr×Value)}(r:KT H kvs xs)(ht:∀b ys,H b=some (.tup ys)->H' b=some (.tup ys)):KT H' kvs xs :=
 Paired.mapP r fun _ _ z=>⟨z.1,ht _ _ z.2.1,z.2.2⟩
section
variable {P:Program}{w:World}{H:Hp}{h:Heap}{a:Addr}
theorem l1i {u:HO}(ok:HOk P w H h)(e:Rd H a u):d0y P w H h a u:=e.ok ok
theorem c1q {kvs:List (Key×V)}(ok:HOk P w H h)(e:Rd H a (.dK kvs)):kvs.length<=sizeLine/\(a==sysModules)=false/\∃vs,KV kvs vs/\h.DictOf (c0j P w) a vs :=
 show d0y P w H h a (.dK kvs)from l1i ok e
theorem j1t {kvs:List (Key×V)}(ok:HOk P w H h)(e:H a=some (.dK kvs)):kvs.length<=sizeLine/\(a==sysModules)=false/\∃vs,KV kvs vs/\h.DictOf (c0j P w) a vs:=c1q ok (.inl e)
theorem w0s {ks:List Key}(ok:HOk P w H h)(e:H a=some (.tup (ks.map kV))):(tupleKind (c0j P w)).is h ks a:=by
 obtain⟨_,its,r,o,h1,h2,n,h3⟩:=(show d0y P w H h a (.tup (ks.map kV))from ok a _ e)
 exact⟨o,its.toArray,n,h1,h2,h3,by simpa using s0a r⟩
theorem c1p {kvs:List (List Key×V)}(ok:HOk P w H h)(e:Rd H a (.dT kvs)):kvs.length<=sizeLine/\(a==sysModules)=false /\
  ∃xs,KT H kvs xs/\h.DictOfH (tupleKind (c0j P w)) a xs:=by
 obtain⟨z,y,xs,r,o,es,ep,h1,h2,h3,h4,h5⟩:=(show d0y P w H h a (.dT kvs)from l1i ok e)
 refine⟨z,y,xs,r,o,es,ep,h1,h2,h3,h4,fun x hx=>?_,h5⟩
 have all:∀ {l:List (List Key×V)} {m:List (List Key×Addr×Value)},KT H l m->∀x∈m,(tupleKind (c0j P w)).is h x.1 x.2.1:=by
  intro l m q
  induction q with
  | nil=>intro x hx;exact nomatch hx
  | @cons p q ps qs hq t ih =>
   intro x hx
   rcases List.mem_cons.mp hx with e | hx
   ·subst e
    exact w0s ok (by rw[<- hq.1];exact hq.2.1)
   ·exact ih x hx
 exact all r x hx
theorem o1h {kvs:List (List Key×V)}(ok:HOk P w H h)(e:H a=some (.dT kvs)):kvs.length<=sizeLine/\(a==sysModules)=false /\
  ∃xs,KT H kvs xs/\h.DictOfH (tupleKind (c0j P w)) a xs:=c1p ok (.inl e)
end
def DGet (H:Hp)(a:Addr)(y:V)(r:Option V):Prop :=
 (∃kvs k,Rd H a (.dK kvs)/\y=kV k/\r=valV kvs k) ∨ ∃kvs k b,Rd H a (.dT kvs)/\y = .ref b/\H b=some (.tup (k.map kV))/\r=valV kvs k
def DPut (H:Hp)(a:Addr)(y v:V)(H':Hp):Prop :=
 (∃kvs k,H a=some (.dK kvs)/\y=kV k/\kvs.length<sizeLine/\H'=upd H a (.dK (putK kvs k v))) ∨
 ∃kvs k b,H a=some (.dT kvs)/\y = .ref b/\H b=some (.tup (k.map kV))/\kvs.length<sizeLine/\H'=upd H a (.dT (putK kvs k v))
theorem DGet.k {H:Hp}{a:Addr}{kvs:List (Key×V)}{k:Key}(e:H a=some (.dK kvs)):DGet H a (kV k) (valV kvs k):=.inl ⟨kvs,k,.inl e,rfl,rfl⟩
theorem DPut.k {H:Hp}{a:Addr}{kvs:List (Key×V)}{k:Key}{v:V}(e:H a=some (.dK kvs))(hl:kvs.length<sizeLine):DPut H a (kV k) v (upd H a (.dK (putK kvs k v))):=.inl ⟨kvs,k,e,rfl,hl,rfl⟩
section
variable {X:Cx}{pins:List (Addr×Obj)}{σ:St}{H:Hp}{s:Shared}{a:Addr}{y v:V}{u r:Value}{o:Option V}{A:Around}{E:Value->Shared->Prop}
theorem Inv.big (I:Inv X pins σ H s):sysModules<s.heap.objs.size:=by
 have h:mainGlobals<s.heap.objs.size:=(I.mod.glob.keeps I.bk).lt
 exact Nat.lt_trans (by decide) h
theorem c1s {Q:Value->Shared->Prop}(hu:A.units+1<cLine)(I:Inv X pins σ H s)(g:DGet H a y (some v))(ry:RelV y u)(h:∀w' s',Inv X pins σ H s'->RelV v w'->Q w' s') :
  wpAny (model X.prog X.w) A (getItem (.ref a) u) Q E s:=by
 rcases g with⟨kvs,k,e,ey,l⟩ | ⟨kvs,k,b,e,ey,eb,l⟩
 ·subst ey
  obtain⟨z,hd,vs,rel,dd⟩:=c1q I.hok e
  obtain⟨w',hw,rw'⟩:=RelO.some_of (v:=v) (o:=valueAt vs k) (by rw[l];exact rel.val k)
  exact wpAny_getItem_of (u0m ry) dd.mapOf hw (h w' _ (I.tok _) rw')
 ·subst ey
  cases (show u=Value.ref b from ry)
  obtain⟨z,hd,xs,rel,dd⟩:=c1p I.hok e
  obtain⟨w',hw,rw'⟩:=RelO.some_of (v:=v) (o:=(atKey xs k).map (·.2)) (by rw[l];exact rel.val k)
  obtain⟨p,hp,hp2⟩:=Option.map_eq_some_iff.mp hw
  refine wpAny_getItem_heap (tupleKind_room_in1 hu) (w0s I.hok eb) dd hp ?_
  rw[hp2]
  exact h w' _ (I.tok _) rw'
theorem d_in {Q:Value->Shared->Prop}(hu:A.units+1<cLine)(I:Inv X pins σ H s)(g:DGet H a y o)(ry:RelV y u)(h:∀s',Inv X pins σ H s'->Q (.bool o.isSome) s') :
  wpAny (model X.prog X.w) A (compareOp .In u (.ref a)) Q E s:=by
 rcases g with⟨kvs,k,e,ey,l⟩ | ⟨kvs,k,b,e,ey,eb,l⟩
 ·subst ey
  obtain⟨z,hd,vs,rel,dd⟩:=c1q I.hok e
  refine wpAny_in_of (u0m ry) hd dd.mapOf ?_
  rw[<- (rel.val k).isSome_eq,<- l]
  exact h _ (I.tok _)
 ·subst ey
  cases (show u=Value.ref b from ry)
  obtain⟨z,hd,xs,rel,dd⟩:=c1p I.hok e
  refine wpAny_in_heap (tupleKind_room_in1 hu) (w0s I.hok eb) hd dd ?_
  have q:=(rel.val k).isSome_eq
  rw[Option.isSome_map]at q
  rw[<- q,<- l]
  exact h _ (I.tok _)
theorem q0f {h':Heap}{t':Nat}{ob:HO}(I:Inv X pins σ H s)(mu:Mut (H a))(hs:Heap.SameBut a s.heap h')(he:∃q,h'.get? a=some q)(new:d0y X.prog X.w (upd H a ob) h' a ob) :
  Inv X pins σ (upd H a ob) {s with heap:=h',toks:=t'} :=
 I.write (x:=a) (e:=a) mu (.inl rfl) (fun b q hb z=>(hs.2 b hb).trans z) he new
theorem x0a {P:Program}{w:World}{H':Hp}{h':Heap}{kvs:List (Key×V)}{vs:List (Key×Value)}(z:kvs.length<=sizeLine)(hd:(a==sysModules)=false)(rel:KV kvs vs)(dd:h'.DictOf (c0j P w) a vs) :
  d0y P w H' h' a (.dK kvs):=⟨z,hd,vs,rel,dd⟩
theorem c1r {H':Hp}{Q:Unit->Shared->Prop}(hu:A.units+1<cLine)(I:Inv X pins σ H s)(g:DPut H a y v H')(ry:RelV y u)(rv:RelV v r)(h:∀s',Inv X pins σ H' s'->Q () s') :
  wpAny (model X.prog X.w) A (setItem (.ref a) u r) Q E s:=by
 rcases g with⟨kvs,k,e,ey,l,eH⟩ | ⟨kvs,k,b,e,ey,eb,l,eH⟩
 ·subst ey eH
  obtain⟨z,hd,vs,rel,dd⟩:=j1t I.hok e
  have hz:vs.length<=sizeLine:=by rw[<- rel.length];exact z
  have hl:(putK kvs k v).length<=sizeLine:=by have:=h0e kvs k v;omega
  refine wpAny_setItem_pairs (hsz:=hz) (u0m ry) dd fun h' dd' hs=>h _ ?_
  have he:∃q,h'.get? a=some q:=let ⟨q,_,_,hq,_⟩:=dd';⟨q,hq⟩
  exact q0f I (by rw[e];exact True.intro) hs he (x0a hl hd (rel.put k rv) dd')
 ·subst ey eH
  cases (show u=Value.ref b from ry)
  obtain⟨z,hd,xs,rel,dd⟩:=o1h I.hok e
  have hz:xs.length<=sizeLine:=by rw[<- Paired.length rel];exact z
  have hl:(putK kvs k v).length<=sizeLine:=by have:=h0e kvs k v;omega
  refine wpAny_setItem_heap (hsz:=hz) (tupleKind_room_in1 hu) (w0s I.hok eb) dd fun h' dd' hs=>h _ ?_
  obtain⟨q,es,ep,hq,h2,h3,h4,_,h5⟩:=dd'
  refine q0f I (by rw[e];exact True.intro) hs ⟨q,hq⟩ ⟨hl,hd,_,(rel.put k eb rv).keeps fun c ys ec=>?_,q,es,ep,hq,h2,h3,h4,h5⟩
  rw[a0x (i1w ec e (fun z=>nomatch z))]
  exact ec
end
def NoSl (i:Expr):Prop:=∀ov iv,subscripted i false ov iv=operate [ov,iv] (getItem ov iv)
theorem i1a {prog:Program}{w:World}{A:Around}{E:Value->Shared->Prop}{s:Shared}{env:Env}{value slice:Expr}{pos:Pos}{T id:String}{Q:Value->Shared->Prop}
  (hl:typeLookup (.type T) "__getitem__" = pure (some (.builtin id))) (hs:NoSl slice)
  (h:wpAny (model prog w) A (eval value env) (fun o s₁=>wpAny (model prog w) A (eval slice env) (fun i s₂=>s₂.TypeIs o T/\wpAny (model prog w) A (getItem o i) Q E s₂) E s₁) E s) :
  wpAny (model prog w) A (eval (.Subscript value slice pos) env) Q E s:=by
 refine Subscript_ (wpAny_mono h (fun o s₁ h₁=>wpAny_mono h₁ (fun i s₂ h₂=>?_) fun _ _ x=>x) fun _ _ x=>x)
 obtain⟨hT,h₂⟩:=h₂
 unfold subscriptTail
 refine wpAny_bind ?_
 rw[getitemInPython_of_ne hT.not_modules]
 refine wpAny_bind (wpAny_specialOf hT hl ?_)
 have fin:wpAny (model prog w) A (subscripted slice false o i) (fun r s₃=>wpAny (model prog w) A (letTemporaryGo value o r>>=fun _=>pure r) Q E s₃) E s₂:=by
  rw[hs o i]
  exact wpAny_operating (wpAny_mono h₂ (fun r s₃ h₃=>wpAny_bind (wpAny_letTemporaryGo (wpAny_pure h₃))) fun _ _ x=>x)
 first
  | exact wpAny_pure (wpAny_bind fin)
  | exact wpAny_bind (wpAny_pure (wpAny_bind fin))
  | exact wpAny_bind fin
theorem u0u {X:Cx}{pins:List (Addr×Obj)}{σ:St}{H:Hp}{s:Shared}{a:Addr}{y:V}{o:Option V}(I:Inv X pins σ H s)(g:DGet H a y o):s.TypeIs (.ref a) "dict" := by
 rcases g with⟨kvs,k,e,_,_⟩ | ⟨kvs,k,b,e,_,_,_⟩
 ·obtain⟨_,_,vs,_,dd⟩:=c1q I.hok e
  exact dd.typeIs
 ·obtain⟨_,_,xs,_,dd⟩:=c1p I.hok e
  exact dd.typeIs
def n1u (td ty:TE):TE:=fun σ H Q=>td σ H fun x H1=>ty σ H1 fun y H2=>∃a v,x = .ref a/\DGet H2 a y (some v)/\Q v H2
def tDIn (ty td:TE):TE:=fun σ H Q=>ty σ H fun y H1=>td σ H1 fun x H2=>∃a o,x = .ref a/\DGet H2 a y o/\Q (.bl o.isSome) H2
def l1f (td ty tv:TE):TS:=fun D σ H=>tv σ H fun v H1=>td σ H1 fun x H2=>ty σ H2 fun y H3=>∃a H4,x = .ref a/\DPut H3 a y v H4/\D.nx σ H4
section
variable {X:Cx}{o i e value:Expr}{pos pos' tpos:Pos}{td ty tv:TE}
theorem m0i (hu:X.A.units+1<cLine)(ho:PE X o td)(hi:PE X i ty)(hs:NoSl i):PE X (.Subscript o i pos) (n1u td ty):=by
 intro pins s σ H Q I h
 refine i1a PySem.F.slot_dict_getitem.lookup hs (thn (ho pins s σ H _ I h) fun u s1 ⟨x,H1,I1,rx,q1⟩=>thn (hi pins s1 σ H1 _ I1 q1) fun iv s2 ⟨y,H2,I2,ry,a,v,ex,g,q2⟩=>?_)
 subst ex
 obtain rfl:u=Value.ref a:=rx
 exact⟨u0u I2 g,c1s hu I2 g ry fun w' s3 I3 rw'=>⟨v,H2,I3,rw',q2⟩⟩
theorem g1s (hu:X.A.units+1<cLine)(hi:PE X i ty)(ho:PE X o td):PC X .In i o (tDIn ty td):=by
 intro pins s σ H Q I h
 refine thn (hi pins s σ H _ I h) fun iv s1 ⟨y,H1,I1,ry,q1⟩=>thn (ho pins s1 σ H1 _ I1 q1) fun u s2 ⟨x,H2,I2,rx,a,ov,ex,g,q2⟩=>?_
 subst ex
 obtain rfl:u=Value.ref a:=rx
 exact d_in hu I2 g ry fun s3 I3=>⟨.bl ov.isSome,H2,I3,rfl,q2⟩
theorem m0g (hu:X.A.units+1<cLine)(ho:PE X o td)(hi:PE X i ty)(hv:PE X value tv)(hs:swapsWith value (some (.Subscript o i pos')) pos.line X.env=pure false) :
  PS X (.Assign [.Subscript o i pos'] value pos) (l1f td ty tv):=by
 intro pins s σ H D I h
 refine wpAny_Assign_Subscript (thn (hv pins s σ H _ I h) fun r s1 ⟨v,H1,I1,rv,q1⟩=>thn (ho pins s1 σ H1 _ I1 q1) fun u s2 ⟨x,H2,I2,rx,q2⟩=>thn (hi pins s2 σ H2 _ I2 q2) fun iv s3 ⟨y,H3,I3,ry,a,H4,ex,g,q3⟩=>?_) hs
 subst ex
 obtain rfl:u=Value.ref a:=rx
 exact c1r hu I3 g ry rv fun s4 I4=>⟨σ,H4,I4,q3⟩
end
theorem x0b {P:Program}{w:World}{H:Hp}(h:Heap)(hb:sysModules<h.objs.size):d0y P w H (h.push {cls:=.type "dict",data:=.dict #[]}) h.objs.size (.dK []) :=
 ⟨Nat.zero_le _,beq_eq_false_iff_ne.mpr (Ne.symm (Nat.ne_of_lt hb)),[],.nil,Heap.DictOf.new h⟩
def tDNewK:TE:=fun _ H Q=>∀p,H p=none->Q (.ref p) (upd H p (.dK []))
section
variable {X:Cx}{pos:Pos}
theorem e1q:PE X (.Dict [] [] pos) tDNewK:=fun pins s σ H Q I h =>
 wpAny_Dict_empty ⟨.ref s.heap.objs.size,_,I.laid (a:=s.heap.objs.size) (o:=.dK []) (t':=s.toks) (fun _ _ q=>Heap.get?_push_of_some _ q) (Nat.le_refl _) (x0b s.heap I.big),rfl,h _ (I.hok.fresh (Nat.le_refl _))⟩
end
def z0r:List (TE×TE)->St->Hp->(List (V×V)->Hp->Prop)->Prop
 | [],_,H,Q=>Q [] H
 | (tk,tv)::r,σ,H,Q=>tk σ H fun x H1=>tv σ H1 fun y H2=>z0r r σ H2 fun ps H3=>Q ((x,y)::ps) H3
abbrev VV:List (V×V)->List (Value×Value)->Prop:=Paired fun p q=>RelV p.1 q.1/\RelV p.2 q.2
def PPs (X:Cx)(pos:Pos)(keys:List (Option Expr))(values:List Expr)(trs:List (TE×TE)):Prop :=
 ∀(pins:List (Addr×Obj)) (s:Shared) (σ:St) (H:Hp) (Q:List (V×V)->Hp->Prop),Inv X pins σ H s->z0r trs σ H Q ->
  wpAny (model X.prog X.w) X.A (evalPairs (pairTrees keys values X.env pos)) (fun vs s'=>∃ps H',Inv X pins σ H' s'/\VV ps vs/\Q ps H') X.xe s
theorem i1m {X:Cx}{pos:Pos}:PPs X pos [] [] []:=fun pins s σ H Q I h=>pairTrees_nil_walk ⟨[],H,I,.nil,h⟩
theorem p0g {X:Cx}{pos:Pos}{k v:Expr}{ks:List (Option Expr)}{vs:List Expr}{tk tv:TE}{trs:List (TE×TE)}(hk:PE X k tk)(hv:PE X v tv)(hr:PPs X pos ks vs trs) :
  PPs X pos (some k::ks) (v::vs) ((tk,tv)::trs):=fun pins s σ H Q I h =>
 pairTrees_cons_walk (thn (hk pins s σ H _ I h) fun u s1 ⟨x,H1,I1,rx,q1⟩=>thn (hv pins s1 σ H1 _ I1 q1) fun w2 s2 ⟨y,H2,I2,ry,q2⟩ =>
  thn (hr pins s2 σ H2 _ I2 q2) fun ws s3 ⟨ps,H3,I3,rel,q3⟩=>⟨(x,y)::ps,H3,I3,.cons ⟨rx,ry⟩ rel,q3⟩)
def m0p (kvs more:List (Key×V)):List (Key×V):=more.foldl (fun acc kv=>putK acc kv.1 kv.2) kvs
theorem KV.merge:∀ {more:List (Key×V)} {rs:List (Key×Value)} {kvs:List (Key×V)} {vs:List (Key×Value)},KV more rs->KV kvs vs->KV (m0p kvs more) (merged vs rs):=by
 intro more rs kvs vs r
 unfold KV at r
 induction r generalizing kvs vs with
 | nil=>intro q;exact q
 | @cons p q ps qs h t ih =>
  intro r0
  have e:KV (putK kvs p.1 p.2) (stored vs q.1 q.2):=by
   have:=r0.put p.1 h.2
   rw[<- h.1];exact this
  exact ih e
theorem j0u:∀(more kvs:List (Key×V)),(m0p kvs more).length<=kvs.length+more.length
 | [],kvs=>by show kvs.length<=kvs.length+0;omega
 | p::r,kvs=>by
  have h1:=j0u r (putK kvs p.1 p.2)
  have h2:=h0e kvs p.1 p.2
  show(m0p (putK kvs p.1 p.2) r).length<=_
  rw[List.length_cons];omega
theorem o0w {P:Program}{w:World}:∀ {kvs:List (Key×V)} {ws:List (Value×Value)},VV (kvs.map fun kv=>(kV kv.1,kv.2)) ws->∃rs,Carries (c0j P w) ws rs/\KV kvs rs
 | [],_,r=>by rw[List.map_nil]at r;cases r;exact⟨[],True.intro,.nil⟩
 | p::kvs,_,r=>by
  rw[List.map_cons]at r
  cases r with
  | @cons a b as bs h t =>
   obtain⟨rs,c,q⟩:=o0w (P:=P) (w:=w) t
   obtain⟨b1,b2⟩:=b
   exact⟨(p.1,b2)::rs,⟨u0m h.1,rfl,c⟩,.cons ⟨rfl,h.2⟩ q⟩
def n1t (trs:List (TE×TE)):TE:=fun σ H Q=>∀p,H p=none->z0r trs σ (upd H p (.dK [])) fun ps H2=>H2 p=some (.dK [])/\∃kvs:List (Key×V),ps=kvs.map (fun kv=>(kV kv.1,kv.2))/\kvs.length<=15/\Q (.ref p) (upd H2 p (.dK (m0p [] kvs)))
theorem i1n {X:Cx}{pos:Pos}{keys:List (Option Expr)}{values:List Expr}{trs:List (TE×TE)}(h:PPs X pos keys values trs)(hall:keys.all (·.isSome)=true)(hl:keys.length=values.length)(h0:keys≠[])
  (h15:keys.length<=15):PE X (.Dict keys values pos) (n1t trs):=by
 intro pins s σ H Q I q
 have hn:=I.hok.fresh (Nat.le_refl s.heap.objs.size)
 have I1:=I.laid (a:=s.heap.objs.size) (o:=.dK []) (h':=s.heap.push {cls:=.type "dict",data:=.dict #[]}) (t':=s.toks) (fun _ _ q=>Heap.get?_push_of_some _ q) (Nat.le_refl _) (x0b s.heap I.big)
 refine wpAny_Dict_walk (knd:=c0j X.prog X.w) hall hl h0 h15 (thn (h pins _ σ _ _ I1 (q _ hn)) fun ws s2 ⟨ps,H2,I2,rel,e,kvs,ep,lk,q2⟩=>?_)
 subst ep
 obtain⟨rs,c,rk⟩:=o0w (P:=X.prog) (w:=X.w) rel
 obtain⟨z,hd,vs0,r0,dd⟩:=j1t I2.hok e
 cases r0
 refine⟨rs,c,dd,fun h' dd' hs=>⟨.ref s.heap.objs.size,_,?_,rfl,q2⟩⟩
 have hz:(m0p [] kvs).length<=sizeLine:=by
  have h1:=j0u kvs []
  rw[List.length_nil]at h1
  rw[sizeLine_eq];omega
 have he:∃q,h'.get? s.heap.objs.size=some q:=let ⟨q,_,_,hq,_⟩:=dd';⟨q,hq⟩
 exact q0f I2 (by rw[e];exact True.intro) hs he (x0a hz hd (rk.merge .nil) dd')
structure M2 (X:Cx)(o:Expr)(m:Str)(apos:Pos)(e f:Expr)(cpos:Pos):Prop where
 base:attributeBase o m X.env (eval o X.env)=eval o X.env
 few:((backTo cpos (starEach [e,f] X.env)).all (fun x=>!x.1)&&(backToKw cpos (keywordEach [] X.env)).all (fun x=>x.1.isSome)
  && decide (([e,f]:List Expr).length+([]:List Keyword).length+(if([]:List Keyword).isEmpty then 0 else 1)<30))=true
 line:(apos.endLine==cpos.line)=true
 trees:backTo cpos (starEach [e,f] X.env)=[(false,eval e X.env),(false,eval f X.env)]
def IsD (H:Hp)(a:Addr):Prop:=(∃kvs,Rd H a (.dK kvs)) ∨ ∃kvs,Rd H a (.dT kvs)
theorem m1o {X:Cx}{pins:List (Addr×Obj)}{σ:St}{H:Hp}{s:Shared}{a:Addr}(I:Inv X pins σ H s)(d:IsD H a) :
  s.TypeIs (.ref a) "dict" /\ (∀b,Value.ref a = .ref b->∃ob,s.heap.get? b=some ob/\ob.dict=none)/\(a==sysModules)=false:=by
 rcases d with⟨kvs,e⟩ | ⟨kvs,e⟩
 ·obtain⟨_,hd,vs,_,dd⟩:=c1q I.hok e
  refine⟨dd.typeIs,fun b q=>?_,hd⟩
  cases q
  obtain⟨ob,_,_,h1,h2,_⟩:=dd
  exact⟨ob,h1,h2.2.1⟩
 ·obtain⟨_,hd,xs,_,dd⟩:=c1p I.hok e
  refine⟨dd.typeIs,fun b q=>?_,hd⟩
  cases q
  obtain⟨ob,_,_,h1,h2,_⟩:=dd
  exact⟨ob,h1,h2.2.1⟩
end L2
namespace Att
open PySem PySem.W PySem.Calls PyProof.Rows
theorem m0u {P:Params}{h:Heap}:∀(ns:List Int) (vs:List Value),WellAll P h vs (ns.map WData.int)->IntsAre vs ns:=by
 intro ns
 induction ns with
 | nil =>
  intro vs w
  rw[List.map_nil]at w
  cases w
  exact .nil
 | cons n ns ih =>
  intro vs w
  rw[List.map_cons]at w
  cases w with
  | cons a b =>
   cases a
   exact .cons _ _ (ih _ b)
theorem a1b {l:OpenLaw}{n:Nat}(hn:l.most=some n){P:Params}{h:Heap}{args:List WData}{vals:List Value}
  (hpre:l.row.toRowW.claim.pre args=true) (hwl:WellAll P h vals args) :
  ∃a vs ns,vals=[Value.ref a]/\args=[WData.list (ns.map WData.int)]/\h.get? a=some {cls:=.type "list",data:=.seq vs.toArray}/\IntsAre vs ns/\ns.length<=n:=by
 have hsh:WShape.hasAll [] args [.list .int]=true:=(pre_splitW hpre).1
 have hc:l.pre.holds [] {args:=args}=true:=(pre_splitW hpre).2
 obtain⟨d,r,rfl,h1,h2⟩:=hasAllW_cons hsh
 obtain rfl:=hasAllW_nil h2
 obtain⟨xs,rfl,h3⟩:=hasW_list h1
 obtain⟨ns,rfl⟩:=items_int h3
 have hlen:ns.length<=n:=by
  unfold OpenLaw.pre at hc
  have h4:(WTm.not (.lt (.lit (.int (n:Int))) (.len (.arg 0)))).holds [] {args:=[.list (ns.map .int)]}=true:=by
   have h4:=(holds_andW hc).1
   rw[hn]at h4
   exact h4
  have h5:=condW_of h4 (w_not (w_lt w_lit (w_len_list (w_arg rfl))))
  rw[List.length_map]at h5
  refine Nat.le_of_not_lt fun q=>?_
  have q':(n:Int)<((ns.length:Nat):Int):=by omega
  first
   | (rw[decide_eq_true q']at h5;exact absurd h5 (by decide))
   | (simp at h5;omega)
 cases hwl with
 | cons w1 w2 =>
  cases w2
  cases w1 with
  | list ho hall=>exact⟨_,_,ns,rfl,rfl,ho,m0u ns _ hall,hlen⟩
theorem a1l (l:OpenLaw)(args:List WData):l.row.toRowW.claim.post args (.bool true) args=true :=
 postW_of (r:=l.row.toRowW) (X:=(true==true))
  (show WShape.has [] (.bool true) .bool=true by first | rfl | decide | simp[WShape.has,WShape.arms,WShape.armsAll])
  (show(WTm.eq .res (.lit (.bool true))).value [] {args:=args,res:=some (.bool true),after:=args}=some (.bool (true==true))from w_eq_bool (w_res rfl) w_lit) rfl
theorem attach_call {l:OpenLaw}{n:Nat}{q:Program}{loose:List Str}{XP:(Str->Option Value)->Heap->Prop}{YP:World->Heap->Prop}{d:DefRec}
  (hn:l.most=some n) (hdf:d.params.defaults=[])
  (call:∀(w:World) (s₀ s₁:Shared) (mg mb:Str->Option Value) (fa:Addr) (o:Obj) (pm cd doc:Value) (a:Addr) (vs:List Value) (ns:List Int),
   Ground q loose [] XP w s₀ mg mb s₁.heap->YP w s₁.heap ->
   s₁.heap.get? fa=some o->o.data = .func (docDef d.name d.params d.body d.scope pm cd doc)->s₁.heap.CodeRec cd d.name->mg d.name=some (.ref fa) ->
   s₁.heap.get? a=some {cls:=.type "list",data:=.seq vs.toArray}->IntsAre vs ns->ns.length<=n->s₁.gens = #[] ->
   codeAny (model l.prog w) callerA (.call (.ref fa) ⟨[.ref a],[]⟩) (fun r s'=>r = .ok (.ret (.bool true))/\OldK s₁.heap s'.heap/\s'.os=s₁.os/\AllBare s'.gens) s₁) :
  WalkO q loose XP YP l.row.toRowW d [] (fun f vs=>PySem.call f vs):=by
 intro w s₀ s₁ mg mb G Y fa o pm cd doc dV kV ho hd hcd hD hmg hg args vals as hpre hlay hrd hwl hlo
 obtain rfl:dV = .none:=Dflts.none hD hdf
 obtain rfl:kV = .none:=Dflts.noKw hD
 obtain⟨a,vs,ns,rfl,rfl,hobj,hints,hlen⟩:=a1b hn hpre hwl
 refine enter_call (codeAny_mono (call w s₀ s₁ mg mb fa o pm cd doc a vs ns G Y ho (fd_plain hd) hcd hmg hobj hints hlen hg) fun r s' hq=>?_)
 obtain⟨rfl,h2,h3,h4⟩:=hq
 exact⟨.inl ⟨.bool true,.bool true,[],rfl,fun _=>rfl,.bool true,a1l l _,fun _=>⟨List.Pairwise.nil,fun _ hm=>(nomatch hm)⟩⟩,h2,h3,h4⟩
end Att
namespace L2
open PySem PySem.Spec PyProof.Rows
theorem j0g:∀ {vs:List Value} {ns:List Int},IntsAre vs ns->Vals (ns.map V.int) vs
 | _,_,.nil=>.nil
 | _,_,.cons n t h=>.cons ⟨t,rfl⟩ (j0g h)
def Only (H:Hp):Prop:=∀b,H b=none ∨ ∃o xs,H b=some (.frz o (.lst xs))
theorem f1b {P:Program}{w:World}{K:PySem.W.Frag}{mg mb:Str->Option Value}{CX:CXT}{k:Nat}{fa a:Addr}{fd:FuncData}{x:Str}{sp:Sp}{s₁:Shared}{vs:List Value}{ns:List Int}
  (KX:K.In s₁.heap) (hns:s₁.heap.Ns mainGlobals mg) (hb:s₁.heap.Ns builtinsNs mb) (hbb:∀x:Str,x ≠ "__name__" -> mb x=bootBuiltins x) (hlim:s₁.heap.NoLimit) (hg:s₁.gens = #[])
  (ha:s₁.heap.get? a=some {cls:=.type "list",data:=.seq vs.toArray}) (hi:IntsAre vs ns) (hl:ns.length<=sizeLine) (hr:Room k callerA)
  (F:∀base:Heap,K.In base->base.Ns mainGlobals mg->FnOk P w K mg base CX k fa fd [x] sp) (hbind:∀(s:Shared) (u:Value),BindsTo s fd ⟨[u],[]⟩ [(x,u)])
  (hsp:∀H:Hp,Only H->SqL K H a (ns.map V.int)->sp [.ref a] H (fun v _=>v = .bl true) fun _ _ _=>False)
  (hCX:∀H e s',CX [] H s₁ (fun _ _ _=>False) e s'->False) :
  codeAny (model P w) callerA (.call (.ref fa) ⟨[.ref a],[]⟩) (fun r s'=>r = .ok (.ret (.bool true))/\OldK s₁.heap s'.heap/\s'.os=s₁.os/\AllBare s'.gens) s₁:=by
 have rv:=j0g hi
 have lenV:=hi.length
 have core:∀H:Hp,Only H->SqL K H a (ns.map V.int)->HOk P w H s₁.heap->(∀b,H b≠none->b=a)->(H a≠none->K.lookup a=none) ->
   codeAny (model P w) callerA (.call (.ref fa) ⟨[.ref a],[]⟩) (fun r s'=>r = .ok (.ret (.bool true))/\OldK s₁.heap s'.heap/\s'.os=s₁.os/\AllBare s'.gens) s₁:=by
  intro H hO hS hok hA hK
  have base_of:∀ {b:Addr} {o:Obj},s₁.heap.get? b=some o->H b=none->(hidT s₁.heap H).get? b=some o:=fun e n=>f1f e n
  have noA:∀ {b:Addr} {o:Obj} {es:Array DictEntry} {ep:Nat},s₁.heap.get? b=some o->o.data = .dict es ep->H b=none:=fun{b o es ep} e d=>by
   cases q:H b with
   | none=>rfl
   | some u =>
    have e':b=a:=hA b (by rw[q];simp)
    subst e'
    rw[ha]at e;cases e
    have d':Data.seq vs.toArray _=Data.dict es ep:=d
    cases d'
  have nsK:∀ {b:Addr} {m:Str->Option Value},s₁.heap.Ns b m->(hidT s₁.heap H).Ns b m:=fun{b m} ⟨o,es,ep,e,d,r⟩=>⟨o,es,ep,base_of e (noA e d),d,r⟩
  have hKb:K.In (hidT s₁.heap H):=fun b o e=>base_of (KX b o e) (by
   cases q:H b with
   | none=>rfl
   | some u =>
    have e':b=a:=hA b (by rw[q];simp)
    subst e'
    rw[hK (by rw[q];simp)]at e;cases e)
  have hM:Mod K mg (hidT s₁.heap H):=⟨hKb,nsK hns,⟨mb,nsK hb,hbb⟩,let ⟨mc,h1,h2⟩:=hlim;⟨mc,nsK h1,h2⟩⟩
  have e0:Env0 P w K mg (hidT s₁.heap H) callerA [] s₁ H:=⟨rfl,hM,fun b o e=>i1u e,Nat.le_of_eq (b1w _ _),trivial,fun b hb=>absurd (show b∈([]:List Addr)from hb) (by simp),hok,.of_eq hg⟩
  refine codeAny_mono ((F _ hKb (nsK hns)).run callerA [] s₁ H ⟨[.ref a],[]⟩ [.ref a] [.ref a] _ _ hr e0 (hbind s₁ (.ref a)) (.cons rfl .nil) (hsp H hO hS)) fun r s' h=>?_
  cases r with
  | error e=>exact(hCX H e s' h).elim
  | ok fl =>
   cases fl with
   | next=>exact False.elim h
   | brk=>exact False.elim h
   | cont=>exact False.elim h
   | ret u =>
    obtain⟨v,H',os,bare,un,hok',r',q⟩:=h
    have q':v = .bl true:=q
    subst q'
    obtain rfl:u=Value.bool true:=r'
    refine⟨rfl,OldK.of_keep fun b o e=>?_,os,bare⟩
    cases q:H b with
    | none=>exact un.keep b o e q (by intro z;exact absurd (show b∈([]:List Addr)from z) (by simp)) (by simp)
    | some u =>
     rcases hO b with z | ⟨ob,xs,z⟩
     ·rw[q]at z;cases z
     ·have z2:=un.frzs b ob _ z
      obtain⟨e1,_⟩:=hok b _ z
      obtain⟨e2,_⟩:=hok' b _ z2
      rw[e]at e1;cases e1
      exact e2
 cases hk:K.lookup a with
 | some o =>
  have e:=KX a o hk
  rw[ha]at e
  cases e
  refine core (fun _=>none) (fun _=>.inl rfl) (.inr ⟨_,vs.toArray,_,hk,rfl,rfl,rfl,by rw[List.size_toArray,lenV];exact hl,by simpa using rv⟩) (fun b u z=>by have z':(none:Option HO)=some u:=z;cases z') (fun b z=>absurd rfl z) fun z=>absurd rfl z
 | none =>
  refine core (fun b=>if b=a then some (.frz {cls:=.type "list",data:=.seq vs.toArray} (.lst (ns.map V.int)))else none) (fun b=>?_) (.inl (.inr ⟨{cls:=.type "list",data:=.seq vs.toArray},if_pos rfl⟩)) (fun b u z=>?_) (fun b z=>?_) fun _=>hk
  ·by_cases hb:b=a
   ·exact .inr ⟨_,_,if_pos hb⟩
   ·exact .inl (if_neg hb)
  ·by_cases hb:b=a
   ·have z':=(if_pos hb).symm.trans z
    cases z'
    subst hb
    exact⟨ha,by rw[List.length_map];exact hl,vs,_,rv,ha⟩
   ·have z':=(if_neg hb).symm.trans z
    cases z'
  ·by_cases hb:b=a
   ·exact hb
   ·exact absurd (if_neg hb) z
abbrev KOf {K:PySem.W.Frag}{h:Heap}(_:K.In h):PySem.W.Frag:=K
theorem h1q {l:PySem.W.OpenLaw}{n k:Nat}{q:Program}{loose:List Str}{XP:(Str->Option Value)->Heap->Prop}{YP:World->Heap->Prop}{d:DefRec}{K:Params->PySem.W.Frag}{CX:World->CXT}{sp:World->Sp}{x:Str}
  (hn:l.most=some n) (hn2:n<=sizeLine) (hdf:d.params.defaults=[]) (hr:Room k callerA)
  (hY:∀(w:World) (h:Heap),YP w h->(K w.params).In h)
  (F:∀(w:World) (mg:Str->Option Value) (fa:Addr) (h:Heap),(K w.params).In h->h.Ns mainGlobals mg->mg d.name=some (.ref fa) ->
   ∃fd:FuncData,(∀(s:Shared) (u:Value),BindsTo s fd ⟨[u],[]⟩ [(x,u)]) /\
    ∀base:Heap,(K w.params).In base->base.Ns mainGlobals mg->FnOk l.prog w (K w.params) mg base (CX w) k fa fd [x] (sp w))
  (hsp:∀(w:World) (H:Hp) (a:Addr) (ns:List Int),ns.length<=n->Only H->SqL (K w.params) H a (ns.map V.int)->sp w [.ref a] H (fun v _=>v = .bl true) fun _ _ _=>False)
  (hCX:∀(w:World) (H:Hp) (s:Shared) (e:Value) (s':Shared),CX w [] H s (fun _ _ _=>False) e s'->False) :
  PySem.W.WalkO q loose XP YP l.row.toRowW d [] (fun f vs=>PySem.call f vs):=by
 refine Att.attach_call hn hdf fun w s₀ s₁ mg mb fa o pm cd doc a vs ns G Y ho hd hcd hmg hobj hints hlen hg=>?_
 have KX:=hY w _ Y
 obtain⟨fd,hb,hF⟩:=F w mg fa _ KX G.T.g hmg
 exact f1b KX G.T.g G.T.b G.T.builtins G.T.nolimit hg hobj hints (Nat.le_trans hlen hn2) hr hF hb (fun H hO hS=>hsp w H a ns hlen hO hS) fun H e s'=>hCX w H s₁ e s'
theorem d1u {l:PySem.W.OpenLaw}{n k:Nat}{q:Program}{loose:List Str}{XP:(Str->Option Value)->Heap->Prop}{YP:World->Heap->Prop}{d:DefRec}{K:Params->PySem.W.Frag}{CX:CXT}{sp:PySem.W.Frag->Sp}{x:Str}
  (hn:l.most=some n) (hn2:n<=sizeLine) (hdf:d.params.defaults=[]) (hr:Room k callerA)
  (hY:∀(w:World) (h:Heap),YP w h->(K w.params).In h)
  (F:∀(w:World) (mg:Str->Option Value) (fa:Addr) (h:Heap),(K w.params).In h->h.Ns mainGlobals mg->mg d.name=some (.ref fa) ->
   ∃fd:FuncData,(∀(s:Shared) (u:Value),BindsTo s fd ⟨[u],[]⟩ [(x,u)]) /\
    ∀base:Heap,(K w.params).In base->base.Ns mainGlobals mg->FnOk l.prog w (K w.params) mg base CX k fa fd [x] (sp (K w.params)))
  (hsp:∀(K:PySem.W.Frag) (H:Hp) (a:Addr) (ns:List Int),ns.length<=n->Only H->SqL K H a (ns.map V.int)->sp K [.ref a] H (fun v _=>v = .bl true) fun _ _ _=>False)
  (hCX:∀(H:Hp) (s:Shared) (e:Value) (s':Shared),CX [] H s (fun _ _ _=>False) e s'->False) :
  PySem.W.WalkO q loose XP YP l.row.toRowW d [] (fun f vs=>PySem.call f vs) :=
 h1q (K:=K) (CX:=fun _=>CX) (sp:=fun w=>sp (K w.params)) hn hn2 hdf hr hY F (fun w H a ns h1 h2 h3=>hsp (K w.params) H a ns h1 h2 h3) fun _ H s e s'=>hCX H s e s'
def m0y (s:Stmt):Arguments:=match s with
 | .FunctionDef _ a _ _ _ _ _ _ _ _=>a
 | _=>{posonlyargs:=[],args:=[],vararg:=none,kwonlyargs:=[],kw_defaults:=[],kwarg:=none,defaults:=[]}
def h0h (s:Stmt):List Stmt:=match s with
 | .FunctionDef _ _ b _ _ _ _ _ _ _=>b
 | _=>[]
def a0i (s:Stmt):Scope:=match s with
 | .FunctionDef _ _ _ _ _ _ sc _ _ _=>sc
 | _=>{kind:=.function,names:=[],isGenerator:=false,isCoroutine:=false}
abbrev CX0:CXT:=fun _ _ _ _ _ _=>False
abbrev E0:XK:=fun _ _ _=>False
theorem n1y {X:Cx}:d1p CX0 X E0:=fun _ _ _ _ _ _ _ h=>h.elim
structure Fun (K:PySem.W.Frag)(x qual:Str)(st:Stmt)(f:Addr)(fd:FuncData):Prop where
 ex:∃(oc:Value) (od:Option Addr) (kV doc pm:Value) (an:Option Addr) (cdv ct:Value) (osl:Array (Option Value)),
  fd=PySem.W.fnOf x qual (m0y st) (h0h st) (a0i st) .none kV doc pm an cdv ct/\K.lookup f=some ⟨oc,od,.func fd,osl⟩/\PySem.W.codeIn K cdv qual=true
 kp:PySem.W.keepIn K (.ref f)=true
section
variable {P:Program}{w:World}{K:PySem.W.Frag}{mg:Str->Option Value}{base:Heap}
theorem Fun.ok {x qual:Str}{st:Stmt}{f:Addr}{fd:FuncData}{N ps:List Str}{k:Nat}{sp:Sp}(F:Fun K x qual st f fd)(S:b0a N ps (a0i st))(len:∀vs H Q E,sp vs H Q E->vs.length=ps.length)
  (hbody:∀(cdv:Value) (A:Around) (outer:List Env) (s:Shared) (H:Hp) (vs:List V) (Q:VK) (E:XK),Room k (A.deeper (envOfC qual (a0i st) s.heap.objs.size f cdv))->sp vs H Q E ->
   ∃t,PSs (cxOf CX0 P w K mg base N qual (a0i st) f cdv A outer s H E).nox (h0h st) t/\t {nx:=fun _ H'=>Q .non H',rt:=Q} (start N vs) H):FnOk P w K mg base CX0 (k+1) f fd ps sp:=by
 obtain⟨oc,od,kV,doc,pm,an,cdv,ct,osl,rfl,lk,hcd⟩:=F.ex
 refine o1f lk hcd S len fun A outer s H vs Q E hr hsp=>?_
 obtain⟨t,h,q⟩:=hbody cdv A outer s H vs Q E hr hsp
 exact⟨t,h.nox,q⟩
theorem m1x {x qual:Str}{st:Stmt}{f:Addr}{oc:Value}{od an:Option Addr}{osl:Array (Option Value)}{kV doc pm cdv ct:Value}(l:K.lookup f=some ⟨oc,od,.func (PySem.W.fnOf x qual (m0y st) (h0h st) (a0i st) .none kV doc pm an cdv ct),osl⟩)
  (c:PySem.W.codeIn K cdv qual=true) (k:PySem.W.keepIn K (.ref f)=true):Fun K x qual st f (PySem.W.fnOf x qual (m0y st) (h0h st) (a0i st) .none kV doc pm an cdv ct):=⟨⟨oc,od,kV,doc,pm,an,cdv,ct,osl,rfl,l,c⟩,k⟩
end
theorem d0x {A:Around}{k:Nat}(hr:Room k A):A.units+1<cLine:=Nat.lt_of_le_of_lt (Nat.add_le_add_left (by decide:1<=64) _) hr.units
theorem g0d {n:Nat}(h:n<=1000):n<sizeLine:=Nat.lt_of_le_of_lt h (by decide)
section
variable {X:Cx}
theorem pv (i:Nat){x:Str}{pos:Pos}(hN:X.N[i]? = some x:=by rfl)(hv:Vis X.env.scope x:=by first | exact Or.inl rfl | exact Or.inr (Or.inl rfl) | exact Or.inr (Or.inr rfl))(hd:(x==("__debug__" : Str))=false:=by decide)
  (hcd:(x==("__classdict__" : Str))=false:=by decide):PE X (.Name x pos) (tVar i):=l1s hN hv hd hcd
end
theorem iteT {A B:Prop}(h:A):if true=true then A else B:=by
 rw[if_pos rfl]
 exact h
theorem ite2 {c A B:Prop} [Decidable c](h1:c->A)(h2:¬c->B):if c then A else B:=by
 by_cases h:c
 ·rw[if_pos h]
  exact h1 h
 ·rw[if_neg h]
  exact h2 h
def Same (H H':Hp):Prop:=∀b o,H b=some o->H' b=some o
theorem Same.refl (H:Hp):Same H H:=fun _ _ h=>h
theorem Same.trans {H H1 H2:Hp}(a:Same H H1)(b:Same H1 H2):Same H H2:=fun c o h=>b c o (a c o h)
theorem Same.free {H H':Hp}(e:Same H H'){l:Addr}(h:H' l=Option.none):H l=Option.none:=by
 cases q:H l with
 | none=>rfl
 | some o =>
  rw[e l o q]at h
  cases h
theorem Same.seq {K:PySem.W.Frag}{H H':Hp}{a:Addr}{xs:List V}(e:Same H H')(h:SqL K H a xs):SqL K H' a xs:=by
 rcases h with(h | ⟨o,h⟩) | h
 ·exact .inl (.inl (e _ _ h))
 ·exact .inl (.inr ⟨o,e _ _ h⟩)
 ·exact .inr h
def i0a (cells:List (Str×Addr)):List (Str×NameKind)->List (Str×Addr)->List (Str×Addr)
 | [],cs=>cs
 | (n,k)::r,cs=>i0a cells r (if k == .free then(match cells.lookup n with | some c=>(n,c)::cs | none=>cs)else cs)
def e0v (scope:Scope)(env:Env):List (Str×Addr):=i0a env.cells scope.names []
theorem y0r (env:Env):∀(names:List (Str×NameKind)) (cs:List (Str×Addr)),(∀x∈names,x.2 = .free->∃c,env.cells.lookup x.1=some c) ->
  (forIn names cs fun(x:Str×NameKind) (r:List (Str×Addr))=>(if(x.2 == .free)=true then(do let a <- cellOf env x.1;pure (ForInStep.yield ((x.1,a)::r)))else pure (ForInStep.yield r):Sem (ForInStep (List (Str×Addr)))))=pure (i0a env.cells names cs):=by
 intro names
 induction names with
 | nil=>intro cs _;rfl
 | cons x r ih =>
  intro cs h
  obtain⟨n,k⟩:=x
  rw[List.forIn_cons]
  have hr:∀y∈r,y.2 = .free->∃c,env.cells.lookup y.1=some c:=fun y hy=>h y (List.mem_cons_of_mem _ hy)
  unfold i0a
  by_cases hk:k = .free
  ·subst hk
   obtain⟨c,hc⟩:=h (n,.free) List.mem_cons_self rfl
   have e:cellOf env n=pure c:=by unfold cellOf;rw[hc]
   rw[if_pos (show(NameKind.free==NameKind.free)=true from rfl),if_pos (show(NameKind.free==NameKind.free)=true from rfl),hc]
   show(cellOf env n>>=fun a=>_)>>=_=_
   rw[e]
   exact ih _ hr
  ·have hb:(k==NameKind.free)=false:=by simpa using hk
   rw[if_neg (show ¬(k==NameKind.free)=true by rw[hb];exact Bool.false_ne_true),if_neg (show ¬(k==NameKind.free)=true by rw[hb];exact Bool.false_ne_true)]
   exact ih _ hr
theorem f0j {scope:Scope}{env:Env}(h:∀x∈scope.names,x.2 = .free->∃c,env.cells.lookup x.1=some c):closureFor scope env=pure (e0v scope env):=by
 have run:=y0r env scope.names [] h
 unfold closureFor e0v
 have e:(forIn scope.names ([]:List (Str×Addr)) fun(x:Str×NameKind) (r:List (Str×Addr))=>(match x with
   | (name,kind)=>if(kind==NameKind.free)=true then(do let a <- cellOf env name;pure (ForInStep.yield ((name,a)::r)))else pure (ForInStep.yield r):Sem (ForInStep (List (Str×Addr)))))=pure (i0a env.cells scope.names []):=run
 show(forIn scope.names ([]:List (Str×Addr)) _>>=fun cs=>pure cs)=_
 exact(congrArg (fun m:Sem (List (Str×Addr))=>m>>=fun cs=>pure cs) e)
theorem o0u (cells:List (Str×Addr)):∀(names:List (Str×NameKind)) (cs:List (Str×Addr)),(∀p∈cs,cells.lookup p.1=some p.2)->∀p∈i0a cells names cs,cells.lookup p.1=some p.2
 | [],cs,h=>h
 | (n,k)::r,cs,h=>by
  unfold i0a
  refine o0u cells r _ fun p hp=>?_
  by_cases hk:(k==NameKind.free)=true
  ·rw[if_pos hk]at hp
   cases e:cells.lookup n with
   | none=>rw[e]at hp;exact h p hp
   | some c =>
    rw[e]at hp
    rcases List.mem_cons.mp hp with rfl | hp
    ·exact e
    ·exact h p hp
  ·rw[if_neg hk]at hp
   exact h p hp
theorem d0w {scope:Scope}{env:Env}{x:Str}{c:Addr}(h:(e0v scope env).lookup x=some c):env.cells.lookup x=some c :=
 o0u env.cells scope.names [] (fun _ z=>nomatch z) (x,c) (PySem.mem_of_lookup h)
theorem i0s {cs:List (Str×Addr)}{x:Str}{c:Addr}(h:(x,c)∈cs):∃d,cs.lookup x=some d:=by
 induction cs with
 | nil=>cases h
 | cons p r ih =>
  obtain⟨y,d⟩:=p
  by_cases e:x==y
  ·exact⟨d,by rw[List.lookup_cons,e]⟩
  ·rcases List.mem_cons.mp h with z | z
   ·cases z;simp at e
   ·obtain⟨d',q⟩:=ih z
    exact⟨d',by simp only[Bool.not_eq_true]at e;rw[List.lookup_cons,e];exact q⟩
theorem n0d (cells:List (Str×Addr)):∀(names:List (Str×NameKind)) (cs:List (Str×Addr)) (p:Str×Addr),p∈cs->p∈i0a cells names cs
 | [],_,_,h=>h
 | (n,k)::r,cs,p,h=>by
  unfold i0a
  refine n0d cells r _ p ?_
  split
  ·split
   ·exact List.mem_cons_of_mem _ h
   ·exact h
  ·exact h
theorem o0v (cells:List (Str×Addr)){x:Str}{c:Addr}(hc:cells.lookup x=some c):∀(names:List (Str×NameKind)) (cs:List (Str×Addr)),(x,NameKind.free)∈names->(x,c)∈i0a cells names cs
 | [],_,h=>nomatch h
 | (n,k)::r,cs,h=>by
  unfold i0a
  rcases List.mem_cons.mp h with z | z
  ·cases z
   refine n0d cells r _ _ ?_
   rw[if_pos (show(NameKind.free==NameKind.free)=true from rfl),hc]
   exact List.mem_cons_self
  ·exact o0v cells hc r _ z
theorem o0t {scope:Scope}{env:Env}{x:Str}{c:Addr}(h:(x,NameKind.free)∈scope.names)(hc:env.cells.lookup x=some c):(e0v scope env).lookup x=some c:=by
 obtain⟨d,e⟩:=i0s (o0v env.cells hc scope.names [] h)
 have e':(e0v scope env).lookup x=some d:=e
 rw[e',<- d0w e',hc]
def blk (X:Cx)(scope:Scope)(N:List Str)(s:Shared)(H:Hp)(C:Addr)(fp:List Addr):Cx where
 prog:=X.prog
 w:=X.w
 K:=X.K
 mg:=X.mg
 base:=X.base
 A:=X.A
 N:=N
 s₀:=s
 H₀:=H
 env:=compEnvC scope (e0v scope X.env) C X.env
 outer:=X.stack
 stack:=X.stack
 ex:=fp
 fn:=fun _=>false
 calm:=X.calm
 pn:=[]
 xe:=fun _ _=>False
def capt (σ:St)(js:List Nat):St:=js.map fun j=>(σ[j]?).getD none
def capN (N:List Str)(js:List Nat):List Str:=js.map fun j=>(N[j]?).getD ""
def bst (n:Nat)(σ:St)(js:List Nat):St:=List.replicate n none++capt σ js
theorem j0d {n:Nat}{σ:St}{js:List Nat}:(bst n σ js).length=n+js.length:=by unfold bst capt;simp
section
variable {P:Program}{w:World}{A:Around}{R:Result->Shared->Prop}{s:Shared}
theorem u0z {elt tg iter:Expr}{ifs:List Expr}{scope:Scope}{pos:Pos}{it acc:Value}{env:Env}(J:Nat->Shared->Prop)
  (turn:∀n s,J n s->wpAny (model P w) A (pyNext it) (fun r s1=>match r with
   | none=>R (.ok .next) s1
   | some v=>wpAny (model P w) A (letOwnedTupleGo tg it v) (fun _ s2=>wpAny (model P w) A (assign tg env v) (fun _ s3 =>
     wpAny (model P w) A (forIn ifs true fun c r=>if r=true then do let ok <- isTrue c env (eval c env);pure (ForInStep.yield ok)else pure (ForInStep.yield r)) (fun ok s4 =>
      if ok=true then wpAny (model P w) A (eval elt env) (fun x s5=>wpAny (model P w) A (call (.builtin "list.append") [acc,x]) (fun _ s6=>∃m,m<n/\J m s6) (fun _ _=>False) s5) (fun _ _=>False) s4
      else ∃m,m<n/\J m s4) (fun _ _=>False) s3) (fun _ _=>False) s2) (fun _ _=>False) s1) (fun _ _=>False) s)
  (n:Nat) (h:J n s):codeAny (model P w) A (.compLoop (.ListComp elt [⟨tg,iter,ifs,0⟩] scope pos) 0 it acc env) R s:=by
 have no:∀ {α:Type} {t:Sem α} {Q Q':α->Shared->Prop} {E:Value->Shared->Prop} {s:Shared},wpAny (model P w) A t Q (fun _ _=>False) s->(∀a s,Q a s->Q' a s)->wpAny (model P w) A t Q' E s :=
  fun h hq=>wpAny_mono h hq fun _ _ f=>f.elim
 refine codeAny_loop rfl J (fun n s hJ=>?_) n h
 show wpAny _ A ((compTurn (.ListComp elt [⟨tg,iter,ifs,0⟩] scope pos) 0 it acc env).onRaise (fun x=>do noteFrame x env;theTreesLotGoes x)) _ _ s
 refine wpAny_noted ?_
 rw[compTurn_list]
 refine wpAny_bind (wpAny_standAt (wpAny_bind (no (turn n s hJ) fun r s1 h1=>?_)))
 cases r with
 | none=>exact wpAny_pure h1
 | some v =>
  refine wpAny_bind (no h1 fun _ s2 h2=>wpAny_bind (no h2 fun _ s3 h3=>wpAny_bind (no h3 fun ok s4 h4=>?_)))
  cases ok with
  | false=>exact wpAny_pure ⟨rfl,h4⟩
  | true=>exact wpAny_bind (wpAny_bind (no h4 fun x s5 h5=>wpAny_bind (no h5 fun _ s6 h6=>wpAny_pure (wpAny_pure ⟨rfl,h6⟩))))
end
def PTs (X:Cx)(ifs:List Expr)(t:TT):Prop :=
 ∀(pins:List (Addr×Obj)) (s:Shared) (σ:St) (H:Hp) (Q:Bool->Hp->Prop),Inv X pins σ H s->t σ H Q ->
  wpAny (model X.prog X.w) X.A (forIn ifs true fun c r=>if r=true then do let ok <- isTrue c X.env (eval c X.env);pure (ForInStep.yield ok)else pure (ForInStep.yield r)) (TP X pins σ Q) X.xe s
def tAll:TT:=fun _ H Q=>Q true H
theorem d0e {X:Cx}:PTs X [] tAll:=fun _ _ _ H _ I h=>wpAny_tests_nil ⟨H,I,h⟩
theorem k0j {X:Cx}{c:Expr}{t:TT}(h:PT X c t):PTs X [c] t:=fun pins s σ H Q I hq=>wpAny_tests_one (h pins s σ H Q I hq)
def n1p (J:It)(n:Nat)(js:List Nat)(g:TG)(tc:TT)(te:TE)(Q:VK)(σ:St)(H1:Hp):Prop:=∃W:Nat->Nat->List V->Hp->Prop,(∃m,W 0 m [] H1)/\∀i m ys H,W i m ys H ->
 (J.stop i H/\ys.length<=sizeLine/\∀l,H l=none->Q (.ref l) (upd H l (.lst ys))) ∨
 (J.go i H/\ys.length<sizeLine/\∃N:List V->Hp->Prop,(∀zs H',N zs H'->∃m',m'<m/\W (i+1) m' zs H')/\∀x H',J.yld i H x H'->g x (bst n σ js) H' fun σ2 H2=>σ2.drop n=capt σ js/\tc σ2 H2 fun b H3 =>
  if b=true then te σ2 H3 fun v H4=>N (ys++[v]) H4 else N ys H3)
def z0t (n:Nat)(js:List Nat)(wi:TI)(g:TG)(tc:TT)(te:TE):TE:=fun σ H Q=>wi σ H fun J H1=>n1p J n js g tc te Q σ H1
section
variable {X:Cx}
structure Blk (X:Cx)(scope:Scope)(own:List Str)(js:List Nat):Prop where
 kind:scope.kind = .function
 nocell:∀y∈scope.names,y.2 ≠ .cell
 names:∀y∈scope.names,y.2 = .local->scope.names.lookup y.1=some .local
 free:∀y∈scope.names,y.2 = .free->X.env.kindOf y.1=some .cell∨X.env.kindOf y.1=some .free
 uniq:∀x,(x,NameKind.free)∈scope.names->scope.names.lookup x=some .free
 nd:(own++capN X.N js).Nodup
 cap:∀j∈js,j<X.N.length/\((X.N[j]?).getD "",NameKind.free)∈scope.names
def blkB (sc:Scope)(N:List Str)(scope:Scope)(own:List Str)(js:List Nat):Bool :=
 scope.kind == .function&&scope.names.all (fun y=>y.2 != .cell)&&scope.names.all (fun y=>y.2 != .local||scope.names.lookup y.1==some .local) &&
 scope.names.all (fun y=>y.2 != .free||sc.names.lookup y.1==some .cell||sc.names.lookup y.1==some .free)&&scope.names.all (fun y=>y.2 != .free||scope.names.lookup y.1==some .free) &&
 decide (own++capN N js).Nodup&&js.all (fun j=>decide (j<N.length)&&scope.names.any fun y=>y.1==(N[j]?).getD "" && y.2 == .free)
theorem Blk.of {scope:Scope}{own:List Str}{js:List Nat}(sc:Scope)(N:List Str)(h:blkB sc N scope own js=true:=by decide +kernel)(e1:X.env.scope=sc:=by rfl)(e2:X.N=N:=by rfl):Blk X scope own js:=by
 subst e1 e2
 unfold blkB at h
 simp only[Bool.and_eq_true,List.all_eq_true,decide_eq_true_eq,beq_iff_eq]at h
 obtain⟨⟨⟨⟨⟨⟨h1,h2⟩,h3⟩,h4⟩,h5⟩,h6⟩,h7⟩:=h
 refine⟨h1,fun y hy=>by simpa using h2 y hy,fun y hy e=>?_,fun y hy e=>?_,fun x hx=>?_,h6,fun j hj=>?_⟩
 ·have:=h3 y hy
  simpa [e] using this
 ·have:=h4 y hy
  simp only[e,bne_self_eq_false,Bool.false_or,Bool.or_eq_true,beq_iff_eq]at this
  exact this
 ·have:=h5 _ hx
  simpa using this
 ·obtain⟨a,b⟩:=h7 j hj
  refine⟨a,?_⟩
  obtain⟨y,hy,e⟩:=List.any_eq_true.mp b
  simp only[Bool.and_eq_true,beq_iff_eq]at e
  obtain⟨e1,e2⟩:=e
  rw[<- e1,<- e2]
  exact hy
theorem e0p {env:Env}:∀ {names:List (Str×NameKind)} {x:Str} {k:NameKind},
  (names.map fun(n,k)=>if(k==NameKind.free&&env.scope.kind == .function&&env.kindOf n==some .cell)then(n,NameKind.cell)else(n,k)).lookup x=some k->names.lookup x=some k∨(k = .cell/\names.lookup x=some .free)
 | [],_,_,h=>by simp at h
 | (n,q)::r,x,k,h=>by
  have ih:=@e0p env r x k
  cases hx:x==n with
  | true =>
   by_cases hc:(q==NameKind.free&&env.scope.kind == .function&&env.kindOf n==some .cell)=true
   ·simp only[List.map_cons,if_pos hc,List.lookup_cons,hx]at h
    cases h
    simp only[Bool.and_eq_true,beq_iff_eq]at hc
    obtain⟨⟨hq,_⟩,_⟩:=hc
    subst hq
    exact .inr ⟨rfl,by rw[List.lookup_cons,hx]⟩
   ·simp only[List.map_cons,if_neg hc,List.lookup_cons,hx]at h
    cases h
    exact .inl (by rw[List.lookup_cons,hx])
  | false =>
   have h':(r.map fun(n,k)=>if(k==NameKind.free&&env.scope.kind == .function&&env.kindOf n==some .cell)then(n,NameKind.cell)else(n,k)).lookup x=some k:=by
    by_cases hc:(q==NameKind.free&&env.scope.kind == .function&&env.kindOf n==some .cell)=true
    ·simp only[List.map_cons,if_pos hc,List.lookup_cons,hx]at h
     exact h
    ·simp only[List.map_cons,if_neg hc,List.lookup_cons,hx]at h
     exact h
   rcases ih h' with z | ⟨z,z'⟩
   ·exact .inl (by rw[List.lookup_cons,hx];exact z)
   ·exact .inr ⟨z,by rw[List.lookup_cons,hx];exact z'⟩
theorem v0f {scope:Scope}{own:List Str}{js:List Nat}{pins:List (Addr×Obj)}{σ:St}{H:Hp}{s:Shared}{fp:List Addr}{C:Addr}{h1:Heap}{tk:Nat}(B:Blk X scope own js)(I:Inv X pins σ H s)
  (hfp:∀b∈fp,FpOk X pins H b) (hfo:∀b∈fp,∃o,s.heap.get? b=some o) (hC:s.heap.objs.size<=C) (hns:h1.Ns C fun _=>none) (hk:∀b o,s.heap.get? b=some o->h1.get? b=some o) :
  Inv (blk X scope (own++capN X.N js) s H C fp) [] (bst own.length σ js) H {s with heap:=h1,toks:=tk}:=by
 have kindC:∀x,(blk X scope (own++capN X.N js) s H C fp).env.kindOf x=some .cell∨(blk X scope (own++capN X.N js) s H C fp).env.kindOf x=some .free->(x,NameKind.free)∈scope.names:=fun x hx=>by
  have hx':(relabel scope X.env).names.lookup x=some .cell∨(relabel scope X.env).names.lookup x=some .free:=hx
  rcases hx' with z | z
  ·rcases e0p z with q | ⟨_,q⟩
   ·exact absurd rfl (B.nocell _ (PySem.mem_of_lookup q))
   ·exact PySem.mem_of_lookup q
  ·rcases e0p z with q | ⟨_,q⟩
   ·exact PySem.mem_of_lookup q
   ·exact PySem.mem_of_lookup q
 have has:∀x,(x,NameKind.free)∈scope.names->∃c,X.env.cells.lookup x=some c:=fun x hx=>I.ok.has x (B.free (x,.free) hx rfl)
 have old:∀ {x c},(e0v scope X.env).lookup x=some c->X.env.cells.lookup x=some c:=fun e=>d0w e
 have cellLt:∀ {x c},X.env.cells.lookup x=some c->c<s.heap.objs.size:=fun{x c} e=>by
  obtain⟨v,o,ho,_⟩:=I.cell x c e
  exact Heap.lt_size ho
 have fpLt:∀b∈fp,b<s.heap.objs.size:=fun b hb=>let ⟨_,e⟩:=hfo b hb;Heap.lt_size e
 have fsOk:∀b∈frs X.stack,b∈X.env.locals::X.fs:=I.stkSub
 refine⟨⟨I.ok.mod,?_,I.ok.glob,I.ok.blt,hC,fun x y c e1 e2=>I.ok.inj x y c (old e1) (old e2),fun x hx=>?_,fun x c z _=>absurd z Bool.false_ne_true,I.ok.hd,I.ok.frames,.inl rfl,fun b hb=>⟨?_,fun x c e=>?_⟩,I.bs,Nat.le_trans I.ok.bsz I.sz,
   fun b o e hb=>?_,fun b hb hf=>?_,I.stack,I.stkFree⟩,rfl,I.bare,Un.kept hk,⟨_,hns,fun i x v e1 e2 e3=>?_⟩,fun x c e=>?_,?_,fun x c e=>I.freeC x c (old e),fun p hp=>absurd hp (by show p∉[]++[];simp),I.hok.kept hk,?_⟩
 ·show(relabel scope X.env).kind = .function
  exact B.kind
 ·obtain⟨c,e⟩:=has x (kindC x hx)
  exact⟨c,o0t (kindC x hx) e⟩
 ·exact Nat.ne_of_lt (Nat.lt_of_lt_of_le (fpLt b hb) hC)
 ·exact(hfp b hb).2.2.2.2.1 x c (old e)
 ·have e1:=I.bs b o e
  obtain⟨f0,f1,f2,f3,f4,f5⟩:=hfp b hb
  rcases f3 with z | z
  ·exact I.ok.noex b o e z
  ·exact absurd (Nat.lt_of_lt_of_le (Heap.lt_size (I.ok.bs b o e).1) z) (Nat.lt_irrefl _)
 ·obtain⟨f0,f1,f2,f3,f4,f5⟩:=hfp b hb
  rcases List.mem_cons.mp (fsOk b hf)with z | z
  ·exact f1 z
  ·exact f2 z
 ·-- a captured name's value
  have hi:own.length<=i:=by
   rcases Nat.lt_or_ge i own.length with z | z
   ·exfalso
    have e2':(List.replicate own.length (none:Option V)++capt σ js)[i]? = some (some v):=e2
    rw[List.getElem?_append_left (by simpa using z),List.getElem?_replicate]at e2'
    split at e2' <;> cases e2'
   ·exact z
  have e1':(own++capN X.N js)[i]? = some x:=e1
  have e2':(List.replicate own.length (none:Option V)++capt σ js)[i]? = some (some v):=e2
  rw[List.getElem?_append_right hi]at e1'
  rw[List.getElem?_append_right (by simpa using hi),List.length_replicate]at e2'
  unfold capN at e1'
  unfold capt at e2'
  rw[List.getElem?_map]at e1' e2'
  cases ej:js[i - own.length]? with
  | none=>rw[ej]at e1';cases e1'
  | some j =>
   rw[ej]at e1' e2'
   have e1'':(X.N[j]?).getD "" = x:=Option.some.inj e1'
   have e2'':(σ[j]?).getD none=some v:=Option.some.inj e2'
   obtain⟨hj,hm⟩:=B.cap j (List.mem_of_getElem? ej)
   have eN:X.N[j]? = some x:=by
    rw[List.getElem?_eq_getElem hj]at e1'' ⊢
    exact congrArg some e1''
   have eS:σ[j]? = some (some v):=by
    cases q:σ[j]? with
    | none=>rw[q]at e2'';cases e2''
    | some u=>rw[q]at e2'';exact congrArg some e2''
   rw[e1'']at hm
   obtain⟨m,_,hl⟩:=I.loc
   have hv:Vis X.env.scope x:=by
    rcases B.free (x,.free) hm rfl with z | z
    ·exact .inr (.inl z)
    ·exact .inr (.inr z)
   obtain⟨u,r,l⟩:=hl j x v eN eS hv
   obtain⟨c,hc⟩:=has x hm
   refine⟨u,r,.inr ⟨?_,c,o0t hm hc,?_⟩⟩
   ·rcases e3 with z | z | z
    ·exfalso
     have z':(relabel scope X.env).names.lookup x=some .local:=z
     rcases e0p z' with q | ⟨q,_⟩
     ·rw[B.uniq x hm]at q
      cases q
     ·cases q
    ·exact .inl z
    ·exact .inr z
   ·rcases l with⟨k1,_⟩ | ⟨k2,c2,e2,ic⟩
    ·rcases B.free (x,.free) hm rfl with t | t <;> (rw[k1]at t;cases t)
    ·rw[hc]at e2;cases e2
     obtain⟨o,ho,hd⟩:=ic
     exact⟨o,hk c o ho,hd⟩
 ·obtain⟨v,o,ho,hd⟩:=I.cell x c (old e)
  exact⟨v,o,hk c o ho,hd⟩
 ·exact I.hok.fresh hC
 ·rw[j0d]
  show _=(own++capN X.N js).length
  unfold capN
  simp
end
section
variable {X:Cx}
theorem Inv.young {pins:List (Addr×Obj)}{σ:St}{H:Hp}{s:Shared}{h':Heap}{c:Addr}(I:Inv X pins σ H s)(hs:Heap.SameBut c s.heap h')(hn:H c=none)(h1:X.s₀.heap.objs.size<=c)(hL:c≠X.env.locals)
  (h2:∀x d,X.env.cells.lookup x=some d->d≠c) (h3:∀p∈X.pn++pins,p.1≠c):Inv X pins σ H {s with heap:=h'} :=
 I.turned (t':=s.toks) (fun b o hb e=>(hs.2 b hb).trans e) hn hL (.inr h1) h2 h3
theorem Inv.track {pins:List (Addr×Obj)}{σ:St}{H:Hp}{s:Shared}{D:Addr}{ys:List V}{its:List Value}{n:Nat}(I:Inv X pins σ H s)(hn:H D=none)(h1:X.s₀.heap.objs.size<=D)(hL:D≠X.env.locals)
  (h2:∀x d,X.env.cells.lookup x=some d->d≠D) (h3:∀p∈X.pn++pins,p.1≠D) (hz:ys.length<=sizeLine) (r:Vals ys its) (e:s.heap.get? D=some {cls:=.type "list",data:=.seq its.toArray n}) :
  Inv X pins σ (upd H D (.lst ys)) s:=by
 have ne:∀ {b u},H b=some u->b≠D:=fun{b u} q=>b0k q hn
 refine⟨I.ok,I.os,I.bare,⟨I.base.keep,I.base.slot,fun b o q z hx=>?_,I.base.there,fun b xs q=>?_,fun b o u q=>?_,fun b ps q=>?_⟩,I.loc,I.cell,?_,fun x c q=>?_,fun p hp=>?_,fun b o q=>?_,I.len⟩
 ·rw[a0x (Nat.ne_of_lt (Nat.lt_of_lt_of_le (Heap.lt_size q) h1))]
  exact I.base.free b o q z hx
 ·have q':=I.base.tups b xs q
  rw[a0x (ne q')];exact q'
 ·have q':=I.base.frzs b o u q
  rw[a0x (ne q')];exact q'
 ·obtain⟨more,q'⟩:=I.base.tbls b ps q
  exact⟨more,by rw[a0x (ne q')];exact q'⟩
 ·rw[a0x (Ne.symm hL)];exact I.free
 ·rw[a0x (h2 x c q)];exact I.freeC x c q
 ·obtain⟨a1,a2,a3⟩:=I.pin p hp
  exact⟨a1,by rw[a0x (h3 p hp)];exact a2,a3⟩
 ·by_cases hb:b=D
  ·subst hb
   rw[b0l]at q
   cases q
   exact⟨hz,its,n,r,e⟩
  ·rw[a0x hb]at q
   refine(I.hok b o q).stay (fun _ _ _ z=>z) (fun c z=>?_) fun c xs z=>?_
   ·rw[a0x (ne z)];exact z
   ·rw[a0x (ne z)];exact z
def d1s (X:Cx)(pins:List (Addr×Obj))(σ:St)(Q:VK)(C:Addr)(acc:Value)(s':Shared):Prop :=
 ∃(D:Addr) (H:Hp) (m:Str->Option Value),acc = .ref D/\s'.heap.Ns C m/\Inv X pins σ H s'/\H C=none/\X.s₀.heap.objs.size<=C/\C≠X.env.locals/\(∀x d,X.env.cells.lookup x=some d->d≠C)/\(∀p∈X.pn++pins,p.1≠C)/\Q (.ref D) H
theorem o0s {elt tg iter:Expr}{ifs:List Expr}{scope:Scope}{pos:Pos}{own:List Str}{js:List Nat}{g:TG}{tc:TT}{te:TE}{Q:VK}{pins:List (Addr×Obj)}{σ:St}{s2:Shared}{itv:Value}{E:Value->Shared->Prop}
  {RR:Value->Addr->Result->Shared->Prop} (hc:X.calm=true) (B:Blk X scope own js) (hg:∀s H C fp,(own++capN X.N js).Nodup->PG (blk X scope (own++capN X.N js) s H C fp) tg g) (ht:∀s H C fp,PTs (blk X scope (own++capN X.N js) s H C fp) ifs tc)
  (he:∀s H C fp,PE (blk X scope (own++capN X.N js) s H C fp) elt te)
  (h:PIE X pins σ tg (fun J H1=>n1p J own.length js g tc te Q σ H1) itv s2)
  (hR:∀C acc s',d1s X pins σ Q C acc s'->RR acc C (.ok .next) s') :
  wpAny (model X.prog X.w) X.A (newList []) (fun acc s3=>wpAny (model X.prog X.w) X.A (newFunctionEnv scope X.env.globals (e0v scope X.env) [] X.env.qual none .none (some X.env)) (fun cenv s4 =>
   codeAny (model X.prog X.w) X.A (.compStart (.ListComp elt [⟨tg,iter,ifs,0⟩] scope pos) 0 itv acc {cenv with scope:=relabel scope X.env}) (RR acc cenv.locals) s4) E s3) E s2:=by
 obtain⟨it,fp,tn,J,H2,rfl,I2,T,st2,f2,W,⟨m0,w0⟩,turn⟩:=h
 refine wpAny_newObj_type (wpAny_newFunctionEnv B.nocell (by intro y hy;simp at hy) (fun h1 hns1 hsb1=>?_) B.kind)
 generalize hPu:s2.heap.push {cls:=.type "list",dict:=none,data:=.seq ([]:List Value).toArray}=Pu at hns1 hsb1 ⊢
 dsimp only at hns1 hsb1 ⊢
 have hDC:Pu.objs.size=s2.heap.objs.size+1:=by rw[<- hPu,Heap.size_push]
 generalize hD:s2.heap.objs.size=D at hDC ⊢
 have gD:Pu.get? D=some {cls:=.type "list",dict:=none,data:=.seq ([]:List Value).toArray}:=by
  rw[<- hPu,<- hD];exact Heap.get?_push_size _ rfl
 generalize hC:Pu.objs.size=C at hns1 hsb1 hDC ⊢
 have ltDC:D<C:=by rw[hDC];exact Nat.lt_succ_self D
 have neDC:D≠C:=Nat.ne_of_lt ltDC
 have keep1:∀b o,s2.heap.get? b=some o->h1.get? b=some o:=fun b o e=>by
  have hb:b<D:=by rw[<- hD];exact Heap.lt_size e
  have hb2:b≠C:=Nat.ne_of_lt (Nat.lt_trans hb ltDC)
  refine(hsb1.2 b hb2).trans (Heap.get?_push_of_some _ ?_)
  rw[<- hPu]
  exact Heap.get?_push_of_some _ e
 have gD1:h1.get? D=some {cls:=.type "list",dict:=none,data:=.seq ([]:List Value).toArray}:=(hsb1.2 D neDC).trans (Heap.get?_push_of_some _ gD)
 have szD:s2.heap.objs.size<=D:=Nat.le_of_eq hD
 have szC:s2.heap.objs.size<=C:=Nat.le_trans szD (Nat.le_of_lt ltDC)
 have old:∀ {b:Addr},b<s2.heap.objs.size->b≠D/\b≠C:=fun hb=>⟨Nat.ne_of_lt (Nat.lt_of_lt_of_le hb szD),Nat.ne_of_lt (Nat.lt_of_lt_of_le hb szC)⟩
 have fpo:∀b∈fp,∃o,s2.heap.get? b=some o:=fun b hb=>let ⟨o,e,_⟩:=T.obj 0 _ st2 b hb;⟨o,e⟩
 have fpD:∀b∈fp,b≠D/\b≠C:=fun b hb=>by
  obtain⟨o,e⟩:=fpo b hb
  exact old (Heap.lt_size e)
 have clD:∀x d,X.env.cells.lookup x=some d->d≠D/\d≠C:=fun x d e=>by
  obtain⟨v,o,ho,_⟩:=I2.cell x d e
  exact old (Heap.lt_size ho)
 have pinD:∀p∈X.pn++pins,p.1≠D/\p.1≠C:=fun p hp=>by
  exact old (Heap.lt_size (I2.pin p hp).1)
 have locD:D≠X.env.locals/\C≠X.env.locals:=by
  exact⟨(old I2.lt).1.symm,(old I2.lt).2.symm⟩
 let Y:=blk X scope (own++capN X.N js) s2 H2 C fp
 have IB:Inv Y [] (bst own.length σ js) H2 {s2 with heap:=h1,toks:=s2.toks+([]:List (Str×Value)).length}:=v0f B I2 f2 fpo szC hns1 keep1
 have fpB:∀ {H':Hp} {pl:List (Addr×Obj)},(∀b∈fp,H' b=none)->(∀p∈pl,p.1=D)->∀b∈fp,FpOk Y pl H' b:=fun{H' pl} hn hp b hb=>by
  obtain⟨f0,f1,f3,f4,f5,f6⟩:=f2 b hb
  refine⟨hn b hb,(fpD b hb).2,fun z=>?_,.inl hb,fun x c e=>f5 x c (d0w e),fun p q=>?_⟩
  ·rcases List.mem_cons.mp (I2.stkSub b z)with z | z
   ·exact f1 z
   ·exact f3 z
  ·have q':p∈pl:=by simpa [Y,blk] using q
   rw[hp p q']
   exact(fpD b hb).1.symm
 have clB:∀x d,Y.env.cells.lookup x=some d->d≠D:=fun x d e=>(clD x d (d0w e)).1
 have notFs:D∉Y.fs:=fun z=>by
  obtain⟨_,o,ho,_⟩:=IB.ok.funs.mem z
  exact(old (Heap.lt_size (show s2.heap.get? D=some o from ho))).1 rfl
 have loop:∀s3:Shared,s3={s2 with heap:=h1,toks:=s2.toks+([]:List (Str×Value)).length} ->
   codeAny (model X.prog X.w) X.A (.compLoop (.ListComp elt [⟨tg,iter,ifs,0⟩] scope pos) 0 (.ref it) (.ref D) (compEnvC scope (e0v scope X.env) C X.env)) (RR (.ref D) C) s3:=by
  rintro s3 rfl
  refine u0z (fun n s'=>∃(i:Nat) (ys:List V) (its:List Value) (k:Nat) (H':Hp),Inv Y [] (bst own.length σ js) H' s'/\tn i s'.heap/\(∀b∈fp,H' b=none)/\H' D=none/\Vals ys its /\
   s'.heap.get? D=some {cls:=.type "list",data:=.seq its.toArray k}/\W i n ys H') ?_ m0 ⟨0,[],[],0,H2,IB,T.keep 0 _ _ st2 (fun b hb o e=>keep1 b o e),fun b hb=>(f2 b hb).1,I2.hok.fresh szD,.nil,gD1,w0⟩
  rintro n s3 ⟨i,ys,its,k,H3,I3,st3,fr3,hD3,r3,g3,w3⟩
  have I3p:Inv Y [(D,{cls:=.type "list",data:=.seq its.toArray k})] (bst own.length σ js) H3 s3:=I3.pins_of fun p hp=>by
   have e:p=(D,{cls:=.type "list",data:=.seq its.toArray k}):=by simpa using hp
   subst e
   exact⟨g3,hD3,neDC,notFs,fun v z=>by cases z⟩
  have f3:∀b∈fp,FpOk Y [(D,{cls:=.type "list",data:=.seq its.toArray k})] H3 b:=fpB fr3 fun p hp=>by
   have e:p=(D,{cls:=.type "list",data:=.seq its.toArray k}):=by simpa using hp
   rw[e]
  rcases turn i n ys H3 w3 with⟨stop,hz,qn⟩ | ⟨go,hz,N,hN,step⟩
  ·refine thn (T.done Y rfl rfl rfl hc i _ s3 _ H3 (fun _ _=>False) I3p f3 st3 stop) fun r s4 ⟨hr,I4⟩=>?_
   subst hr
   refine hR C _ s4 ?_
   have g4:=(I4.pin (D,{cls:=.type "list",data:=.seq its.toArray k}) (by simp[Y,blk])).1
   obtain⟨m,hn4,_⟩:=id I4.loc
   have un:Un (frs X.stack) fp H2 H3 s2.heap s4.heap:=I4.base
   have I5:Inv X pins σ H3 s4:=I2.call' I4.os un I4.hok I4.bare fun b hb=>let ⟨_,b1,_,b3,b4,b5⟩:=f2 b hb;⟨b3,b1,b4,b5⟩
   have I6:=I5.track (ys:=ys) (its:=its) (n:=k) hD3 (Nat.le_trans I2.sz szD) locD.1 (fun x d e=>(clD x d e).1) (fun p hp=>(pinD p hp).1) hz r3 g4
   refine⟨D,_,m,rfl,hn4,I6,?_,Nat.le_trans I2.sz szC,locD.2,fun x d e=>(clD x d e).2,fun p hp=>(pinD p hp).2,qn D hD3⟩
   rw[a0x (Ne.symm neDC)]
   exact I4.free
  ·refine thn (T.item Y rfl rfl rfl hc i _ s3 _ H3 (fun _ _=>False) I3p f3 st3 go) fun r s4 ⟨u,hr,h4⟩=>?_
   subst hr
   refine thn h4 fun _ s5 ⟨x,H5,I5,r5,y5,st5,fr5⟩=>?_
   have f5:∀b∈fp,FpOk Y [(D,{cls:=.type "list",data:=.seq its.toArray k})] H5 b:=fun b hb=>⟨fr5 b hb,(f3 b hb).2⟩
   have I5':=I5.pinned f5 (T.obj _ _ st5)
   refine thn (hg s2 H2 C fp B.nd _ s5 _ H5 x u _ I5' r5 (step x H5 y5)) fun _ s6 ⟨σ6,H6,I6,d6,q6⟩=>?_
   refine thn (ht s2 H2 C fp _ s6 σ6 H6 _ I6 q6) fun ok s7 ⟨H7,I7,q7⟩=>?_
   have after:∀ {s8:Shared} {H8:Hp},Inv Y ([(D,{cls:=.type "list",data:=.seq its.toArray k})]++h0q fp s5.heap) σ6 H8 s8 ->
     s8.heap.get? D=some {cls:=.type "list",data:=.seq its.toArray k}/\H8 D=none/\tn (i+1) s8.heap/\(∀b∈fp,H8 b=none)/\Inv Y [] (bst own.length σ js) H8 s8:=fun{s8 H8} I8=>by
    have p8:=I8.pin (D,{cls:=.type "list",data:=.seq its.toArray k}) (by simp[Y,blk])
    refine⟨p8.1,p8.2.1,T.keep _ _ _ st5 fun b hb o e=>(I8.pin (b,o) (List.mem_append_right _ (List.mem_append_right _ (c0s hb e)))).1,fun b hb=>?_,?_⟩
    ·obtain⟨o,e,_⟩:=T.obj _ _ st5 b hb
     exact(I8.pin (b,o) (List.mem_append_right _ (List.mem_append_right _ (c0s hb e)))).2.1
    ·refine(I8.pins_of (pins':=[]) fun p hp=>absurd hp (by simp[Y,blk])).weak ?_ fun j v e=>?_
     ·rw[I8.len,j0d]
      show _=(own++capN X.N js).length
      unfold capN
      simp
     ·rcases Nat.lt_or_ge j own.length with z | z
      ·exfalso
       unfold bst at e
       rw[List.getElem?_append_left (by simpa using z),List.getElem?_replicate]at e
       split at e <;> cases e
      ·unfold bst at e
       rw[List.getElem?_append_right (by simpa using z),List.length_replicate,<- d6,List.getElem?_drop]at e
       rw[<- e]
       congr 1
       omega
   cases ok with
   | false =>
    rw[if_neg Bool.false_ne_true]at q7 ⊢
    obtain⟨m',hm,w7⟩:=hN _ _ q7
    obtain⟨a1,a2,a3,a4,a5⟩:=after I7
    exact⟨m',hm,i+1,ys,its,k,H7,a5,a3,a4,a2,r3,a1,w7⟩
   | true =>
    rw[if_pos rfl]at q7 ⊢
    refine thn (he s2 H2 C fp _ s7 σ6 H7 _ I7 q7) fun u8 s8 ⟨v8,H8,I8,r8,n8⟩=>?_
    obtain⟨m',hm,w8⟩:=hN _ _ n8
    obtain⟨a1,a2,a3,a4,a5⟩:=after I8
    have hsz:its.toArray.size<sizeLine:=by rw[List.size_toArray,<- r3.length];exact hz
    refine call_meets F.slot_list_append ⟨_,a1,rfl⟩ F.entry_list_append (F.args_list_append_2 _ _) (PySem.list_append D its.toArray k u8 (by omega)) ⟨a1,?_⟩
    have q9:=PySem.IsL.update a1 (fun xs=>xs.push u8)
    have sb:Heap.SameBut D s8.heap (s8.heap.update D (Obj.mapSeq fun xs=>xs.push u8)):=Heap.SameBut.update ..
    have I9:=a5.young sb a2 szD neDC clB (fun p hp=>absurd hp (by show p∉[]++[];simp))
    have fin:∃k',(s8.heap.update D (Obj.mapSeq fun xs=>xs.push u8)).get? D=some {cls:=.type "list",data:=.seq (its++[u8]).toArray k'}:=⟨_,by
     rw[show(its++[u8]).toArray=its.toArray.push u8 by simp]
     exact q9⟩
    obtain⟨k',fin⟩:=fin
    exact⟨m',hm,i+1,ys++[v8],its++[u8],k',H8,I9,T.keep _ _ _ a3 (fun b hb o e=>(sb.2 b (fpD b hb).1).trans e),a4,a2,r3.append (.cons r8 .nil),fin,w8⟩
 exact codeAny_compStart_list (loop _ rfl) (T.self _ 0 _ _ _ (T.keep 0 _ _ st2 fun b hb o e=>keep1 b o e) (loop _ rfl))
theorem e0l {elt tg iter:Expr}{ifs:List Expr}{scope:Scope}{pos:Pos}(own:List Str)(js:List Nat){wi:TI}{g:TG}{tc:TT}{te:TE}(hc:X.calm=true)(B:Blk X scope own js)(hi:PI X tg iter wi)
  (hg:∀s H C fp,(own++capN X.N js).Nodup->PG (blk X scope (own++capN X.N js) s H C fp) tg g) (ht:∀s H C fp,PTs (blk X scope (own++capN X.N js) s H C fp) ifs tc) (he:∀s H C fp,PE (blk X scope (own++capN X.N js) s H C fp) elt te)
  (hs:∀x,foldedSetIterable iter X.env x=pure x:=by intro _;rfl):PE X (.ListComp elt [⟨tg,iter,ifs,0⟩] scope pos) (z0t own.length js wi g tc te):=by
 intro pins s σ H Q I h
 have hcl:closureFor scope X.env=pure (e0v scope X.env):=f0j fun x hx hf=>I.ok.has x.1 (B.free x hx hf)
 rw[eval_ListComp]
 refine wpAny_comprehension_free (use:=none) rfl hs hcl B.kind B.names (thn (hi pins s σ H _ I h) fun v s1 h1=>thn h1 fun itv s2 h2=>?_)
 refine o0s (RR:=fun acc C=>compPost (model X.prog X.w) X.A X.xe none (EP X pins σ Q) acc C) hc B hg ht he h2 fun C acc s' hb=>?_
 obtain⟨D,H',m,rfl,hn,I',c1,c2,c3,c4,c5,q⟩:=hb
 exact⟨m,hn,fun h' hs'=>⟨.ref D,H',I'.young hs' c1 c2 c3 c4 c5,rfl,q⟩⟩
theorem i0y {elt tg iter:Expr}{ifs:List Expr}{scope:Scope}{pos pos' spos:Pos}{i:Nat}{x:Str}(own:List Str)(js:List Nat){wi:TI}{g:TG}{tc:TT}{te:TE}(hN:X.N.Nodup)(hi:X.N[i]? = some x)(hx:Loc X.env.scope x)
  (hc:X.calm=true) (B:Blk X scope own js) (hit:PI X tg iter wi)
  (hg:∀s H C fp,(own++capN X.N js).Nodup->PG (blk X scope (own++capN X.N js) s H C fp) tg g) (ht:∀s H C fp,PTs (blk X scope (own++capN X.N js) s H C fp) ifs tc) (he:∀s H C fp,PE (blk X scope (own++capN X.N js) s H C fp) elt te)
  (hf:X.fn x=true∨X.env.scope.names.lookup x=some .local:=by first | exact .inl rfl | exact .inr rfl | assumption)
  (hw:swapsWith (.ListComp elt [⟨tg,iter,ifs,0⟩] scope pos) (some (.Name x pos')) spos.line X.env=pure true:=by rfl)
  (hs:∀x,foldedSetIterable iter X.env x=pure x:=by intro _;rfl) :
  PS X (.Assign [.Name x pos'] (.ListComp elt [⟨tg,iter,ifs,0⟩] scope pos) spos) (fun D σ H=>z0t own.length js wi g tc te σ H fun v H'=>D.nx (σ.set i (some v)) H'):=by
 intro pins s σ H D I h
 have hcl:closureFor scope X.env=pure (e0v scope X.env):=f0j fun x hx hf=>I.ok.has x.1 (B.free x hx hf)
 rw[exec_Assign_Name_used _ _ _ _ hw]
 refine wpAny_bind (wpAny_standAt (wpAny_bind ?_))
 show wpAny _ X.A (do let _ <- comprehension (.ListComp elt [⟨tg,iter,ifs,0⟩] scope pos) scope X.env _ (newList []) false (eval iter X.env) (some (assign (.Name x pos') X.env))) _ _ s
 refine wpAny_bind (thn (Q:=fun _ s'=>SP X pins D .next s') (wpAny_comprehension_free (use:=some (assign (.Name x pos') X.env)) rfl hs hcl B.kind B.names (thn (hit pins s σ H _ I h) fun v s1 h1=>thn h1 fun itv s2 h2=>?_)) fun _ s' q=>wpAny_pure (wpAny_pure q))
 refine o0s (Q:=fun v H'=>D.nx (σ.set i (some v)) H') (RR:=fun acc C=>compPost (model X.prog X.w) X.A X.xe (some (assign (.Name x pos') X.env)) (fun _ s'=>SP X pins D .next s') acc C) hc B hg ht he h2 fun C acc s' hb=>?_
 obtain⟨l,H',m,rfl,hn,I',c1,c2,c3,c4,c5,q⟩:=hb
 show wpAny _ X.A (assign (.Name x pos') X.env (.ref l)) _ _ _
 refine wpAny_assign_Name (m0b (v:=.ref l) I' hN hi hx rfl (fun s3 I3 ⟨a,sb,ha⟩=>?_) hf)
 have ne:C≠a:=by
  rcases ha with z | z
  ·rw[z];exact c3
  ·exact(c4 x a z).symm
 exact⟨m,hn.sameBut sb ne,fun h' hs'=>⟨_,H',I3.young hs' c1 c2 c3 c4 c5,q⟩⟩
end
section
variable {X:Cx}
def Dv (j:Int):Prop:=0<j/\j.natAbs.log2<9000
theorem Dv.small {j:Int}(h:0<j)(h2:j<1073741824):Dv j:=⟨h,by
 have e:j.natAbs≠0:=by omega
 have:j.natAbs.log2<30:=(Nat.log2_lt e).mpr (by omega)
 omega⟩
theorem p0i:OpR X (binaryOp .FloorDiv) (rI (fun _ j=>Dv j) fun i j=>.int (i / j)):=opI fun i j _ _ _ _ _ hc q=>by
 rw[<- Int.fdiv_eq_ediv_of_nonneg i (Int.le_of_lt hc.1)]at q
 exact floordiv_int (Int.ne_of_gt hc.1) q (.inl (PyProof.noPylong_of_log2 hc.2))
theorem i1x:MtR X "int.bit_length" (fun x xs H Q=>∃i,x = .int i/\xs=[]/\Q (.int (Builtin.Int.intBits i:Nat)) H):=by
 intro pins s σ H x xs v us Q I rx rv h
 obtain⟨i,rfl,rfl,q⟩:=h
 obtain⟨t,rfl⟩:=rx
 cases rv
 exact call_int_bit_length ⟨.int (Builtin.Int.intBits i:Nat),H,I.tok _,⟨_,rfl⟩,q⟩
def isaT (t T:String):Option Bool:=if(Value.type t==Value.type T)=true then some true else if PySem.W.kitMeta T=true then(fastBuiltinMro t).map (·.contains (.type T))else none
theorem s0d:isaT "int" "int" = some true:=by decide +kernel
theorem p0t:isaT "int" "bool" = some false:=by decide +kernel
theorem n0w:isaT "int" "tuple" = some false:=by decide +kernel
theorem p0u:isaT "bool" "int" = some true:=by decide +kernel
theorem n0x:isaT "bool" "bool" = some true:=by decide +kernel
theorem m0s:isaT "bool" "tuple" = some false:=by decide +kernel
theorem s0b:isaT "str" "int" = some false:=by decide +kernel
theorem n0u:isaT "str" "tuple" = some false:=by decide +kernel
theorem s0c:isaT "NoneType" "int" = some false:=by decide +kernel
theorem n0v:isaT "NoneType" "tuple" = some false:=by decide +kernel
theorem p0s:isaT "list" "int" = some false:=by decide +kernel
theorem e0q:isaT "list" "list" = some true:=by decide +kernel
theorem m0r:isaT "list" "tuple" = some false:=by decide +kernel
theorem n0t:isaT "tuple" "int" = some false:=by decide +kernel
theorem l0h:isaT "tuple" "tuple" = some true:=by decide +kernel
theorem f1d {K:PySem.W.Frag}{t T:String}:PySem.W.kitOne K (.type t) (.type T)=isaT t T:=rfl
theorem a1r {x:Str}{T:String}{pos:Pos}(hg:Gl X x)(hm:X.mg x=none)(hv:bootBuiltins x=some (.type T))(hn:x ≠ "__name__" := by decide)(hd:(x==("__debug__" : Str))=false:=by decide):PE X (.Name x pos) (tC (.ty T)) :=
 i1q hg hm hv rfl hn hd
structure OkN (P:Program)(w:World)(K:PySem.W.Frag)(mg:Str->Option Value)(base:Heap)(k:Nat)(x:Str)(ps:List Str)(sp:Sp):Prop where
 ex:∃f fd,mg x=some (.ref f)/\PySem.W.keepIn K (.ref f)=true/\d1r K fd ps []/\(∃oc od osl,K.lookup f=some ⟨oc,od,.func fd,osl⟩)/\FnOk P w K mg base CX0 k f fd ps sp
theorem b0x {k:Nat}{x:Str}{ps:List Str}{sp:Sp}{p pos:Pos}{e:Expr}{es:List Expr}{t:TA}(F:OkN X.prog X.w X.K X.mg X.base k x ps sp)(hr:Room k X.A)(ha:PA X (e::es) t)(hg:Gl X x:=by rfl)
  (hdb:(x==("__debug__" : Str))=false:=by decide) (he:starEach (e::es) X.env=(false,eval e X.env)::starEach es X.env:=by rfl) (hpl:(backTo pos (starEach es X.env)).any (·.1)=false:=by rfl) :
  PE X (.Call (.Name x p) (e::es) [] pos) (h1z sp [] E0 t):=by
 obtain⟨f,fd,hm,hk,hb,lk,F⟩:=F.ex
 exact i1o F hr hg hm hk hb .nil n1y ha hdb he hpl
structure DefN (K:PySem.W.Frag)(mg:Str->Option Value)(x:Str)(st:Stmt)(ps:List Str):Prop where
 ex:∃f fd,mg x=some (.ref f)/\Fun K x x st f fd/\∀us:List Value,us.length=ps.length->bindArgs fd ⟨us,[]⟩=pure (ps.zip us)
theorem DefN.ok {P:Program}{w:World}{K:PySem.W.Frag}{mg:Str->Option Value}{base:Heap}{x:Str}{st:Stmt}{N ps:List Str}{k:Nat}{sp:Sp}(D:DefN K mg x st ps)(S:b0a N ps (a0i st))(len:∀vs H Q E,sp vs H Q E->vs.length=ps.length)
  (hbody:∀(f:Addr) (cdv:Value) (A:Around) (outer:List Env) (s:Shared) (H:Hp) (vs:List V) (Q:VK) (E:XK),Room k (A.deeper (envOfC x (a0i st) s.heap.objs.size f cdv))->sp vs H Q E ->
   ∃t,PSs (cxOf CX0 P w K mg base N x (a0i st) f cdv A outer s H E).nox (h0h st) t/\t {nx:=fun _ H'=>Q .non H',rt:=Q} (start N vs) H):OkN P w K mg base (k+1) x ps sp:=by
 obtain⟨f,fd,hm,F,hb⟩:=D.ex
 refine⟨f,fd,hm,F.kp,.all hb,?_,F.ok S len fun cdv A outer s H vs Q E hr h=>hbody f cdv A outer s H vs Q E hr h⟩
 obtain⟨oc,od,kV,doc,pm,an,cdv,ct,osl,_,lk,_⟩:=F.ex
 exact⟨oc,od,osl,lk⟩
theorem c0b {K:PySem.W.Frag}{mg:Str->Option Value}{h:Heap}{x:Str}{st:Stmt}{ps:List Str}{f:Addr}{oc:Value}{od an:Option Addr}{osl:Array (Option Value)}{kV doc pm cdv ct:Value}(KX:K.In h)(G:h.Ns mainGlobals mg)
  (a:PySem.W.nsIn K mainGlobals x=some (some (.ref f))) (l:K.lookup f=some ⟨oc,od,.func (PySem.W.fnOf x x (m0y st) (h0h st) (a0i st) .none kV doc pm an cdv ct),osl⟩)
  (c:PySem.W.codeIn K cdv x=true) (k:PySem.W.keepIn K (.ref f)=true)
  (hb:∀(kV doc pm:Value) (an:Option Addr) (cdv ct:Value) (us:List Value),us.length=ps.length->bindArgs (PySem.W.fnOf x x (m0y st) (h0h st) (a0i st) .none kV doc pm an cdv ct) ⟨us,[]⟩=pure (ps.zip us)):DefN K mg x st ps :=
 ⟨f,_,PySem.W.mg_of KX G a,m1x l c k,fun us hl=>hb kV doc pm an cdv ct us hl⟩
theorem j1h {P:Program}{w:World}{K:PySem.W.Frag}{mg:Str->Option Value}{x p:Str}{st:Stmt}{k:Nat}{fa:Addr}{sp:Sp}(D:DefN K mg x st [p])(hfa:mg x=some (.ref fa))
  (F:∀base:Heap,OkN P w K mg base k x [p] sp):∃fd:FuncData,(∀(s:Shared) (v:Value),BindsTo s fd ⟨[v],[]⟩ [(p,v)])/\∀base:Heap,K.In base->base.Ns mainGlobals mg->FnOk P w K mg base CX0 k fa fd [p] sp:=by
 obtain⟨f,fd,hm,F0,hb⟩:=D.ex
 obtain⟨oc,od,kV,doc,pm,an,cdv,ct,osl,_,lk,_⟩:=F0.ex
 refine⟨fd,fun s v=>.of_eq (hb [v] rfl),fun base _ _=>?_⟩
 obtain⟨f',fd',hm',_,_,⟨oc',od',osl',lk'⟩,G⟩:=(F base).ex
 rw[hfa]at hm'
 cases hm'
 rw[hfa]at hm
 cases hm
 rw[lk]at lk'
 cases lk'
 exact G
end
structure BI (mg:Str->Option Value):Prop where
 len_:mg "len" = none
 range_:mg "range" = none
 isinstance_:mg "isinstance" = none
 int_:mg "int" = none
 bool_:mg "bool" = none
 list_:mg "list" = none
 tuple_:mg "tuple" = none
 str_:mg "str" = none
 sum_:mg "sum" = none
 all_:mg "all" = none
 max_:mg "max" = none
 min_:mg "min" = none
 sorted_:mg "sorted" = none
 set_:mg "set" = none
 zip_:mg "zip" = none
 enumerate_:mg "enumerate" = none
 reversed_:mg "reversed" = none
 dict_:mg "dict" = none
 any_:mg "any" = none
 abs_:mg "abs" = none
theorem o1k {K:PySem.W.Frag}{mg:Str->Option Value}{h:Heap}(KX:K.In h)(G:h.Ns mainGlobals mg)
  (len_:PySem.W.nsIn K mainGlobals "len" = some none) (range_:PySem.W.nsIn K mainGlobals "range" = some none) (isinstance_:PySem.W.nsIn K mainGlobals "isinstance" = some none) (int_:PySem.W.nsIn K mainGlobals "int" = some none) (bool_:PySem.W.nsIn K mainGlobals "bool" = some none) (list_:PySem.W.nsIn K mainGlobals "list" = some none) (tuple_:PySem.W.nsIn K mainGlobals "tuple" = some none) (str_:PySem.W.nsIn K mainGlobals "str" = some none) (sum_:PySem.W.nsIn K mainGlobals "sum" = some none) (all_:PySem.W.nsIn K mainGlobals "all" = some none) (max_:PySem.W.nsIn K mainGlobals "max" = some none) (min_:PySem.W.nsIn K mainGlobals "min" = some none) (sorted_:PySem.W.nsIn K mainGlobals "sorted" = some none) (set_:PySem.W.nsIn K mainGlobals "set" = some none) (zip_:PySem.W.nsIn K mainGlobals "zip" = some none) (enumerate_:PySem.W.nsIn K mainGlobals "enumerate" = some none) (reversed_:PySem.W.nsIn K mainGlobals "reversed" = some none) (dict_:PySem.W.nsIn K mainGlobals "dict" = some none) (any_:PySem.W.nsIn K mainGlobals "any" = some none) (abs_:PySem.W.nsIn K mainGlobals "abs" = some none):BI mg :=
 ⟨PySem.W.mg_none_of KX G len_,PySem.W.mg_none_of KX G range_,PySem.W.mg_none_of KX G isinstance_,PySem.W.mg_none_of KX G int_,PySem.W.mg_none_of KX G bool_,PySem.W.mg_none_of KX G list_,PySem.W.mg_none_of KX G tuple_,PySem.W.mg_none_of KX G str_,PySem.W.mg_none_of KX G sum_,PySem.W.mg_none_of KX G all_,PySem.W.mg_none_of KX G max_,PySem.W.mg_none_of KX G min_,PySem.W.mg_none_of KX G sorted_,PySem.W.mg_none_of KX G set_,PySem.W.mg_none_of KX G zip_,PySem.W.mg_none_of KX G enumerate_,PySem.W.mg_none_of KX G reversed_,PySem.W.mg_none_of KX G dict_,PySem.W.mg_none_of KX G any_,PySem.W.mg_none_of KX G abs_⟩
def Grow (t:Addr)(H H':Hp):Prop:=∀b o,H b=some o->b≠t->H' b=some o
theorem Grow.refl {t:Addr}{H:Hp}:Grow t H H:=fun _ _ h _=>h
theorem Grow.upd {t:Addr}{H H':Hp}(g:Grow t H H')(o:HO):Grow t H (L2.upd H' t o):=fun b u h n=>by rw[a0x n];exact g b u h n
theorem Same.new {H H':Hp}{l:Addr}{o:HO}(s:Same H H')(h:H' l=none):Same H (L2.upd H' l o):=fun b u e=>by
 have:=s b u e
 rw[a0x (b0k this h)];exact this
theorem Same.seqT {K:PySem.W.Frag}{H H':Hp}{a:Addr}{xs:List V}(e:Same H H')(h:SqT K H a xs):SqT K H' a xs:=by
 rcases h with(h | ⟨o,h⟩) | h
 ·exact .inl (.inl (e _ _ h))
 ·exact .inl (.inr ⟨o,e _ _ h⟩)
 ·exact .inr h
theorem Grow.seq {K:PySem.W.Frag}{t:Addr}{H H':Hp}{a:Addr}{xs:List V}{kvs:List (Key×V)}(g:Grow t H H')(ht:H t=some (.dK kvs))(h:SqL K H a xs):SqL K H' a xs:=by
 rcases h with(h | ⟨o,h⟩) | h
 ·exact .inl (.inl (g _ _ h (i1w h ht (by intro z;cases z))))
 ·exact .inl (.inr ⟨o,g _ _ h (i1w h ht (by intro z;cases z))⟩)
 ·exact .inr h
def d0l (c:Addr)(sp lf:Int):List (Key×V):=[(Sum.inr "cells",.ref c),(Sum.inr "spot",.int sp),(Sum.inr "left",.int lf)]
theorem j1v:¬((Sum.inr ("cells" : Str):Key)=Sum.inr ("spot" : Str)):=by decide +kernel
theorem j1x:¬((Sum.inr ("cells" : Str):Key)=Sum.inr ("left" : Str)):=by decide +kernel
theorem e1f:¬((Sum.inr ("spot" : Str):Key)=Sum.inr ("left" : Str)):=by decide +kernel
theorem o0d {c:Addr}{sp lf:Int}:valV (d0l c sp lf) (Sum.inr "cells" : Key)=some (.ref c):=by
 simp[valV,d0l]
theorem z0o {c:Addr}{sp lf:Int}:valV (d0l c sp lf) (Sum.inr "spot" : Key)=some (.int sp):=by
 simp only[valV,d0l,List.find?_cons,decide_eq_false j1v,decide_true,Option.map_some]
theorem z0q {c:Addr}{sp lf:Int}:valV (d0l c sp lf) (Sum.inr "left" : Key)=some (.int lf):=by
 simp only[valV,d0l,List.find?_cons,decide_eq_false j1x,decide_eq_false e1f,decide_true,Option.map_some]
theorem p0f {c:Addr}{sp lf x:Int}:putK (d0l c sp lf) (Sum.inr "left" : Key) (.int x)=d0l c sp x:=by
 unfold putK
 rw[if_pos (by simp[d0l])]
 simp only[d0l,List.map_cons,List.map_nil,if_neg j1x,if_neg e1f,if_pos]
theorem e1j {c:Addr}{sp lf x:Int}:putK (d0l c sp lf) (Sum.inr "spot" : Key) (.int x)=d0l c x lf:=by
 unfold putK
 rw[if_pos (by simp[d0l])]
 simp only[d0l,List.map_cons,List.map_nil,if_neg j1v,if_pos,if_neg (show ¬((Sum.inr ("left" : Str):Key)=Sum.inr ("spot" : Str))from fun e=>e1f e.symm)]
theorem z0p {c:Addr}:m0p [] [((Sum.inr ("cells" : Str):Key),V.ref c),((Sum.inr ("spot" : Str):Key),V.int 0),((Sum.inr ("left" : Str):Key),V.int 0)]=d0l c 0 0:=by
 simp only[m0p,List.foldl_cons,List.foldl_nil]
 have e1:putK ([]:List (Key×V)) (Sum.inr ("cells" : Str)) (V.ref c)=[((Sum.inr ("cells" : Str):Key),V.ref c)]:=by simp[putK]
 have e2:putK [((Sum.inr ("cells" : Str):Key),V.ref c)] (Sum.inr ("spot" : Str)) (V.int 0)=[((Sum.inr ("cells" : Str):Key),V.ref c),((Sum.inr ("spot" : Str):Key),V.int 0)]:=by
  unfold putK
  rw[if_neg (by simp only[List.any_cons,List.any_nil,decide_eq_false j1v];simp)]
  rfl
 have e3:putK [((Sum.inr ("cells" : Str):Key),V.ref c),((Sum.inr ("spot" : Str):Key),V.int 0)] (Sum.inr ("left" : Str)) (V.int 0)=d0l c 0 0:=by
  unfold putK
  rw[if_neg (by simp only[List.any_cons,List.any_nil,decide_eq_false j1x,decide_eq_false e1f];simp)]
  rfl
 rw[e1,e2,e3]
theorem o1i {ns:List Int}:cutV (ns.map V.int) none (some 63)=(ns.take 63).map V.int:=by
 unfold cutV
 have e0:HT.sIx (ns.map V.int).length 0 none=0:=rfl
 rw[e0,List.drop_zero,Nat.sub_zero,List.map_take]
 show List.take (HT.sIx _ _ (some ((63:Nat):Int))) _=_
 rw[HT.sIx_nat]
 rcases Nat.le_total 63 (ns.map V.int).length with h | h
 ·rw[Nat.min_eq_left h]
 ·rw[Nat.min_eq_right h,List.take_of_length_le (Nat.le_refl _),List.take_of_length_le h]
end L2
namespace L2
theorem drawn {Q:Int->Hp->Prop}{m x:Int}{H':Hp}(hm:0<m)(k:∀r:Nat,(r:Int)<m->Q (r:Nat) H'):Q (x % m) H':=by
 obtain⟨r,e⟩:=Int.eq_ofNat_of_zero_le (Int.emod_nonneg x (Int.ne_of_gt hm))
 have:=Int.emod_lt_of_pos x hm
 rw[e]at this ⊢
 exact k r this
theorem v0z {y:Int}:-(2^64)<y % 2147483647/\y % 2147483647<2^64:=by omega
theorem dv64:Dv 64:=Dv.small (by decide) (by decide)
end L2
namespace L2
open PySem PySem.Spec PyProof.Rows
theorem j0f (a b:Nat):Builtin.bitAnd (a:Int) (b:Int)=((a &&& b:Nat):Int):=by
 unfold Builtin.bitAnd
 rw[decide_eq_true (Int.natCast_nonneg a),decide_eq_true (Int.natCast_nonneg b)]
 simp
theorem w0j (a b:Nat):Builtin.bitOr (a:Int) (b:Int)=((a ||| b:Nat):Int):=by
 unfold Builtin.bitOr Builtin.bitAnd Builtin.bitNot
 rw[decide_eq_false (show ¬(0:Int) <= -(a:Int) - 1 by omega),decide_eq_false (show ¬(0:Int) <= -(b:Int) - 1 by omega)]
 have h1:(-(-(a:Int) - 1) - 1).toNat=a:=by omega
 have h2:(-(-(b:Int) - 1) - 1).toNat=b:=by omega
 simp only[h1,h2]
 omega
theorem i0w:∀(a b:Nat),(a ^^^ b)+2*(a &&& b)=a+b:=by
 intro a
 induction a using Nat.strongRecOn with
 | ind a ih =>
  intro b
  by_cases h0:a=0
  ·subst h0;simp
  ·have h:=ih (a / 2) (by omega) (b / 2)
   have e1:(a ^^^ b) / 2=a / 2 ^^^ b / 2:=Nat.xor_div_two
   have e2:(a &&& b) / 2=a / 2 &&& b / 2:=Nat.and_div_two
   have e3:(a ^^^ b) % 2=(a+b) % 2:=by
    have:=Nat.testBit_xor a b 0
    rw[Nat.testBit_zero,Nat.testBit_zero,Nat.testBit_zero]at this
    rcases Nat.mod_two_eq_zero_or_one a with p | p <;> rcases Nat.mod_two_eq_zero_or_one b with q | q <;> rcases Nat.mod_two_eq_zero_or_one (a ^^^ b)with r | r <;> simp[p,q,r]at this <;> omega
   have e4:(a &&& b) % 2=(a % 2)*(b % 2):=by
    have:=Nat.testBit_and a b 0
    rw[Nat.testBit_zero,Nat.testBit_zero,Nat.testBit_zero]at this
    rcases Nat.mod_two_eq_zero_or_one a with p | p <;> rcases Nat.mod_two_eq_zero_or_one b with q | q <;> rcases Nat.mod_two_eq_zero_or_one (a &&& b)with r | r <;> simp[p,q,r]at this <;> simp[p,q,r]
   rcases Nat.mod_two_eq_zero_or_one a with p | p <;> rcases Nat.mod_two_eq_zero_or_one b with q | q <;> rw[p,q]at e4 <;> omega
theorem y0w (a b:Nat):Builtin.bitXor (a:Int) (b:Int)=((a ^^^ b:Nat):Int):=by
 unfold Builtin.bitXor
 rw[w0j,j0f]
 have h1:(a ||| b)+(a &&& b)=a+b:=by
  have:=i0w a b
  have e:(a ||| b)=(a ^^^ b)+(a &&& b):=by
   have h2:=i0w (a ^^^ b) (a &&& b)
   have h3:(a ^^^ b) &&& (a &&& b)=0:=by
    apply Nat.eq_of_testBit_eq
    intro i
    simp only[Nat.testBit_and,Nat.testBit_xor,Nat.zero_testBit]
    cases a.testBit i <;> cases b.testBit i <;> rfl
   have h4:(a ^^^ b) ^^^ (a &&& b)=a ||| b:=by
    apply Nat.eq_of_testBit_eq
    intro i
    simp only[Nat.testBit_and,Nat.testBit_xor,Nat.testBit_or]
    cases a.testBit i <;> cases b.testBit i <;> rfl
   rw[h3,h4]at h2
   omega
  omega
 have:=i0w a b
 omega
theorem i1i (a k:Nat):(a:Int) / 2^((k:Int).toNat)=((a >>> k:Nat):Int):=by
 rw[Int.toNat_natCast,Nat.shiftRight_eq_div_pow]
 exact(Int.natCast_ediv a (2^k)).symm.trans (by norm_cast) |>.symm▸(by simp)
theorem k1a (a k:Nat):Builtin.bitAnd ((a:Int) / 2^((k:Int).toNat)) 1=if a.testBit k then 1 else 0:=by
 rw[i1i,show(1:Int)=((1:Nat):Int)from rfl,j0f]
 have:(a >>> k) &&& 1=(a.testBit k).toNat:=by
  rw[Nat.and_one_is_mod,Nat.testBit]
  rw[Nat.one_and_eq_mod_two]
  rcases Nat.mod_two_eq_zero_or_one (a >>> k)with p | p <;> simp[p]
 rw[this]
 cases a.testBit k <;> rfl
theorem t0m (k:Nat):(1:Int)*(2:Int)^((k:Int).toNat)=((1 <<< k:Nat):Int):=by
 rw[Int.toNat_natCast,Nat.shiftLeft_eq,Int.one_mul,Nat.one_mul]
 simp
def l0k (n:Nat):Nat:=if n=0 then 0 else n.log2+1
theorem f1x (n:Nat):Builtin.Int.intBits (n:Int)=l0k n:=by
 unfold Builtin.Int.intBits l0k
 by_cases h:n=0
 ·subst h;rfl
 ·rw[if_neg (by simp;omega),if_neg h];simp
def c0a (n:Nat):List Nat:=(List.range (l0k n)).filter n.testBit
def i1d (K:PySem.W.Frag):Sp:=fun vs H Q _=>∃(a:Addr) (ns:List Int),vs=[.ref a]/\SqL K H a (ns.map V.int)/\ns.length<=63/\∀H',Q (.bl true) H'
theorem j1z {n m:Nat}(h:n<2^m):l0k n<=m:=by
 unfold l0k
 by_cases h0:n=0
 ·rw[if_pos h0];omega
 ·rw[if_neg h0]
  exact(Nat.log2_lt h0).mpr h
theorem c0v:bootBuiltins "len" = some (.builtin "len"):=by decide +kernel
theorem f1w:bootBuiltins "range" = some (.type "range"):=by decide +kernel
theorem e0h:bootBuiltins "isinstance" = some (.builtin "isinstance"):=by decide +kernel
theorem n1f:bootBuiltins "int" = some (.type "int"):=by decide +kernel
theorem j1y:bootBuiltins "bool" = some (.type "bool"):=by decide +kernel
theorem k0r:bootBuiltins "list" = some (.type "list"):=by decide +kernel
theorem i0p:bootBuiltins "tuple" = some (.type "tuple"):=by decide +kernel
theorem n1e:bootBuiltins "sum" = some (.builtin "sum"):=by decide +kernel
theorem h1h:bootBuiltins "all" = some (.builtin "all"):=by decide +kernel
theorem x0h:bootBuiltins "max" = some (.builtin "max"):=by decide +kernel
theorem d1c:bootBuiltins "min" = some (.builtin "min"):=by decide +kernel
theorem k0h:bootBuiltins "sorted" = some (.builtin "sorted"):=by decide +kernel
theorem h1g:bootBuiltins "set" = some (.type "set"):=by decide +kernel
theorem i0c:bootBuiltins "enumerate" = some (.type "enumerate"):=by decide +kernel
theorem v0e:bootBuiltins "reversed" = some (.type "reversed"):=by decide +kernel
section
variable {X:Cx}{a b e o:Expr}{es:List Expr}{ta tb te to:TE}{t:TA}{pos apos cpos:Pos}(K:PySem.W.Frag)
theorem g0i (ha:PE X a ta)(he:∀whole,isTrue a X.env whole=(do let v <- whole;standAt a.pos;holding [v] (truthy v)))(hK:X.K=K:=by rfl) :
  PT X a (fun σ H Q=>ta σ H fun x H'=>∃k,TruV K x H' k/\Q k H'):=by subst hK;exact e1k ha he
theorem h0c (hK:X.K=K:=by rfl):OpR X (compareOp .NotIn) (rIn K true):=by subst hK;exact r0f
theorem b0b (hK:X.K=K:=by rfl):IxR X (rIx K):=by subst hK;exact m1m
theorem e1g (hK:X.K=K:=by rfl):SlR X (rSlL K):=by subst hK;exact i1h
theorem b0d (hK:X.K=K:=by rfl):h0n X (.builtin "len") (fun xs H Q=>∃p ys,xs=[.ref p]/\(SqL K H p ys∨SqT K H p ys)/\Q (.int ys.length) H):=by subst hK;exact s0v
theorem o0x (hK:X.K=K:=by rfl):h0n X (.type "list") (fun xs H Q=>∃p ys,xs=[.ref p]/\(SqL K H p ys∨SqT K H p ys)/\∀l,H l=none->Q (.ref l) (upd H l (.lst ys))):=by subst hK;exact s0u
theorem f0u (hK:X.K=K:=by rfl):h0n X (.type "tuple") (fun xs H Q=>∃p ys,xs=[.ref p]/\((SqL K H p ys/\∀l,H l=none->Q (.ref l) (upd H l (.tup ys)))∨(SqT K H p ys/\Q (.ref p) H))):=by subst hK;exact q0k
theorem d0k {es:List Expr}{k:Nat}{t:TGs}{n:Nat}(hc:X.calm=true)(h:PGs X es t)(hn:(assignEach es X.env).length=n:=by rfl)(hst:(assignEach es X.env).findIdx? (·.1)=none:=by rfl)(hK:X.K=K:=by rfl) :
  PG X (.Tuple es k pos) (gTup K n t):=by subst hK;exact l1r hc h hn hst
variable {name:Str}{T id:String}{r:V->List V->Hp->VK->Prop}
theorem i1p (pa:PlainAttrs T)(slot:Slot T name id)(hty:typeOf (.builtin id)=pure (.type "method_descriptor"))(hm:MtR X id r)(ho:PE X o to)
  (hbase:attributeBase o name X.env (eval o X.env)=eval o X.env:=by rfl) (hline:(apos.endLine==cpos.line)=true:=by rfl) (hK:X.K=K:=by rfl):PE X (.Call (.Attribute o name apos) [] [] cpos) (tBM0 K T r to):=by
 subst hK;exact l1v pa slot hty hm ho hbase hline
theorem h0t (pa:PlainAttrs T)(slot:Slot T name id)(hty:typeOf (.builtin id)=pure (.type "method_descriptor"))(hm:MtR X id r)(ho:PE X o to)(ha:PA X (e::es) t)
  (hbase:attributeBase o name X.env (eval o X.env)=eval o X.env:=by rfl)
  (hfew:((backTo cpos (starEach (e::es) X.env)).all (fun x=>!x.1)&&(backToKw cpos (keywordEach [] X.env)).all (fun x=>x.1.isSome)&&decide ((e::es).length+([]:List Keyword).length+(if([]:List Keyword).isEmpty then 0 else 1)<30))=true:=by rfl)
  (hline:(apos.endLine==cpos.line)=true:=by rfl) (he:starEach (e::es) X.env=(false,eval e X.env)::starEach es X.env:=by rfl) (hpl:(backTo cpos (starEach es X.env)).any (·.1)=false:=by rfl)
  (hK:X.K=K:=by rfl):PE X (.Call (.Attribute o name apos) (e::es) [] cpos) (tBM K T r to t):=by
 subst hK
 exact n1x pa slot hty hm ho ha hbase hfew hline he hpl
end
inductive D where
 | non | bl (b:Bool) | int (i:Int) | str (x:Str) | tup (ds:List D) | lst (ds:List D)
def StT (H:Hp)(a:Addr)(xs:List V):Prop:=H a=some (.tup xs)
theorem StT.sq {K:PySem.W.Frag}{H:Hp}{a:Addr}{xs:List V}(h:StT H a xs):SqT K H a xs:=SqT.of h
instance {K:PySem.W.Frag} {H:Hp} {a:Addr} {xs:List V}:Coe (StT H a xs) (SqT K H a xs):=⟨StT.sq⟩
def StL (H:Hp)(a:Addr)(xs:List V):Prop:=H a=some (.lst xs)
theorem StL.sq {K:PySem.W.Frag}{H:Hp}{a:Addr}{xs:List V}(h:StL H a xs):SqL K H a xs:=SqL.of h
instance {K:PySem.W.Frag} {H:Hp} {a:Addr} {xs:List V}:Coe (StL H a xs) (SqL K H a xs):=⟨StL.sq⟩
mutual
def RepD (K:PySem.W.Frag)(H:Hp):V->D->Prop
 | v,.non=>v = .non
 | v,.bl b=>v = .bl b
 | v,.int i=>v = .int i
 | v,.str x=>v = .str x
 | v,.tup ds=>∃a vs,v = .ref a/\StT H a vs/\RepDs K H vs ds
 | v,.lst ds=>∃a vs,v = .ref a/\StL H a vs/\RepDs K H vs ds
def RepDs (K:PySem.W.Frag)(H:Hp):List V->List D->Prop
 | [],[]=>True
 | v::vs,d::ds=>RepD K H v d/\RepDs K H vs ds
 | _,_=>False
end
mutual
def eqD:D->D->Bool
 | .non,.non=>true
 | .bl a,.bl b=>a==b
 | .bl a,.int b=>(if a then 1 else 0)==b
 | .int a,.bl b=>a==(if b then 1 else 0)
 | .int a,.int b=>a==b
 | .str a,.str b=>a==b
 | .tup ds,.tup es=>eqDs ds es
 | .lst ds,.lst es=>eqDs ds es
 | _,_=>false
def eqDs:List D->List D->Bool
 | [],[]=>true
 | d::ds,e::es=>eqD d e&&eqDs ds es
 | _,_=>false
end
mutual
def D.depth:D->Nat
 | .tup ds=>depths ds+1
 | .lst ds=>depths ds+1
 | _=>0
def depths:List D->Nat
 | []=>0
 | d::ds=>max d.depth (depths ds)
end
section
variable {K:PySem.W.Frag}{H H':Hp}
theorem RepDs.length:∀ {vs:List V} {ds:List D},RepDs K H vs ds->vs.length=ds.length
 | [],[],_=>rfl
 | v::vs,d::ds,h=>by
  unfold RepDs at h
  rw[List.length_cons,List.length_cons,RepDs.length h.2]
 | [],d::ds,h=>by unfold RepDs at h;exact h.elim
 | v::vs,[],h=>by unfold RepDs at h;exact h.elim
theorem RepDs.get:∀ {vs:List V} {ds:List D} {i:Nat} {d:D},RepDs K H vs ds->ds[i]? = some d->∃v,vs[i]? = some v/\RepD K H v d
 | [],[],_,_,_,e=>by simp at e
 | v::vs,d::ds,0,_,h,e=>by
  unfold RepDs at h
  simp at e;subst e
  exact⟨v,rfl,h.1⟩
 | v::vs,d::ds,i+1,_,h,e=>by
  unfold RepDs at h
  obtain⟨u,a,b⟩:=RepDs.get (i:=i) h.2 (by simpa using e)
  exact⟨u,by simpa using a,b⟩
 | [],d::ds,_,_,h,_=>by unfold RepDs at h;exact h.elim
 | v::vs,[],_,_,h,_=>by unfold RepDs at h;exact h.elim
theorem RepDs.getV:∀ {vs:List V} {ds:List D} {i:Nat} {v:V},RepDs K H vs ds->vs[i]? = some v->∃d,ds[i]? = some d/\RepD K H v d
 | [],[],_,_,_,e=>by simp at e
 | v::vs,d::ds,0,_,h,e=>by
  unfold RepDs at h
  simp at e;subst e
  exact⟨d,rfl,h.1⟩
 | v::vs,d::ds,i+1,_,h,e=>by
  unfold RepDs at h
  obtain⟨u,a,b⟩:=RepDs.getV (i:=i) h.2 (by simpa using e)
  exact⟨u,by simpa using a,b⟩
 | [],d::ds,_,_,h,_=>by unfold RepDs at h;exact h.elim
 | v::vs,[],_,_,h,_=>by unfold RepDs at h;exact h.elim
theorem RepDs.append:∀ {vs ws:List V} {ds es:List D},RepDs K H vs ds->RepDs K H ws es->RepDs K H (vs++ws) (ds++es)
 | [],ws,[],es,_,h=>h
 | v::vs,ws,d::ds,es,h,h'=>by
  unfold RepDs at h
  show RepDs K H (v::(vs++ws)) (d::(ds++es))
  unfold RepDs
  exact⟨h.1,RepDs.append h.2 h'⟩
 | [],_,d::ds,_,h,_=>by unfold RepDs at h;exact h.elim
 | v::vs,_,[],_,h,_=>by unfold RepDs at h;exact h.elim
theorem RepDs.one {v:V}{d:D}(h:RepD K H v d):RepDs K H [v] [d]:=by unfold RepDs;exact⟨h,by unfold RepDs;trivial⟩
theorem RepDs.nil:RepDs K H [] []:=by unfold RepDs;trivial
theorem RepDs.cons {v:V}{d:D}{vs:List V}{ds:List D}(h:RepD K H v d)(t:RepDs K H vs ds):RepDs K H (v::vs) (d::ds):=by unfold RepDs;exact⟨h,t⟩
theorem g0b:∀ {vs:List V} {ns:List Int},RepDs K H vs (ns.map D.int)↔vs=ns.map V.int
 | [],[]=>by simp[RepDs]
 | v::vs,n::ns=>by
  have ih:=@g0b vs ns
  rw[List.map_cons,List.map_cons]
  unfold RepDs RepD
  rw[ih]
  constructor
  ·rintro⟨rfl,rfl⟩;rfl
  ·intro h;injection h with h1 h2;exact⟨h1,h2⟩
 | [],n::ns=>by rw[List.map_cons];unfold RepDs;simp
 | v::vs,[]=>by rw[List.map_nil];unfold RepDs;simp
mutual
theorem RepD.keep (hl:∀a vs,StL H a vs->StL H' a vs)(ht:∀a vs,StT H a vs->StT H' a vs):∀ {v:V} {d:D},RepD K H v d->RepD K H' v d
 | v,.non,h=>by unfold RepD at h ⊢;exact h
 | v,.bl b,h=>by unfold RepD at h ⊢;exact h
 | v,.int i,h=>by unfold RepD at h ⊢;exact h
 | v,.str x,h=>by unfold RepD at h ⊢;exact h
 | v,.tup ds,h=>by
  unfold RepD at h ⊢
  obtain⟨a,vs,e,h1,h2⟩:=h
  exact⟨a,vs,e,ht _ _ h1,RepDs.keep hl ht h2⟩
 | v,.lst ds,h=>by
  unfold RepD at h ⊢
  obtain⟨a,vs,e,h1,h2⟩:=h
  exact⟨a,vs,e,hl _ _ h1,RepDs.keep hl ht h2⟩
theorem RepDs.keep (hl:∀a vs,StL H a vs->StL H' a vs)(ht:∀a vs,StT H a vs->StT H' a vs):∀ {vs:List V} {ds:List D},RepDs K H vs ds->RepDs K H' vs ds
 | [],[],_=>RepDs.nil
 | v::vs,d::ds,h=>by
  unfold RepDs at h ⊢
  exact⟨RepD.keep hl ht h.1,RepDs.keep hl ht h.2⟩
 | [],d::ds,h=>by unfold RepDs at h;exact h.elim
 | v::vs,[],h=>by unfold RepDs at h;exact h.elim
end
theorem RepD.same {v:V}{d:D}(h:RepD K H v d)(s:Same H H'):RepD K H' v d:=h.keep (fun _ _ q=>s _ _ q) fun _ _ q=>s _ _ q
theorem RepDs.same {vs:List V}{ds:List D}(h:RepDs K H vs ds)(s:Same H H'):RepDs K H' vs ds:=h.keep (fun _ _ q=>s _ _ q) fun _ _ q=>s _ _ q
end
mutual
theorem i0o:∀d:D,eqD d d=true
 | .non=>by simp[eqD]
 | .bl b=>by simp[eqD]
 | .int i=>by simp[eqD]
 | .str x=>by simp[eqD]
 | .tup ds=>by unfold eqD;exact eqDs_refl ds
 | .lst ds=>by unfold eqD;exact eqDs_refl ds
theorem eqDs_refl:∀ds:List D,eqDs ds ds=true
 | []=>by simp[eqDs]
 | d::ds=>by unfold eqDs;rw[i0o d,eqDs_refl ds];rfl
end
section
variable {X:Cx}{pins:List (Addr×Obj)}{σ:St}{H:Hp}{s:Shared}
mutual
theorem l0r (I:Inv X pins σ H s):∀ {v:V} {d e:D},RepD X.K H v d->RepD X.K H v e->d=e
 | v,.non,e,h,h'=>by
  unfold RepD at h;subst h
  cases e <;> (unfold RepD at h';first | rfl | (obtain⟨_,_,z,_⟩:=h';cases z) | cases h')
 | v,.bl b,e,h,h'=>by
  unfold RepD at h;subst h
  cases e <;> (unfold RepD at h';first | (cases h';rfl) | (obtain⟨_,_,z,_⟩:=h';cases z) | cases h')
 | v,.int b,e,h,h'=>by
  unfold RepD at h;subst h
  cases e <;> (unfold RepD at h';first | (cases h';rfl) | (obtain⟨_,_,z,_⟩:=h';cases z) | cases h')
 | v,.str b,e,h,h'=>by
  unfold RepD at h;subst h
  cases e <;> (unfold RepD at h';first | (cases h';rfl) | (obtain⟨_,_,z,_⟩:=h';cases z) | cases h')
 | v,.tup ds,e,h,h'=>by
  unfold RepD at h
  obtain⟨a,vs,rfl,h1,h2⟩:=h
  cases e with
  | tup es =>
   unfold RepD at h'
   obtain⟨b,ws,z,g1,g2⟩:=h'
   cases z
   rw[I.tuple_inj g1.sq h1.sq]at g2
   rw[repDs_inj I h2 g2]
  | lst es =>
   unfold RepD at h'
   obtain⟨b,ws,z,g1,g2⟩:=h'
   cases z
   obtain⟨_,_,⟨o,n,e1,c1,_⟩,_⟩:=I.list (StL.sq g1)
   obtain⟨_,_,⟨o',e2,c2,_⟩,_⟩:=I.tuple h1.sq
   rw[e1]at e2;cases e2
   rw[c1]at c2
   exact absurd c2 (by decide)
  | non=>unfold RepD at h';cases h'
  | bl _=>unfold RepD at h';cases h'
  | int _=>unfold RepD at h';cases h'
  | str _=>unfold RepD at h';cases h'
 | v,.lst ds,e,h,h'=>by
  unfold RepD at h
  obtain⟨a,vs,rfl,h1,h2⟩:=h
  cases e with
  | lst es =>
   unfold RepD at h'
   obtain⟨b,ws,z,g1,g2⟩:=h'
   cases z
   rw[I.list_inj (StL.sq g1) (StL.sq h1)]at g2
   rw[repDs_inj I h2 g2]
  | tup es =>
   unfold RepD at h'
   obtain⟨b,ws,z,g1,g2⟩:=h'
   cases z
   obtain⟨_,_,⟨o,n,e1,c1,_⟩,_⟩:=I.list (StL.sq h1)
   obtain⟨_,_,⟨o',e2,c2,_⟩,_⟩:=I.tuple g1.sq
   rw[e1]at e2;cases e2
   rw[c1]at c2
   exact absurd c2 (by decide)
  | non=>unfold RepD at h';cases h'
  | bl _=>unfold RepD at h';cases h'
  | int _=>unfold RepD at h';cases h'
  | str _=>unfold RepD at h';cases h'
theorem repDs_inj (I:Inv X pins σ H s):∀ {vs:List V} {ds es:List D},RepDs X.K H vs ds->RepDs X.K H vs es->ds=es
 | [],[],[],_,_=>rfl
 | v::vs,d::ds,e::es,h,h'=>by
  unfold RepDs at h h'
  rw[l0r I h.1 h'.1,repDs_inj I h.2 h'.2]
 | [],d::ds,_,h,_=>by unfold RepDs at h;exact h.elim
 | v::vs,[],_,h,_=>by unfold RepDs at h;exact h.elim
 | [],_,d::ds,_,h=>by unfold RepDs at h;exact h.elim
 | v::vs,_,[],_,h=>by unfold RepDs at h;exact h.elim
end
end
theorem f0q (A:Around):A.in1.units=A.units+1:=rfl
theorem o0q:∀ {ds:List D} {j:Nat} {d:D},ds[j]? = some d->d.depth<=depths ds
 | [],_,_,h=>by simp at h
 | d::ds,0,_,h=>by simp at h;subst h;unfold depths;omega
 | d::ds,j+1,e,h=>by
  have:=o0q (ds:=ds) (j:=j) (by simpa using h)
  unfold depths;omega
def s0l (ds es:List D)(j:Nat):Bool:=match ds[j]?,es[j]? with
 | some d,some e=>eqD d e
 | _,_=>true
theorem g0p:∀ {ds es:List D},ds.length=es.length->(List.range ds.length).all (s0l ds es)=eqDs ds es
 | [],[],_=>by simp[eqDs]
 | d::ds,e::es,h=>by
  have ih:=g0p (ds:=ds) (es:=es) (by simpa using h)
  rw[List.length_cons,List.range_succ_eq_map,List.all_cons,List.all_map]
  unfold eqDs
  rw[<- ih]
  congr 1
 | [],_::_,h=>by simp at h
 | _::_,[],h=>by simp at h
theorem e0u:∀ {ds es:List D},ds.length≠es.length->eqDs ds es=false
 | [],[],h=>absurd rfl h
 | [],_::_,_=>by simp[eqDs]
 | _::_,[],_=>by simp[eqDs]
 | d::ds,e::es,h=>by
  unfold eqDs
  rw[e0u (ds:=ds) (es:=es) (by simpa using h),Bool.and_false]
section
variable {X:Cx}{pins:List (Addr×Obj)}{σ:St}{H:Hp}{s:Shared}
theorem l0s (I:Inv X pins σ H s){m:Nat}(ih:∀ {A:Around} {v u:V} {vv uu:Value} {d e:D},d.depth<=m->A.units+m<cLine->RelV v vv->RelV u uu->RepD X.K H v d->RepD X.K H u e->SeqAt.EqAt A s vv uu (eqD d e)){A:Around}(hu:A.units+m<cLine)
  {vs us:List V} {vvs uus:List Value} {ds es:List D} (hd:depths ds<=m) (rv:Vals vs vvs) (ru:Vals us uus) (hv:RepDs X.K H vs ds) (he:RepDs X.K H us es) :
  ∀j (h1:j<vvs.toArray.size) (h2:j<uus.toArray.size),SeqAt.EqAt A s vvs.toArray[j] uus.toArray[j] (s0l ds es j):=by
 intro j h1 h2
 rw[List.size_toArray]at h1 h2
 have l1:=rv.length
 have l2:=ru.length
 have g1:vs[j]? = some vs[j]:=List.getElem?_eq_getElem (by omega)
 have g2:us[j]? = some us[j]:=List.getElem?_eq_getElem (by omega)
 obtain⟨x,ex,rx⟩:=rv.get g1
 obtain⟨y,ey,ry⟩:=ru.get g2
 obtain⟨d,ed,rd⟩:=hv.getV g1
 obtain⟨e,ee,re⟩:=he.getV g2
 rw[List.getElem?_eq_getElem h1]at ex
 rw[List.getElem?_eq_getElem h2]at ey
 cases ex
 cases ey
 have:s0l ds es j=eqD d e:=by unfold s0l;rw[ed,ee]
 rw[this,List.getElem_toArray,List.getElem_toArray]
 exact ih (Nat.le_trans (o0q ed) hd) hu rx ry rd re
theorem g1p (I:Inv X pins σ H s)(n:Nat)(ih:0<n->∀ {A:Around} {v u:V} {vv uu:Value} {d e:D},d.depth<=n - 1->A.units+(n - 1)<cLine->RelV v vv->RelV u uu->RepD X.K H v d->RepD X.K H u e->SeqAt.EqAt A s vv uu (eqD d e))
  {A:Around} {v u:V} {vv uu:Value} {d e:D} (hd:d.depth<=n) (hu:A.units+n<cLine) (rv:RelV v vv) (ru:RelV u uu) (hv:RepD X.K H v d) (he:RepD X.K H u e):SeqAt.RcAt A s vv uu (eqD d e)/\SeqAt.EqAt A s vv uu (eqD d e):=by
 have hu0:A.units<cLine:=by omega
 have isL:∀ {a xs},StL H a xs->∃its:List Value,Vals xs its/\s.heap.IsList a its.toArray:=fun q=>by
  obtain⟨its,r,p,_⟩:=I.list q.sq
  exact⟨its,r,p.isList⟩
 have isT:∀ {a xs},StT H a xs->∃its:List Value,Vals xs its/\s.heap.IsTuple a its.toArray:=fun q=>by
  obtain⟨its,r,p,_⟩:=I.tuple q.sq
  exact⟨its,r,p⟩
 cases d with
 | non =>
  unfold RepD at hv;subst hv;cases rv
  cases e with
  | non=>unfold RepD at he;subst he;cases ru;exact⟨.none_none,.same _⟩
  | bl b=>unfold RepD at he;subst he;cases ru;exact⟨.none_bool _,.none_bool _⟩
  | int b=>unfold RepD at he;subst he;obtain⟨t,rfl⟩:=ru;exact⟨.none_int _ _,.none_int _ _⟩
  | str b=>unfold RepD at he;subst he;obtain⟨t,rfl⟩:=ru;exact⟨.none_str _ _,.none_str _ _⟩
  | tup es=>unfold RepD at he;obtain⟨a,vs,rfl,q,_⟩:=he;cases ru;obtain⟨its,_,q⟩:=isT q;exact⟨.none_tuple q hu0,.none_tuple q hu0⟩
  | lst es=>unfold RepD at he;obtain⟨a,vs,rfl,q,_⟩:=he;cases ru;obtain⟨its,_,q⟩:=isL q;exact⟨.none_list q hu0,.none_list q hu0⟩
 | bl x =>
  unfold RepD at hv;subst hv;cases rv
  cases e with
  | non=>unfold RepD at he;subst he;cases ru;exact⟨.bool_none _,.bool_none _⟩
  | bl b=>unfold RepD at he;subst he;cases ru;exact⟨.bool_bool _ _,.bool_bool _ _⟩
  | int b=>unfold RepD at he;subst he;obtain⟨t,rfl⟩:=ru;exact⟨.bool_int _ _ _,.bool_int _ _ _⟩
  | str b=>unfold RepD at he;subst he;obtain⟨t,rfl⟩:=ru;exact⟨.bool_str _ _ _,.bool_str _ _ _⟩
  | tup es=>unfold RepD at he;obtain⟨a,vs,rfl,q,_⟩:=he;cases ru;obtain⟨its,_,q⟩:=isT q;exact⟨.bool_tuple _ q hu0,.bool_tuple _ q hu0⟩
  | lst es=>unfold RepD at he;obtain⟨a,vs,rfl,q,_⟩:=he;cases ru;obtain⟨its,_,q⟩:=isL q;exact⟨.bool_list _ q hu0,.bool_list _ q hu0⟩
 | int x =>
  unfold RepD at hv;subst hv;obtain⟨t0,rfl⟩:=rv
  cases e with
  | non=>unfold RepD at he;subst he;cases ru;exact⟨.int_none _ _,.int_none _ _⟩
  | bl b=>unfold RepD at he;subst he;cases ru;exact⟨.int_bool _ _ _,.int_bool _ _ _⟩
  | int b=>unfold RepD at he;subst he;obtain⟨t,rfl⟩:=ru;exact⟨.int_int _ _ _ _,.int_int _ _ _ _⟩
  | str b=>unfold RepD at he;subst he;obtain⟨t,rfl⟩:=ru;exact⟨.int_str _ _ _ _,.int_str _ _ _ _⟩
  | tup es=>unfold RepD at he;obtain⟨a,vs,rfl,q,_⟩:=he;cases ru;obtain⟨its,_,q⟩:=isT q;exact⟨.int_tuple _ _ q hu0,.int_tuple _ _ q hu0⟩
  | lst es=>unfold RepD at he;obtain⟨a,vs,rfl,q,_⟩:=he;cases ru;obtain⟨its,_,q⟩:=isL q;exact⟨.int_list _ _ q hu0,.int_list _ _ q hu0⟩
 | str x =>
  unfold RepD at hv;subst hv;obtain⟨t0,rfl⟩:=rv
  cases e with
  | non=>unfold RepD at he;subst he;cases ru;exact⟨.str_none _ _,.str_none _ _⟩
  | bl b=>unfold RepD at he;subst he;cases ru;exact⟨.str_bool _ _ _,.str_bool _ _ _⟩
  | int b=>unfold RepD at he;subst he;obtain⟨t,rfl⟩:=ru;exact⟨.str_int _ _ _ _,.str_int _ _ _ _⟩
  | str b=>unfold RepD at he;subst he;obtain⟨t,rfl⟩:=ru;exact⟨.str_str _ _ _ _,.str_str _ _ _ _⟩
  | tup es=>unfold RepD at he;obtain⟨a,vs,rfl,q,_⟩:=he;cases ru;obtain⟨its,_,q⟩:=isT q;exact⟨.str_tuple _ _ q hu0,.str_tuple _ _ q hu0⟩
  | lst es=>unfold RepD at he;obtain⟨a,vs,rfl,q,_⟩:=he;cases ru;obtain⟨its,_,q⟩:=isL q;exact⟨.str_list _ _ q hu0,.str_list _ _ q hu0⟩
 | tup ds =>
  have hv0:=hv
  unfold RepD at hv
  obtain⟨a,vs,rfl,q,hq⟩:=hv
  cases rv
  obtain⟨its,r1,q1⟩:=isT q
  cases e with
  | non=>unfold RepD at he;subst he;cases ru;exact⟨.tuple_none q1 hu0,.tuple_none q1 hu0⟩
  | bl b=>unfold RepD at he;subst he;cases ru;exact⟨.tuple_bool _ q1 hu0,.tuple_bool _ q1 hu0⟩
  | int b=>unfold RepD at he;subst he;obtain⟨t,rfl⟩:=ru;exact⟨.tuple_int _ _ q1 hu0,.tuple_int _ _ q1 hu0⟩
  | str b=>unfold RepD at he;subst he;obtain⟨t,rfl⟩:=ru;exact⟨.tuple_str _ _ q1 hu0,.tuple_str _ _ q1 hu0⟩
  | lst es=>unfold RepD at he;obtain⟨b,ws,rfl,g,_⟩:=he;cases ru;obtain⟨its2,_,g1⟩:=isL g;exact⟨.tuple_list q1 g1 hu0,.tuple_list q1 g1 hu0⟩
  | tup es =>
   have he0:=he
   unfold RepD at he
   obtain⟨b,ws,rfl,g,hg⟩:=he
   cases ru
   obtain⟨its2,r2,g1⟩:=isT g
   have hd':depths ds+1<=n:=by simpa [D.depth] using hd
   have l1:=r1.length
   have l2:=r2.length
   have m1:=hq.length
   have m2:=hg.length
   have rc:SeqAt.RcAt A s (.ref a) (.ref b) (eqD (.tup ds) (.tup es)):=by
    have:=SeqAt.RcAt.tuples (e:=s0l ds es) q1 g1 hu0 (l0s I (fun{A} {v} {u} {vv} {uu} {d} {e}=>ih (by omega) (A:=A)) (A:=A.in1) (by rw[f0q];omega) (m:=n - 1) (by omega) r1 r2 hq hg)
    rw[List.size_toArray,List.size_toArray]at this
    unfold eqD
    by_cases hl:ds.length=es.length
    ·have z:(its.length==its2.length)=true:=by rw[beq_iff_eq];omega
     have mm:min its.length its2.length=ds.length:=by omega
     rw[z,Bool.and_true,mm,g0p hl]at this
     exact this
    ·have z:(its.length==its2.length)=false:=by rw[beq_eq_false_iff_ne];omega
     rw[z,Bool.and_false]at this
     rw[e0u hl]
     exact this
   refine⟨rc,?_⟩
   by_cases hab:a=b
   ·subst hab
    rw[l0r I hv0 he0,i0o]
    exact .same _
   ·exact .of_refs hab rc
 | lst ds =>
  have hv0:=hv
  unfold RepD at hv
  obtain⟨a,vs,rfl,q,hq⟩:=hv
  cases rv
  obtain⟨its,r1,q1⟩:=isL q
  cases e with
  | non=>unfold RepD at he;subst he;cases ru;exact⟨.list_none q1 hu0,.list_none q1 hu0⟩
  | bl b=>unfold RepD at he;subst he;cases ru;exact⟨.list_bool _ q1 hu0,.list_bool _ q1 hu0⟩
  | int b=>unfold RepD at he;subst he;obtain⟨t,rfl⟩:=ru;exact⟨.list_int _ _ q1 hu0,.list_int _ _ q1 hu0⟩
  | str b=>unfold RepD at he;subst he;obtain⟨t,rfl⟩:=ru;exact⟨.list_str _ _ q1 hu0,.list_str _ _ q1 hu0⟩
  | tup es=>unfold RepD at he;obtain⟨b,ws,rfl,g,_⟩:=he;cases ru;obtain⟨its2,_,g1⟩:=isT g;exact⟨.list_tuple q1 g1 hu0,.list_tuple q1 g1 hu0⟩
  | lst es =>
   have he0:=he
   unfold RepD at he
   obtain⟨b,ws,rfl,g,hg⟩:=he
   cases ru
   obtain⟨its2,r2,g1⟩:=isL g
   have hd':depths ds+1<=n:=by simpa [D.depth] using hd
   have l1:=r1.length
   have l2:=r2.length
   have m1:=hq.length
   have m2:=hg.length
   have rc:SeqAt.RcAt A s (.ref a) (.ref b) (eqD (.lst ds) (.lst es)):=by
    unfold eqD
    by_cases hl:ds.length=es.length
    ·have:=SeqAt.RcAt.lists (e:=s0l ds es) q1 g1 (by rw[List.size_toArray,List.size_toArray];omega) hu0 (l0s I (fun{A} {v} {u} {vv} {uu} {d} {e}=>ih (by omega) (A:=A)) (A:=A.in1) (by rw[f0q];omega) (m:=n - 1) (by omega) r1 r2 hq hg)
     rw[List.size_toArray,show its.length=ds.length by omega,g0p hl]at this
     exact this
    ·rw[e0u hl]
     exact SeqAt.RcAt.lists_lengths q1 g1 (by rw[List.size_toArray,List.size_toArray,bne_iff_ne];omega) hu0
   refine⟨rc,?_⟩
   by_cases hab:a=b
   ·subst hab
    rw[l0r I hv0 he0,i0o]
    exact .same _
   ·exact .of_refs hab rc
theorem w0e (I:Inv X pins σ H s):∀(n:Nat) {A:Around} {v u:V} {vv uu:Value} {d e:D},d.depth<=n->A.units+n<cLine->RelV v vv->RelV u uu->RepD X.K H v d->RepD X.K H u e ->
  SeqAt.RcAt A s vv uu (eqD d e)/\SeqAt.EqAt A s vv uu (eqD d e):=by
 intro n
 induction n with
 | zero=>exact fun hd hu=>g1p I 0 (fun hlt=>absurd hlt (by omega)) hd hu
 | succ n ih=>exact fun hd hu=>g1p I (n+1) (fun _ A v u vv uu d e h1 h2 h3 h4 h5 h6=>(ih (A:=A) h1 h2 h3 h4 h5 h6).2) hd hu
end
section
variable {X:Cx}(K:PySem.W.Frag)
def rEqD (K:PySem.W.Frag):R2:=fun x y H Q=>∃d e,RepD K H x d/\RepD K H y e/\d.depth<=60/\Q (.bl (eqD d e)) H
def rNeD (K:PySem.W.Frag):R2:=fun x y H Q=>∃d e,RepD K H x d/\RepD K H y e/\d.depth<=60/\Q (.bl (!eqD d e)) H
theorem k0x (hu:X.A.units+64<cLine)(hK:X.K=K:=by rfl):OpR X (compareOp .Eq) (rEqD K):=by
 subst hK
 intro pins s σ H x y v u Q I rx ry h
 obtain⟨d,e,hd,he,hz,q⟩:=h
 exact(w0e I 60 hz (by omega) rx ry hd he).1 X.prog X.w _ _ ⟨.bl _,H,I,rfl,q⟩
theorem l1j {pins:List (Addr×Obj)}{σ:St}{H:Hp}{s:Shared}(I:Inv X pins σ H s){A:Around}{v u:V}{vv uu:Value}{d e:D}(hd:d.depth<=60)(hu:A.units+61<cLine)(rv:RelV v vv)(ru:RelV u uu)(hv:RepD X.K H v d)(he:RepD X.K H u e) :
  SeqAt.RcNeAt A s vv uu (!eqD d e):=by
 have hu0:A.units<cLine:=by omega
 have isL:∀ {a xs},StL H a xs->∃its:List Value,Vals xs its/\s.heap.IsList a its.toArray:=fun q=>by
  obtain⟨its,r,p,_⟩:=I.list q.sq
  exact⟨its,r,p.isList⟩
 have isT:∀ {a xs},StT H a xs->∃its:List Value,Vals xs its/\s.heap.IsTuple a its.toArray:=fun q=>by
  obtain⟨its,r,p,_⟩:=I.tuple q.sq
  exact⟨its,r,p⟩
 cases d with
 | non =>
  unfold RepD at hv;subst hv;cases rv
  cases e with
  | non=>unfold RepD at he;subst he;cases ru;exact .none_none
  | bl b=>unfold RepD at he;subst he;cases ru;exact .none_bool _
  | int b=>unfold RepD at he;subst he;obtain⟨t,rfl⟩:=ru;exact .none_int _ _
  | str b=>unfold RepD at he;subst he;obtain⟨t,rfl⟩:=ru;exact .none_str _ _
  | tup es=>unfold RepD at he;obtain⟨a,vs,rfl,q,_⟩:=he;cases ru;obtain⟨its,_,q⟩:=isT q;exact .none_tuple q hu0
  | lst es=>unfold RepD at he;obtain⟨a,vs,rfl,q,_⟩:=he;cases ru;obtain⟨its,_,q⟩:=isL q;exact .none_list q hu0
 | bl x =>
  unfold RepD at hv;subst hv;cases rv
  cases e with
  | non=>unfold RepD at he;subst he;cases ru;exact .bool_none _
  | bl b=>unfold RepD at he;subst he;cases ru;exact .bool_bool _ _
  | int b=>unfold RepD at he;subst he;obtain⟨t,rfl⟩:=ru;exact .bool_int _ _ _
  | str b=>unfold RepD at he;subst he;obtain⟨t,rfl⟩:=ru;exact .bool_str _ _ _
  | tup es=>unfold RepD at he;obtain⟨a,vs,rfl,q,_⟩:=he;cases ru;obtain⟨its,_,q⟩:=isT q;exact .bool_tuple _ q hu0
  | lst es=>unfold RepD at he;obtain⟨a,vs,rfl,q,_⟩:=he;cases ru;obtain⟨its,_,q⟩:=isL q;exact .bool_list _ q hu0
 | int x =>
  unfold RepD at hv;subst hv;obtain⟨t0,rfl⟩:=rv
  cases e with
  | non=>unfold RepD at he;subst he;cases ru;exact .int_none _ _
  | bl b=>unfold RepD at he;subst he;cases ru;exact .int_bool _ _ _
  | int b=>unfold RepD at he;subst he;obtain⟨t,rfl⟩:=ru;exact .int_int _ _ _ _
  | str b=>unfold RepD at he;subst he;obtain⟨t,rfl⟩:=ru;exact .int_str _ _ _ _
  | tup es=>unfold RepD at he;obtain⟨a,vs,rfl,q,_⟩:=he;cases ru;obtain⟨its,_,q⟩:=isT q;exact .int_tuple _ _ q hu0
  | lst es=>unfold RepD at he;obtain⟨a,vs,rfl,q,_⟩:=he;cases ru;obtain⟨its,_,q⟩:=isL q;exact .int_list _ _ q hu0
 | str x =>
  unfold RepD at hv;subst hv;obtain⟨t0,rfl⟩:=rv
  cases e with
  | non=>unfold RepD at he;subst he;cases ru;exact .str_none _ _
  | bl b=>unfold RepD at he;subst he;cases ru;exact .str_bool _ _ _
  | int b=>unfold RepD at he;subst he;obtain⟨t,rfl⟩:=ru;exact .str_int _ _ _ _
  | str b=>unfold RepD at he;subst he;obtain⟨t,rfl⟩:=ru;exact .str_str _ _ _ _
  | tup es=>unfold RepD at he;obtain⟨a,vs,rfl,q,_⟩:=he;cases ru;obtain⟨its,_,q⟩:=isT q;exact .str_tuple _ _ q hu0
  | lst es=>unfold RepD at he;obtain⟨a,vs,rfl,q,_⟩:=he;cases ru;obtain⟨its,_,q⟩:=isL q;exact .str_list _ _ q hu0
 | tup ds =>
  unfold RepD at hv
  obtain⟨a,vs,rfl,q,hq⟩:=hv
  cases rv
  obtain⟨its,r1,q1⟩:=isT q
  cases e with
  | non=>unfold RepD at he;subst he;cases ru;exact .tuple_none q1 hu0
  | bl b=>unfold RepD at he;subst he;cases ru;exact .tuple_bool _ q1 hu0
  | int b=>unfold RepD at he;subst he;obtain⟨t,rfl⟩:=ru;exact .tuple_int _ _ q1 hu0
  | str b=>unfold RepD at he;subst he;obtain⟨t,rfl⟩:=ru;exact .tuple_str _ _ q1 hu0
  | lst es=>unfold RepD at he;obtain⟨b,ws,rfl,g,_⟩:=he;cases ru;obtain⟨its2,_,g1⟩:=isL g;exact .tuple_list q1 g1 hu0
  | tup es =>
   unfold RepD at he
   obtain⟨b,ws,rfl,g,hg⟩:=he
   cases ru
   obtain⟨its2,r2,g1⟩:=isT g
   have hd':depths ds+1<=60:=by simpa [D.depth] using hd
   have l1:=r1.length
   have l2:=r2.length
   have m1:=hq.length
   have m2:=hg.length
   have:=SeqAt.RcNeAt.tuples (e:=s0l ds es) q1 g1 hu0 (l0s I (fun{A} {v} {u} {vv} {uu} {d} {e} a1 a2 a3 a4 a5 a6=>(w0e I 60 a1 a2 a3 a4 a5 a6).2) (A:=A.in1) (by rw[f0q];omega) (m:=60) (by omega) r1 r2 hq hg)
   rw[List.size_toArray,List.size_toArray]at this
   unfold eqD
   by_cases hl:ds.length=es.length
   ·have z:(its.length==its2.length)=true:=by rw[beq_iff_eq];omega
    have mm:min its.length its2.length=ds.length:=by omega
    rw[z,Bool.and_true,mm,g0p hl]at this
    exact this
   ·have z:(its.length==its2.length)=false:=by rw[beq_eq_false_iff_ne];omega
    rw[z,Bool.and_false]at this
    rw[e0u hl]
    exact this
 | lst ds =>
  unfold RepD at hv
  obtain⟨a,vs,rfl,q,hq⟩:=hv
  cases rv
  obtain⟨its,r1,q1⟩:=isL q
  cases e with
  | non=>unfold RepD at he;subst he;cases ru;exact .list_none q1 hu0
  | bl b=>unfold RepD at he;subst he;cases ru;exact .list_bool _ q1 hu0
  | int b=>unfold RepD at he;subst he;obtain⟨t,rfl⟩:=ru;exact .list_int _ _ q1 hu0
  | str b=>unfold RepD at he;subst he;obtain⟨t,rfl⟩:=ru;exact .list_str _ _ q1 hu0
  | tup es=>unfold RepD at he;obtain⟨b,ws,rfl,g,_⟩:=he;cases ru;obtain⟨its2,_,g1⟩:=isT g;exact .list_tuple q1 g1 hu0
  | lst es =>
   unfold RepD at he
   obtain⟨b,ws,rfl,g,hg⟩:=he
   cases ru
   obtain⟨its2,r2,g1⟩:=isL g
   have hd':depths ds+1<=60:=by simpa [D.depth] using hd
   have l1:=r1.length
   have l2:=r2.length
   have m1:=hq.length
   have m2:=hg.length
   unfold eqD
   by_cases hl:ds.length=es.length
   ·have:=SeqAt.RcNeAt.lists (e:=s0l ds es) q1 g1 (by rw[List.size_toArray,List.size_toArray];omega) hu0 (l0s I (fun{A} {v} {u} {vv} {uu} {d} {e} a1 a2 a3 a4 a5 a6=>(w0e I 60 a1 a2 a3 a4 a5 a6).2) (A:=A.in1) (by rw[f0q];omega) (m:=60) (by omega) r1 r2 hq hg)
    rw[List.size_toArray,show its.length=ds.length by omega,g0p hl]at this
    exact this
   ·rw[e0u hl]
    exact SeqAt.RcNeAt.lists_lengths q1 g1 (by rw[List.size_toArray,List.size_toArray,bne_iff_ne];omega) hu0
theorem w0l (hu:X.A.units+64<cLine)(hK:X.K=K:=by rfl):OpR X (compareOp .NotEq) (rNeD K):=by
 subst hK
 intro pins s σ H x y v u Q I rx ry h
 obtain⟨d,e,hd,he,hz,q⟩:=h
 exact l1j I hz (by omega) rx ry hd he X.prog X.w _ _ ⟨.bl _,H,I,rfl,q⟩
theorem i0z (ns:List Int):∀j,j<=ns.length->preSum (fun i=>ns.getD i 0) j=(ns.take j).sum
 | 0,_=>by simp[preSum]
 | j+1,h=>by
  rw[preSum,i0z ns j (by omega),List.take_add_one,List.sum_append]
  have:ns[j]? = some ns[j]:=List.getElem?_eq_getElem (by omega)
  rw[this,List.getD_eq_getElem?_getD,this]
  simp
theorem m0a {ns:List Int}(h:∀n∈ns,0<=n):∀j,0<=(ns.take j).sum/\(ns.take j).sum<=ns.sum:=by
 induction ns with
 | nil=>intro j;simp
 | cons a r ih =>
  intro j
  have ha:=h a List.mem_cons_self
  have ih':=ih fun n hn=>h n (List.mem_cons_of_mem _ hn)
  have h0:=ih' r.length
  rw[List.take_length]at h0
  cases j with
  | zero=>simp;omega
  | succ j =>
   have:=ih' j
   simp only[List.take_succ_cons,List.sum_cons]
   omega
theorem y0c {ns:List Int}(h:∀n∈ns,0<=n):∀n∈ns,n<=ns.sum:=by
 induction ns with
 | nil=>intro n hn;cases hn
 | cons a r ih =>
  intro n hn
  have ha:=h a List.mem_cons_self
  have hr:∀n∈r,0<=n:=fun n hn=>h n (List.mem_cons_of_mem _ hn)
  have h0:=m0a hr r.length
  rw[List.take_length]at h0
  rw[List.sum_cons]
  rcases List.mem_cons.mp hn with rfl | hn
  ·omega
  ·have:=ih hr n hn
   omega
theorem d1a (hc:X.calm=true)(hK:X.K=K:=by rfl):h0n X (.builtin "sum") (fun xs H Q=>∃(p:Addr) (ns:List Int),xs=[.ref p]/\SqL K H p (ns.map V.int)/\(∀n∈ns,0<=n)/\ns.sum<2^62/\Q (.int ns.sum) H):=by
 subst hK
 intro pins s σ H xs us Q I r h
 obtain⟨p,ns,rfl,hq,h0,hb,q⟩:=h
 obtain⟨u,rfl,ru⟩:=i0q r
 cases ru
 obtain⟨its,rv,pl,hz⟩:=I.list hq
 refine call_sum_walk (wpAny_pyIter_list pl.isList ?_)
 have hne:p≠s.heap.objs.size:=Nat.ne_of_lt (by obtain⟨o,n,e,_⟩:=pl;exact Heap.lt_size e)
 have hl:its.length=ns.length:=by have:=rv.length;rw[List.length_map]at this;omega
 refine⟨s.heap.objs.size,_,_,_,_,_,fun i=>ns.getD i 0,rfl,Walks.list (A:=X.A.in1) (show X.A.in1.handled=none from I.ok.hd hc) s.heap.objs.size p hne its.toArray,⟨⟨_,Heap.get?_push_size _ rfl,rfl,rfl⟩,?_⟩,fun b hb=>?_,fun i v hv=>?_,fun j hj=>?_,fun h' tk t' hk=>?_⟩
 ·exact pl.isList.at fun o e=>Heap.get?_push_of_some _ e
 ·rw[Heap.size_push]
  rcases List.mem_cons.mp hb with rfl | hb
  ·exact Nat.lt_succ_self _
  ·rw[List.mem_singleton.mp hb]
   obtain⟨o,n,e,_⟩:=pl
   exact Nat.lt_succ_of_lt (Heap.lt_size e)
 ·have hv':its[i]? = some v:=by simpa using hv
  have hi:i<its.length:=(List.getElem?_eq_some_iff.mp hv').1
  obtain⟨w,e1,e2⟩:=rv.get (i:=i) (x:=V.int ns[i]) (by rw[List.getElem?_map,List.getElem?_eq_getElem (by omega)];rfl)
  rw[hv']at e1;cases e1
  obtain⟨t,rfl⟩:=e2
  exact⟨t,by show _=Value.int (ns.getD i 0) t;rw[List.getD_eq_getElem?_getD,List.getElem?_eq_getElem (by omega)];rfl⟩
 ·rw[List.size_toArray]at hj
  have m1:ns.getD j 0∈ns:=by
   rw[List.getD_eq_getElem?_getD,List.getElem?_eq_getElem (by omega)]
   exact List.getElem_mem _
  have a1:=h0 _ m1
  have a2:=y0c h0 _ m1
  have a3:=m0a h0 (j+1)
  rw[i0z ns (j+1) (by omega)]
  exact⟨⟨by show _<=ns.getD j 0;omega,by show ns.getD j 0<_;omega⟩,by omega,by omega⟩
 ·rw[List.size_toArray,hl,i0z ns _ (Nat.le_refl _),List.take_length]
  refine⟨.int ns.sum,H,I.kept fun b o e=>?_,⟨_,rfl⟩,q⟩
  refine hk b o (fun z=>?_) (Heap.get?_push_of_some _ e)
  rw[List.mem_singleton.mp z]at e
  exact absurd (Heap.lt_size e) (Nat.lt_irrefl _)
theorem s0w (hc:X.calm=true)(hK:X.K=K:=by rfl):h0n X (.builtin "all") (fun xs H Q=>∃(p:Addr) (bs:List Bool),xs=[.ref p]/\SqL K H p (bs.map V.bl)/\Q (.bl (bs.all id)) H):=by
 subst hK
 intro pins s σ H xs us Q I r h
 obtain⟨p,bs,rfl,hq,q⟩:=h
 obtain⟨u,rfl,ru⟩:=i0q r
 cases ru
 obtain⟨its,rv,pl,hz⟩:=I.list hq
 refine call_all_walk (wpAny_pyIter_list pl.isList ?_)
 have hne:p≠s.heap.objs.size:=Nat.ne_of_lt (by obtain⟨o,n,e,_⟩:=pl;exact Heap.lt_size e)
 have hl:its.length=bs.length:=by have:=rv.length;rw[List.length_map]at this;omega
 refine⟨s.heap.objs.size,_,_,_,_,_,fun i=>bs.getD i true,rfl,Walks.list (A:=X.A.in1) (show X.A.in1.handled=none from I.ok.hd hc) s.heap.objs.size p hne its.toArray,⟨⟨_,Heap.get?_push_size _ rfl,rfl,rfl⟩,?_⟩,fun i v s' Q' E' hv hQ'=>?_,fun h' tk hk=>?_⟩
 ·exact pl.isList.at fun o e=>Heap.get?_push_of_some _ e
 ·have hv':its[i]? = some v:=by simpa using hv
  have hi:i<its.length:=(List.getElem?_eq_some_iff.mp hv').1
  obtain⟨w,e1,e2⟩:=rv.get (i:=i) (x:=V.bl bs[i]) (by rw[List.getElem?_map,List.getElem?_eq_getElem (by omega)];rfl)
  rw[hv']at e1;cases e1
  cases e2
  have hQ2:Q' (bs.getD i true) s':=hQ'
  rw[List.getD_eq_getElem?_getD,List.getElem?_eq_getElem (by omega)]at hQ2
  exact wpAny_truthy_bool hQ2
 ·rw[List.size_toArray,hl]
  have e:((List.range bs.length).all fun i=>bs.getD i true)=bs.all id:=by
   rw[Bool.eq_iff_iff]
   simp only[List.all_eq_true,List.mem_range,id]
   constructor
   ·intro g b hb
    obtain⟨i,hi,rfl⟩:=List.getElem_of_mem hb
    have:=g i hi
    rw[List.getD_eq_getElem?_getD,List.getElem?_eq_getElem hi]at this
    exact this
   ·intro g i hi
    rw[List.getD_eq_getElem?_getD,List.getElem?_eq_getElem hi]
    exact g _ (List.getElem_mem _)
  rw[e]
  refine⟨.bl (bs.all id),H,I.kept fun b o e=>?_,rfl,q⟩
  refine hk b o (fun z=>?_) (Heap.get?_push_of_some _ e)
  rw[List.mem_singleton.mp z]at e
  exact absurd (Heap.lt_size e) (Nat.lt_irrefl _)
end
abbrev u0f (ks:List Nat):List V:=ks.map fun j=>V.int (j:Nat)
abbrev a0e (ks:List Nat):List D:=ks.map fun j=>D.int (j:Nat)
theorem i1k {K:PySem.W.Frag}{H:Hp}:∀ {vs:List V} {ks:List Nat},RepDs K H vs (a0e ks)↔vs=u0f ks:=by
 intro vs ks
 have:=@g0b K H vs (ks.map fun j=>((j:Nat):Int))
 rw[List.map_map,List.map_map]at this
 exact this
section
variable {X:Cx}
theorem v0d:h0n X (.type "range") (fun xs H Q=>∃j:Int,xs=[.int j]/\∀p,H p=none->Q (.ref p) (upd H p (.rng 0 j))):=by
 intro pins s σ H xs us Q I r h
 obtain⟨j,rfl,q⟩:=h
 obtain⟨u,rfl,t,rfl⟩:=i0q r
 refine call_range_1 ?_
 exact⟨.ref s.heap.objs.size,upd H s.heap.objs.size (.rng 0 j),I.laid (fun b u e=>Heap.get?_push_of_some _ e) (Nat.le_refl _) ⟨_,_,_,Heap.get?_push_size _ rfl⟩,rfl,q _ (I.hok.fresh (Nat.le_refl _))⟩
theorem y0s (hc:X.calm=true):h0n X (.type "list") (fun xs H Q=>∃(p:Addr) (n:Nat),xs=[.ref p]/\H p=some (.rng 0 (n:Nat))/\n<=1000000/\∀l,H l=none->Q (.ref l) (upd H l (.lst (u0f (List.range n))))):=by
 intro pins s σ H xs us Q I r h
 obtain⟨p,n,rfl,hp,hn,q⟩:=h
 obtain⟨u,rfl,ru⟩:=i0q r
 cases ru
 obtain⟨t,u,v,e⟩:=(show d0y X.prog X.w H s.heap p (.rng 0 (n:Nat))from I.hok p _ hp)
 have hsz:Builtin.Range.rangeSize 0 (n:Int) 1=(n:Nat):=by rw[rangeSize_one];split <;> omega
 refine call_list_range (I.ok.hd hc) (show IsRange s.heap p 0 n 1 t u v from e) (small_one (by omega) (by omega) (by omega) (by omega)) hsz (Nat.le_trans hn (by decide)) fun h' tk acc c hk hl hi=>?_
 have hv:Vals (u0f (List.range n)) acc.toList:=by
  obtain⟨h1,h2⟩:=hi
  have gen:∀(m:Nat) (us:List Value),us.length=m->(∀(i:Nat) (v:Value),us[i]? = some v->∃t,v=Value.int (0+(i:Int)*1) t)->Vals (u0f (List.range m)) us:=by
   intro m
   induction m with
   | zero=>intro us e _;cases us with | nil=>exact .nil | cons _ _=>cases e
   | succ m ih =>
    intro us e hx
    have e1:us=us.take m++[us[m]]:=by
     rw[List.take_append_getElem]
     exact(List.take_of_length_le (by omega)).symm
    rw[e1,List.range_succ]
    unfold u0f
    rw[List.map_append]
    refine Vals.append (ih _ (by rw[List.length_take];omega) fun i v hv=>?_) ?_
    ·rw[List.getElem?_take]at hv
     split at hv
     ·exact hx i v hv
     ·cases hv
    ·obtain⟨t,ht⟩:=hx m us[m] (List.getElem?_eq_getElem (by omega))
     rw[ht]
     exact .cons ⟨t,by simp⟩ .nil
  refine gen n acc.toList (by simpa using h1) fun i v hv=>?_
  have hv':acc[i]? = some v:=by simpa using hv
  exact h2 i v hv'
 refine⟨.ref s.heap.objs.size,upd H s.heap.objs.size (.lst (u0f (List.range n))),I.laid (t':=tk) (fun b o e=>hk b o e) (Nat.le_refl _) ?_,rfl,q _ (I.hok.fresh (Nat.le_refl _))⟩
 refine⟨?_,acc.toList,c,hv,by simpa using hl⟩
 rw[List.length_map,List.length_range]
 exact Nat.le_trans hn (by decide)
end
section
variable {X:Cx}
theorem g1t:OpR X (compareOp .Is) (fun x y H Q=>∃a b,x = .bl a/\y = .bl b/\Q (.bl (a==b)) H):=by
 intro pins s σ H x y v u Q I rx ry h
 obtain⟨a,b,rfl,rfl,q⟩:=h
 cases rx
 cases ry
 refine wpAny_is_plain rfl (h1c I q ?_)
 cases a <;> cases b <;> rfl
theorem a1z:OpR X (compareOp .IsNot) (fun x y H Q=>∃a b,x = .bl a/\y = .bl b/\Q (.bl (!(a==b))) H):=by
 intro pins s σ H x y v u Q I rx ry h
 obtain⟨a,b,rfl,rfl,q⟩:=h
 cases rx
 cases ry
 refine wpAny_isNot_plain rfl (h1c I q ?_)
 cases a <;> cases b <;> rfl
end
structure Net where
 m:Nat
 js:List (Nat×Nat)
 os:List Nat
abbrev d0r (p:Nat×Nat):D:=.tup [.int (p.1:Nat),.int (p.2:Nat)]
def netD (N:Net):D:=.tup [.int (N.m:Nat),.tup (N.js.map d0r),.tup (a0e N.os)]
def a0m (rows:List Nat)(p:Nat×Nat):List Nat:=rows++[rows.getD p.1 0 ^^^ rows.getD p.2 0]
def a0z (m:Nat):List Nat:=(List.range m).map fun k=>1 <<< k
def b0g (N:Net):List Nat:=N.js.foldl a0m (a0z N.m)
def okIx:Nat->List (Nat×Nat)->Prop
 | _,[]=>True
 | n,p::r=>p.1<p.2/\p.2<n/\okIx (n+1) r
def okJs:List Nat->List (Nat×Nat)->Prop
 | _,[]=>True
 | rows,p::r=>p.1<p.2/\p.2<rows.length/\rows.getD p.1 0≠rows.getD p.2 0/\okJs (a0m rows p) r
structure n0i (N:Net):Prop where
 m1:1<=N.m
 m12:N.m<=12
 jl:N.js.length<=132
 js:okJs (a0z N.m) N.js
 o1:1<=N.os.length
 o24:N.os.length<=24
 os:∀o∈N.os,o<N.m+N.js.length
theorem d0s (rows:List Nat)(p:Nat×Nat):(a0m rows p).length=rows.length+1:=by simp[a0m]
theorem t0z:∀ {js:List (Nat×Nat)} {rows:List Nat},okJs rows js->okIx rows.length js
 | [],_,_=>trivial
 | p::r,rows,h=>by
  obtain⟨h1,h2,_,h4⟩:=h
  have:=t0z h4
  rw[d0s]at this
  exact⟨h1,h2,this⟩
theorem i0l:∀ {js:List (Nat×Nat)} {n i:Nat} {p:Nat×Nat},okIx n js->js[i]? = some p->p.1<p.2/\p.2<n+i
 | [],_,_,_,_,h=>by simp at h
 | q::r,n,0,p,h,e=>by
  simp at e;subst e
  exact⟨h.1,by have:=h.2.1;omega⟩
 | q::r,n,i+1,p,h,e=>by
  have:=i0l (n:=n+1) (i:=i) (p:=p) h.2.2 (by simpa using e)
  exact⟨this.1,by omega⟩
theorem w0n:∀ {js:List (Nat×Nat)} {rows:List Nat} {i:Nat} {p:Nat×Nat},okJs rows js->js[i]? = some p ->
  ((js.take i).foldl a0m rows).getD p.1 0≠((js.take i).foldl a0m rows).getD p.2 0
 | [],_,_,_,_,h=>by simp at h
 | q::r,rows,0,p,h,e=>by
  simp at e;subst e
  exact h.2.2.1
 | q::r,rows,i+1,p,h,e=>w0n (js:=r) (rows:=a0m rows q) (i:=i) (p:=p) h.2.2.2 (by simpa using e)
theorem f0z (js:List (Nat×Nat)):∀rows:List Nat,(js.foldl a0m rows).length=rows.length+js.length:=by
 induction js with
 | nil=>intro rows;rfl
 | cons p r ih=>intro rows;rw[List.foldl_cons,ih,d0s,List.length_cons];omega
theorem s0i {js:List (Nat×Nat)}{i:Nat}{p:Nat×Nat}(h:js[i]? = some p)(rows:List Nat):(js.take (i+1)).foldl a0m rows=a0m ((js.take i).foldl a0m rows) p:=by
 rw[List.take_add_one,h,Option.toList_some,List.foldl_append]
 rfl
theorem d0f (m:Nat):(a0z m).length=m:=by simp[a0z]
theorem j0n (N:Net):(b0g N).length=N.m+N.js.length:=by unfold b0g;rw[f0z,d0f]
def tyD:D->String
 | .non => "NoneType" | .bl _ => "bool" | .int _ => "int" | .str _ => "str" | .tup _ => "tuple" | .lst _ => "list"
theorem i0b (K:PySem.W.Frag){X:Cx}(hK:X.K=K:=by rfl):h0n X (.builtin "isinstance") (fun xs H Q=>∃x d T b,xs=[x,.ty T]/\RepD K H x d/\isaT (tyD d) T=some b/\Q (.bl b) H):=by
 subst hK
 intro pins s σ H xs us Q I r h
 obtain⟨x,d,T,b,rfl,hd,e,q⟩:=h
 cases r with
 | cons r1 rr =>
  cases rr with
  | cons r2 rr =>
   cases rr
   cases (show _=Value.type T from r2)
   have e':∀ {t:String},tyD d=t->PySem.W.kitOne X.K (.type t) (.type T)=some b:=fun{t} z=>by rw[<- z];exact f1d.trans e
   have fin:∀tk,EP X pins σ Q (.bool b) {s with toks:=tk}:=fun tk=>⟨.bl b,H,I.tok tk,rfl,q⟩
   cases d with
   | non=>unfold RepD at hd;subst hd;exact j0x I r1 .non (e' rfl) fin
   | bl y=>unfold RepD at hd;subst hd;exact j0x I r1 (.bl y) (e' rfl) fin
   | int y=>unfold RepD at hd;subst hd;exact j0x I r1 (.int y) (e' rfl) fin
   | str y=>unfold RepD at hd;subst hd;exact j0x I r1 (.str y) (e' rfl) fin
   | tup ds =>
    unfold RepD at hd
    obtain⟨a,vs,rfl,hq,_⟩:=hd
    cases r1
    obtain⟨its,_,⟨o,h1,h2,_⟩,_⟩:=I.tuple hq.sq
    exact PySem.W.kia_one PySem.W.kitx_tuple I.kIn ⟨o,h1,h2⟩ (e' rfl) (fun z=>nomatch z) fin
   | lst ds =>
    unfold RepD at hd
    obtain⟨a,vs,rfl,hq,_⟩:=hd
    cases r1
    obtain⟨its,_,⟨o,n,h1,h2,_⟩,_⟩:=I.list (StL.sq hq)
    exact PySem.W.kia_one PySem.W.kitx_list I.kIn ⟨o,h1,h2⟩ (e' rfl) (fun z=>nomatch z) fin
theorem r0o:∀ {js:List (Nat×Nat)} {rows:List Nat} {p:Nat×Nat},okJs rows js->p.1<p.2->p.2<rows.length+js.length->(js.foldl a0m rows).getD p.1 0≠(js.foldl a0m rows).getD p.2 0->okJs rows (js++[p])
 | [],rows,p,_,h1,h2,h3=>⟨h1,by simpa using h2,h3,trivial⟩
 | q::r,rows,p,h,h1,h2,h3=>⟨h.1,h.2.1,h.2.2.1,r0o h.2.2.2 h1 (by rw[d0s];simp at h2;omega) h3⟩
inductive Sv where
 | un | vl (d:D) | ow (ds:List D) | tp (n:Nat) | dk (kvs:List (Key×D)) | dt (kvs:List (List Key×D)) | ex (C:Addr) (fs:Option (List (Str×D))) | sc (ns:List Int) | px (d:D) (C:Addr) (fs:Option (List (Str×D))) | xl (es:List (Addr×Option (List (Str×D))))
def Sv.own:Sv->Bool
 | .ow _=>true
 | .tp _=>true
 | .dk _=>true
 | .dt _=>true
 | _=>false
abbrev En:=List Sv
inductive R where
 | d (d:D) | o (i:Nat) | n (s:Sv) | t (n:String) | x (s:Sv)
abbrev R.f (ds:List D):R:=.n (.ow ds)
def gt:En->Nat->Sv
 | [],_=>.un
 | s::_,0=>s
 | _::r,n+1=>gt r n
def pt:En->Nat->Sv->En
 | [],_,_=>[]
 | _::r,0,s=>s::r
 | x::r,n+1,s=>x::pt r n s
theorem j0o:∀(ρ:En) (i:Nat) (s:Sv),(pt ρ i s).length=ρ.length
 | [],_,_=>rfl
 | _::_,0,_=>rfl
 | x::r,n+1,s=>by simp[pt,j0o r n s]
theorem c0u:∀(ρ:En) (i j:Nat) (s:Sv),i≠j->gt (pt ρ i s) j=gt ρ j
 | [],_,_,_,_=>rfl
 | _::_,0,0,_,h=>absurd rfl h
 | _::_,0,j+1,_,_=>rfl
 | x::r,i+1,0,s,_=>rfl
 | x::r,i+1,j+1,s,h=>c0u r i j s (by omega)
theorem s0e:∀(ρ:En) (i:Nat) (s:Sv),i<ρ.length->gt (pt ρ i s) i=s
 | [],_,_,h=>by simp at h
 | _::_,0,_,_=>rfl
 | x::r,i+1,s,h=>s0e r i s (by simpa using h)
theorem o0o:∀(ρ:En) (i:Nat),ρ.length<=i->gt ρ i = .un
 | [],_,_=>rfl
 | x::r,0,h=>by simp at h
 | x::r,i+1,h=>o0o r i (by simpa using h)
theorem o0j {ρ:En}{i:Nat}(h:(gt ρ i).own=true):i<ρ.length:=by
 rcases Nat.lt_or_ge i ρ.length with q | q
 ·exact q
 ·rw[o0o ρ i q]at h;cases h
def c0c (σ:St)(ρ:En)(a:Addr):Prop:=∃i,(gt ρ i).own=true/\σ[i]? = some (some (.ref a))
open Classical in
noncomputable def hid (H:Hp)(S:Addr->Prop):Hp:=fun a=>if S a then none else H a
theorem p0v {H:Hp}{S:Addr->Prop}{a:Addr}{o:HO}:hid H S a=some o↔¬S a/\H a=some o:=by
 unfold hid
 split
 ·rename_i h;simp[h]
 ·rename_i h;simp[h]
theorem j0y {H:Hp}{S:Addr->Prop}{a:Addr}{o:HO}(h:¬S a)(e:H a=some o):hid H S a=some o:=p0v.mpr ⟨h,e⟩
theorem b0o {H H':Hp}{S S':Addr->Prop}(h:∀a o,H a=some o->¬S a->H' a=some o/\¬S' a):Same (hid H S) (hid H' S'):=fun a o e=>by
 obtain⟨n,e⟩:=p0v.mp e
 obtain⟨e',n'⟩:=h a o e n
 exact j0y n' e'
theorem c0e {H:Hp}{S:Addr->Prop}:Same (hid H S) H:=fun a o e=>(p0v.mp e).2
structure Fr where
 H0:Hp
 Z:Addr->Prop
 M:Addr->Prop
 I:Nat->Addr->Prop
 P:Nat->Addr->Prop
def Fr.pin (F:Fr)(i:Nat)(a:Addr):Prop:=F.I i a∨F.P i a
def hs (F:Fr)(σ:St)(ρ:En):Addr->Prop:=fun a=>F.Z a∨c0c σ ρ a
def exP (e C:Addr)(od:Option Addr):Heap->Prop:=fun h=>∃oe vs,h.get? e=some oe/\oe.cls = .ref C/\oe.dict=od/\oe.data = .fields vs
def exD (K:PySem.W.Frag)(Hh:Hp):Option (List (Str×D))->Option Addr->Prop
 | none,none=>True
 | some fs,some dx=>∃ks,Hh dx=some (.xd ks)/\ks.map Prod.fst=fs.map Prod.fst/\RepDs K Hh (ks.map Prod.snd) (fs.map Prod.snd)
 | _,_=>False
theorem exD.same {K:PySem.W.Frag}{Hh Hh':Hp}:∀ {fs:Option (List (Str×D))} {od:Option Addr},exD K Hh fs od->Same Hh Hh'->exD K Hh' fs od
 | none,none,h,_=>h
 | some fs,some dx,⟨ks,h1,h2,h3⟩,g=>⟨ks,g _ _ h1,h2,h3.same g⟩
 | none,some _,h,_=>h.elim
 | some _,none,h,_=>h.elim
def Exs (K:PySem.W.Frag)(Hh:Hp):List V->List (Addr×Option (List (Str×D)))->Prop
 | [],[]=>True
 | x::vs,c::es=>(∃e od,x = .ref e/\Hh e=some (.ext (exP e c.1 od))/\exD K Hh c.2 od)/\Exs K Hh vs es
 | _,_=>False
theorem Exs.same {K:PySem.W.Frag}{Hh Hh':Hp}:∀ {vs:List V} {es:List (Addr×Option (List (Str×D)))},Exs K Hh vs es->Same Hh Hh'->Exs K Hh' vs es
 | [],[],h,_=>h
 | x::vs,c::es,⟨⟨e,od,h1,h2,h3⟩,h4⟩,g=>⟨⟨e,od,h1,g _ _ h2,h3.same g⟩,Exs.same h4 g⟩
 | [],_::_,h,_=>h.elim
 | _::_,[],h,_=>h.elim
def SvOk (K:PySem.W.Frag)(Hh H:Hp)(v:Option (Option V)):Sv->Prop
 | .xl es=>∃l vs,v=some (some (.ref l))/\Hh l=some (.lst vs)/\Exs K Hh vs es
 | .px d C fs=>∃p x e od,v=some (some (.ref p))/\Hh p=some (.tup [x,.ref e])/\RepD K Hh x d/\Hh e=some (.ext (exP e C od))/\exD K Hh fs od
 | .sc ns=>∃c,v=some (some (.ref c))/\SqL K Hh c (List.map V.int ns)
 | .ex C fs=>∃e od,v=some (some (.ref e))/\Hh e=some (.ext (exP e C od))/\exD K Hh fs od
 | .un=>True
 | .vl d=>∃x,v=some (some x)/\RepD K Hh x d
 | .ow ds=>∃l vs,v=some (some (.ref l))/\H l=some (.lst vs)/\RepDs K Hh vs ds
 | .tp n=>∃t c ns sp lf,v=some (some (.ref t))/\H t=some (.dK (d0l c sp lf))/\SqL K Hh c (List.map V.int ns)/\0<=sp/\sp<=n/\0<=lf
 | .dk kvs=>∃t ks,v=some (some (.ref t))/\H t=some (.dK ks)/\ks.map Prod.fst=kvs.map Prod.fst/\RepDs K Hh (ks.map Prod.snd) (kvs.map Prod.snd)
 | .dt kvs=>∃t ks,v=some (some (.ref t))/\H t=some (.dT ks)/\ks.map Prod.fst=kvs.map Prod.fst/\RepDs K Hh (ks.map Prod.snd) (kvs.map Prod.snd)
theorem SvOk.keep {K:PySem.W.Frag}{Hh Hh' H H':Hp}{v:Option (Option V)}{s:Sv}(h:SvOk K Hh H v s)(g:Same Hh Hh')(k:∀l o,s.own=true->v=some (some (.ref l))->H l=some o->H' l=some o):SvOk K Hh' H' v s:=by
 cases s with
 | un=>trivial
 | vl d=>obtain⟨x,e,r⟩:=h;exact⟨x,e,r.same g⟩
 | ow ds=>obtain⟨l,vs,e,a,r⟩:=h;exact⟨l,vs,e,k _ _ rfl e a,r.same g⟩
 | tp n=>obtain⟨t,c,ns,sp,lf,e,a,b,r⟩:=h;exact⟨t,c,ns,sp,lf,e,k _ _ rfl e a,g.seq b,r⟩
 | dk kvs=>obtain⟨t,ks,e,a,b,r⟩:=h;exact⟨t,ks,e,k _ _ rfl e a,b,r.same g⟩
 | dt kvs=>obtain⟨t,ks,e,a,b,r⟩:=h;exact⟨t,ks,e,k _ _ rfl e a,b,r.same g⟩
 | ex C fs=>obtain⟨t,od,e,a,b⟩:=h;exact⟨t,od,e,g _ _ a,b.same g⟩
 | sc ns=>obtain⟨c,e,a⟩:=h;exact⟨c,e,g.seq a⟩
 | px d C fs=>obtain⟨p,x,e,od,a,b,c,d',e'⟩:=h;exact⟨p,x,e,od,a,g _ _ b,c.same g,g _ _ d',e'.same g⟩
 | xl es=>obtain⟨p,vs,a,b,c⟩:=h;exact⟨p,vs,a,g _ _ b,c.same g⟩
theorem SvOk.alive {K:PySem.W.Frag}{Hh H:Hp}{v:Option (Option V)}{s:Sv}(h:SvOk K Hh H v s)(ho:s.own=true):∃l o,v=some (some (.ref l))/\H l=some o:=by
 cases s with
 | un=>cases ho
 | vl d=>cases ho
 | ow ds=>obtain⟨l,vs,e,a,r⟩:=h;exact⟨l,_,e,a⟩
 | tp n=>obtain⟨t,c,ns,sp,lf,e,a,b,r⟩:=h;exact⟨t,_,e,a⟩
 | dk kvs=>obtain⟨t,ks,e,a,b,r⟩:=h;exact⟨t,_,e,a⟩
 | dt kvs=>obtain⟨t,ks,e,a,b,r⟩:=h;exact⟨t,_,e,a⟩
 | ex C fs=>cases ho
 | sc ns=>cases ho
 | px d C fs=>cases ho
 | xl es=>cases ho
def Nt (H:Hp)(a:Addr):Prop:=H a≠none/\∀xs,H a≠some (.tup xs)
theorem l1y {H:Hp}{a l:Addr}{o:HO}(al:a≠l)(h:Nt H a):Nt (upd H l o) a:=by unfold Nt;rw[a0x al];exact h
structure Rel (K:PySem.W.Frag)(F:Fr)(σ:St)(ρ:En)(H:Hp):Prop where
 len:σ.length=ρ.length
 fr:∀a o,F.H0 a=some o->¬F.M a->H a=some o
 zl:∀a,F.Z a->Nt H a
 zo:∀a,c0c σ ρ a->¬F.Z a
 ow:∀i a,(gt ρ i).own=true->σ[i]? = some (some (.ref a))->(F.I i a/\F.M a)∨F.H0 a=none
 mi:∀i a,F.pin i a->σ[i]? = some (some (.ref a))
 ml:∀a,F.M a->F.H0 a≠none
 ma:∀a,F.M a->H a≠none
 nd:∀i j a,(gt ρ i).own=true->(gt ρ j).own=true->σ[i]? = some (some (.ref a))->σ[j]? = some (some (.ref a))->i=j
 sl:∀i,SvOk K (hid H (hs F σ ρ)) H σ[i]? (gt ρ i)
structure Kp (σ:St)(ρ ρ':En)(H H':Hp):Prop where
 st:∀a o,H a=some o->¬c0c σ ρ a->H' a=some o
 sb:∀i,(gt ρ' i).own=true->(gt ρ i).own=true
theorem Kp.so {σ:St}{ρ ρ':En}{H H':Hp}(k:Kp σ ρ ρ' H H'){a:Addr}(h:c0c σ ρ' a):c0c σ ρ a:=by
 obtain⟨i,hi,e⟩:=h
 exact⟨i,k.sb i hi,e⟩
theorem Kp.refl {σ:St}{ρ:En}{H:Hp}:Kp σ ρ ρ H H:=⟨fun _ _ e _=>e,fun _ h=>h⟩
theorem Kp.trans {σ:St}{ρ ρ1 ρ2:En}{H H1 H2:Hp}(a:Kp σ ρ ρ1 H H1)(b:Kp σ ρ1 ρ2 H1 H2):Kp σ ρ ρ2 H H2 :=
 ⟨fun x o e n=>b.st x o (a.st x o e n) fun z=>n (a.so z),fun x z=>a.sb x (b.sb x z)⟩
theorem Kp.fresh {σ:St}{ρ:En}{H:Hp}{l:Addr}{o:HO}(h:H l=none):Kp σ ρ ρ H (upd H l o) :=
 ⟨fun a u e _=>by rw[a0x (b0k e h)];exact e,fun _ h=>h⟩
section
variable {K:PySem.W.Frag}{F:Fr}{σ:St}{ρ ρ':En}{H H':Hp}
theorem h0b (r:Rel K F σ ρ H){a:Addr}(h:c0c σ ρ a):H a≠none:=by
 obtain⟨i,hi,e⟩:=h
 obtain⟨l,o,e',h'⟩:=(r.sl i).alive hi
 rw[e]at e';injection e' with e';injection e' with e';injection e' with e'
 rw[e',h'];exact fun z=>nomatch z
theorem w0u (r:Rel K F σ ρ H){a:Addr}(h:hs F σ ρ a):H a≠none:=by
 rcases h with h | h
 ·exact(r.zl a h).1
 ·exact h0b r h
theorem SvOk.nt {K:PySem.W.Frag}{Hh H:Hp}{v:Option (Option V)}{s:Sv}(h:SvOk K Hh H v s)(ho:s.own=true):∃l,v=some (some (.ref l))/\Nt H l:=by
 cases s with
 | un=>cases ho
 | vl d=>cases ho
 | ow ds=>obtain⟨l,vs,e,a,r⟩:=h;exact⟨l,e,by rw[a];exact(fun z=>nomatch z),by rw[a];exact fun _ z=>nomatch z⟩
 | tp n=>obtain⟨l,c,ns,sp,lf,e,a,b,r⟩:=h;exact⟨l,e,by rw[a];exact(fun z=>nomatch z),by rw[a];exact fun _ z=>nomatch z⟩
 | dk kvs=>obtain⟨l,ks,e,a,b,r⟩:=h;exact⟨l,e,by rw[a];exact(fun z=>nomatch z),by rw[a];exact fun _ z=>nomatch z⟩
 | dt kvs=>obtain⟨l,ks,e,a,b,r⟩:=h;exact⟨l,e,by rw[a];exact(fun z=>nomatch z),by rw[a];exact fun _ z=>nomatch z⟩
 | ex C fs=>cases ho
 | sc ns=>cases ho
 | px d C fs=>cases ho
 | xl es=>cases ho
theorem w0h (r:Rel K F σ ρ H){a:Addr}(h:c0c σ ρ a):Nt H a:=by
 obtain⟨i,hi,e⟩:=h
 obtain⟨l,e',h'⟩:=(r.sl i).nt hi
 rw[e]at e';injection e' with e';injection e' with e';injection e' with e'
 rw[e'];exact h'
theorem b1v (r:Rel K F σ ρ H){a:Addr}(h:hs F σ ρ a):Nt H a:=by
 rcases h with h | h
 ·exact r.zl a h
 ·exact w0h r h
theorem m0w (r:Rel K F σ ρ H){l:Addr}(h:H l=none):¬hs F σ ρ l:=fun z=>w0u r z h
theorem f1j (r:Rel K F σ ρ H){l:Addr}(h:H l=none):F.H0 l=none:=by
 cases h0:F.H0 l with
 | none=>rfl
 | some o =>
  by_cases q:F.M l
  ·exact absurd h (r.ma l q)
  ·have:=r.fr l o h0 q
   rw[h]at this;cases this
theorem Kp.vis (k:Kp σ ρ ρ' H H'):Same (hid H (hs F σ ρ)) (hid H' (hs F σ ρ')):=b0o fun a o e n =>
 ⟨k.st a o e fun z=>n (.inr z),fun z=>by
  rcases z with z | z
  ·exact n (.inl z)
  ·exact n (.inr (k.so z))⟩
theorem y0l {a:Addr}(g:Same H H')(h:H a≠none):H' a≠none:=fun e=>by
 cases h':H a with
 | none=>exact h h'
 | some o=>rw[g a o h']at e;cases e
theorem j1n {a:Addr}(g:Same H H')(h:Nt H a):Nt H' a:=by
 cases h':H a with
 | none=>exact(h.1 h').elim
 | some o =>
  have e:=g a o h'
  unfold Nt
  rw[e,<- h'];exact h
theorem Rel.grow (r:Rel K F σ ρ H)(g:Same H H'):Rel K F σ ρ H' where
 len:=r.len
 fr:=fun a o e n=>g a o (r.fr a o e n)
 zl:=fun a z=>j1n g (r.zl a z)
 zo:=r.zo
 ow:=r.ow
 mi:=r.mi
 ml:=r.ml
 ma:=fun a z=>y0l g (r.ma a z)
 nd:=r.nd
 sl:=fun i=>(r.sl i).keep (b0o fun a o e n=>⟨g a o e,n⟩) fun l o _ _ e=>g l o e
theorem Rel.fresh (r:Rel K F σ ρ H){l:Addr}{o:HO}(h:H l=none):Rel K F σ ρ (upd H l o):=r.grow ((Same.refl H).new h)
theorem a1k:∀(ρ:En) (i:Nat) (s:Sv),ρ.length<=i->pt ρ i s=ρ
 | [],_,_,_=>rfl
 | x::r,0,s,h=>by simp at h
 | x::r,i+1,s,h=>by simp[pt,a1k r i s (by simpa using h)]
theorem j0a {i j:Nat}{s:Sv}(hs:s.own=false)(hj:(gt (pt ρ i s) j).own=true):i≠j/\(gt ρ j).own=true:=by
 by_cases ij:i=j
 ·subst ij
  rcases Nat.lt_or_ge i ρ.length with q | q
  ·rw[s0e ρ i s q,hs]at hj;cases hj
  ·rw[o0o _ i (by rw[j0o];exact q)]at hj;cases hj
 ·rw[c0u ρ i j s ij]at hj
  exact⟨ij,hj⟩
theorem Rel.setS (r:Rel K F σ ρ H){i:Nat}{v:V}{s:Sv}(hs':s.own=false)(hd:SvOk K (hid H (hs F σ ρ)) H (some (some v)) s)(hm:∀a,¬F.pin i a):Rel K F (σ.set i (some v)) (pt ρ i s) H:=by
 rcases Nat.lt_or_ge i ρ.length with hi | hi
 case inr =>
  rw[a1k ρ i s hi,List.set_eq_of_length_le (by rw[r.len];exact hi)];exact r
 have sub:∀a,c0c (σ.set i (some v)) (pt ρ i s) a->c0c σ ρ a:=fun a ⟨j,hj,e⟩=>by
  obtain⟨ij,hj⟩:=j0a hs' hj
  rw[List.getElem?_set_ne ij]at e
  exact⟨j,hj,e⟩
 have vis:Same (hid H (hs F σ ρ)) (hid H (hs F (σ.set i (some v)) (pt ρ i s))):=b0o fun a o e n=>⟨e,fun z=>n (z.imp id (sub a))⟩
 refine⟨by rw[List.length_set,j0o,r.len],r.fr,r.zl,fun a h=>r.zo a (sub a h),fun j a hj e=>?_,fun j a h=>?_,r.ml,r.ma,fun j k a hj hk ej ek=>?_,fun j=>?_⟩
 ·obtain⟨ij,hj⟩:=j0a hs' hj
  rw[List.getElem?_set_ne ij]at e
  exact r.ow j a hj e
 ·have:i≠j:=fun e=>hm a (e▸h)
  rw[List.getElem?_set_ne this];exact r.mi j a h
 ·obtain⟨nj,hj⟩:=j0a hs' hj
  obtain⟨nk,hk⟩:=j0a hs' hk
  rw[List.getElem?_set_ne nj]at ej
  rw[List.getElem?_set_ne nk]at ek
  exact r.nd j k a hj hk ej ek
 ·by_cases ij:i=j
  ·subst ij
   rw[s0e ρ i _ hi,List.getElem?_set_self (by rw[r.len];exact hi)]
   exact hd.keep vis fun l o ho=>by rw[hs']at ho;cases ho
  ·rw[c0u ρ i j _ ij,List.getElem?_set_ne ij]
   exact(r.sl j).keep vis fun l o _ _ e=>e
theorem Rel.set (r:Rel K F σ ρ H){i:Nat}{v:V}{d:D}(hd:RepD K (hid H (hs F σ ρ)) v d)(hm:∀a,¬F.pin i a):Rel K F (σ.set i (some v)) (pt ρ i (.vl d)) H :=
 r.setS rfl ⟨v,rfl,hd⟩ hm
theorem Rel.setF (r:Rel K F σ ρ H){i:Nat}{l:Addr}{o:HO}{s:Sv}(hs':s.own=true)(hd:SvOk K (hid H (hs F σ ρ)) (upd H l o) (some (some (.ref l))) s)(hn:H l=none)(hm:∀a,¬F.pin i a) :
  Rel K F (σ.set i (some (.ref l))) (pt ρ i s) (upd H l o):=by
 have rf:=r.fresh (o:=o) hn
 rcases Nat.lt_or_ge i ρ.length with hi | hi
 case inr =>
  rw[a1k ρ i s hi,List.set_eq_of_length_le (by rw[r.len];exact hi)];exact rf
 have at1:∀ {a},(σ.set i (some (V.ref l)))[i]? = some (some (.ref a))->a=l:=fun e=>by
  rw[List.getElem?_set_self (by rw[r.len];exact hi)]at e
  injection e with e;injection e with e;injection e with e
  exact e.symm
 have sub:∀a,c0c (σ.set i (some (.ref l))) (pt ρ i s) a->c0c σ ρ a∨a=l:=fun a h=>by
  obtain⟨j,hj,e⟩:=h
  by_cases ij:i=j
  ·subst ij;exact .inr (at1 e)
  ·rw[c0u ρ i j _ ij]at hj
   rw[List.getElem?_set_ne ij]at e
   exact .inl ⟨j,hj,e⟩
 have vis:Same (hid H (hs F σ ρ)) (hid (upd H l o) (hs F (σ.set i (some (.ref l))) (pt ρ i s))):=b0o fun a u e n=>by
  have al:=b0k e hn
  refine⟨by rw[a0x al];exact e,fun z=>?_⟩
  rcases z with z | z
  ·exact n (.inl z)
  ·rcases sub a z with z | z
   ·exact n (.inr z)
   ·exact al z
 have nol:∀j,(gt ρ j).own=true->σ[j]? ≠ some (some (.ref l)):=fun j hj e=>h0b r ⟨j,hj,e⟩ hn
 refine⟨by rw[List.length_set,j0o,r.len],rf.fr,rf.zl,fun a h=>?_,fun j a hj e=>?_,fun j a h=>?_,r.ml,rf.ma,fun j k a hj hk ej ek=>?_,fun j=>?_⟩
 ·rcases sub a h with h | h
  ·exact r.zo a h
  ·subst h;exact fun z=>(r.zl _ z).1 hn
 ·by_cases ij:i=j
  ·subst ij
   rw[at1 e];exact .inr (f1j r hn)
  ·rw[c0u ρ i j _ ij]at hj
   rw[List.getElem?_set_ne ij]at e
   exact r.ow j a hj e
 ·have:i≠j:=fun e=>hm a (e▸h)
  rw[List.getElem?_set_ne this];exact r.mi j a h
 ·by_cases nj:i=j
  ·by_cases nk:i=k
   ·omega
   ·subst nj
    have:=at1 ej
    subst this
    rw[c0u ρ i k _ nk]at hk
    rw[List.getElem?_set_ne nk]at ek
    exact absurd ek (nol k hk)
  ·rw[c0u ρ i j _ nj]at hj
   rw[List.getElem?_set_ne nj]at ej
   by_cases nk:i=k
   ·subst nk
    have:=at1 ek
    subst this
    exact absurd ej (nol j hj)
   ·rw[c0u ρ i k _ nk]at hk
    rw[List.getElem?_set_ne nk]at ek
    exact r.nd j k a hj hk ej ek
 ·by_cases ij:i=j
  ·subst ij
   rw[s0e ρ i _ hi,List.getElem?_set_self (by rw[r.len];exact hi)]
   exact hd.keep vis fun _ _ _ _ e=>e
  ·rw[c0u ρ i j _ ij,List.getElem?_set_ne ij]
   exact(r.sl j).keep vis fun a o ho e h=>by
    rw[a0x (b0k h hn)];exact h
theorem Rel.write (r:Rel K F σ ρ H){i:Nat}{l:Addr}{o:HO}{s:Sv}(hi:(gt ρ i).own=true)(el:σ[i]? = some (some (.ref l)))(hs':s.own=true)(new:SvOk K (hid H (hs F σ ρ)) (upd H l o) (some (some (.ref l))) s):Rel K F σ (pt ρ i s) (upd H l o)/\Kp σ ρ (pt ρ i s) H (upd H l o):=by
 have lt:=o0j hi
 have own':∀j,(gt (pt ρ i s) j).own=true->(gt ρ j).own=true:=fun j h=>by
  by_cases ij:i=j
  ·subst ij;exact hi
  ·rw[c0u ρ i j _ ij]at h;exact h
 have sub:∀a,c0c σ (pt ρ i s) a->c0c σ ρ a:=fun a ⟨j,hj,e⟩=>⟨j,own' j hj,e⟩
 have hso:c0c σ ρ l:=⟨i,hi,el⟩
 have vis:Same (hid H (hs F σ ρ)) (hid (upd H l o) (hs F σ (pt ρ i s))):=b0o fun a u e n=>by
  have al:a≠l:=fun z=>n (.inr (z▸hso))
  exact⟨by rw[a0x al];exact e,fun z=>n (z.imp id (sub a))⟩
 have up:∀ {a},H a≠none->(upd H l o) a≠none:=fun{a} h e=>by
  by_cases al:a=l
  ·subst al;rw[b0l]at e;cases e
  ·rw[a0x al]at e;exact h e
 refine⟨⟨by rw[j0o,r.len],fun a u e n=>?_,fun a z=>l1y (fun q=>r.zo l hso (q▸z)) (r.zl a z),fun a h=>r.zo a (sub a h),fun j a hj e=>r.ow j a (own' j hj) e,r.mi,r.ml,fun a z=>up (r.ma a z),fun j k a hj hk ej ek=>r.nd j k a (own' j hj) (own' k hk) ej ek,fun j=>?_⟩,⟨fun a u e n=>?_,own'⟩⟩
 ·have al:a≠l:=fun z=>by
   subst z
   rcases r.ow i _ hi el with⟨_,q⟩ | q
   ·exact n q
   ·rw[e]at q;cases q
  rw[a0x al];exact r.fr a u e n
 ·by_cases ij:i=j
  ·subst ij
   rw[s0e ρ i s lt,el]
   exact new.keep vis fun _ _ _ _ e=>e
  ·rw[c0u ρ i j _ ij]
   refine(r.sl j).keep vis fun a u ho e h=>?_
   have al:a≠l:=fun z=>ij (r.nd i j l hi ho el (z▸e))
   rw[a0x al];exact h
 ·have al:a≠l:=fun z=>n (z▸hso)
  rw[a0x al];exact e
theorem Rel.frz (r:Rel K F σ ρ H){i:Nat}{ds:List D}(hi:gt ρ i = .ow ds):∃l,σ[i]? = some (some (.ref l))/\Rel K F σ (pt ρ i (.vl (.lst ds))) H/\Kp σ ρ (pt ρ i (.vl (.lst ds))) H H/\RepD K (hid H (hs F σ (pt ρ i (.vl (.lst ds))))) (.ref l) (.lst ds):=by
 have ho:(gt ρ i).own=true:=by rw[hi];rfl
 have lt:=o0j ho
 have q:=r.sl i
 rw[hi]at q
 obtain⟨l,vs,el,hl,hd⟩:=q
 have own':∀j,(gt (pt ρ i (.vl (.lst ds))) j).own=true->i≠j/\(gt ρ j).own=true:=fun j h=>j0a rfl h
 have sub:∀a,c0c σ (pt ρ i (.vl (.lst ds))) a->c0c σ ρ a/\a≠l:=fun a ⟨j,hj,e⟩=>by
  obtain⟨ij,hj⟩:=own' j hj
  exact⟨⟨j,hj,e⟩,fun z=>ij (r.nd i j l ho hj el (z▸e))⟩
 have vis:Same (hid H (hs F σ ρ)) (hid H (hs F σ (pt ρ i (.vl (.lst ds))))):=b0o fun a u e n=>⟨e,fun z=>n (z.imp id fun z=>(sub a z).1)⟩
 have vl:¬hs F σ (pt ρ i (.vl (.lst ds))) l:=fun z=>by
  rcases z with z | z
  ·exact r.zo l ⟨i,ho,el⟩ z
  ·exact(sub l z).2 rfl
 have rd:RepD K (hid H (hs F σ (pt ρ i (.vl (.lst ds))))) (.ref l) (.lst ds):=by
  unfold RepD
  exact⟨l,vs,rfl,j0y vl hl,hd.same vis⟩
 refine⟨l,el,⟨by rw[j0o,r.len],r.fr,r.zl,fun a h=>r.zo a (sub a h).1,fun j a hj e=>r.ow j a (own' j hj).2 e,r.mi,r.ml,r.ma,fun j k a hj hk ej ek=>r.nd j k a (own' j hj).2 (own' k hk).2 ej ek,fun j=>?_⟩,⟨fun _ _ e _=>e,fun j h=>(own' j h).2⟩,rd⟩
 by_cases ij:i=j
 ·subst ij
  rw[s0e ρ i _ lt,el]
  exact⟨_,rfl,rd⟩
 ·rw[c0u ρ i j _ ij]
  exact(r.sl j).keep vis fun a u _ _ h=>h
end
def RelR (K:PySem.W.Frag)(F:Fr)(σ:St)(ρ:En)(v:V)(H:Hp):R->Prop
 | .d d=>Rel K F σ ρ H/\RepD K (hid H (hs F σ ρ)) v d
 | .o i=>Rel K F σ ρ H/\σ[i]? = some (some v)
 | .n s=>∃Hb l o,Rel K F σ ρ Hb/\s.own=true/\SvOk K (hid Hb (hs F σ ρ)) (upd Hb l o) (some (some (.ref l))) s/\Hb l=none/\H=upd Hb l o/\v = .ref l
 | .t n=>Rel K F σ ρ H/\v = .ty n
 | .x s=>Rel K F σ ρ H/\s.own=false/\SvOk K (hid H (hs F σ ρ)) H (some (some v)) s
def Out (K:PySem.W.Frag)(F:Fr)(σ:St)(ρ:En)(H:Hp)(ρ':En)(v:V)(H':Hp):R->Prop
 | .d d=>Rel K F σ ρ' H'/\Kp σ ρ ρ' H H'/\RepD K (hid H' (hs F σ ρ')) v d
 | .o i=>Rel K F σ ρ' H'/\Kp σ ρ ρ' H H'/\σ[i]? = some (some v)
 | .n s=>∃Hb l o,Rel K F σ ρ' Hb/\Kp σ ρ ρ' H Hb/\s.own=true/\SvOk K (hid Hb (hs F σ ρ')) (upd Hb l o) (some (some (.ref l))) s/\Hb l=none/\H'=upd Hb l o/\v = .ref l
 | .t n=>Rel K F σ ρ' H'/\Kp σ ρ ρ' H H'/\v = .ty n
 | .x s=>Rel K F σ ρ' H'/\Kp σ ρ ρ' H H'/\s.own=false/\SvOk K (hid H' (hs F σ ρ')) H' (some (some v)) s
def InF (K:PySem.W.Frag)(F:Fr)(σ:St)(ρ:En)(H:Hp)(v:V):R->Prop
 | .d d=>RepD K (hid H (hs F σ ρ)) v d
 | .o i=>σ[i]? = some (some v)
 | .n _=>True
 | .t n=>v = .ty n
 | .x s=>s.own=false/\SvOk K (hid H (hs F σ ρ)) H (some (some v)) s
def R.frz:R->R
 | .n (.ow ds)=>.d (.lst ds)
 | r=>r
inductive InFs (K:PySem.W.Frag) (F:Fr) (σ:St) (ρ:En) (H:Hp):List V->List R->Prop
 | nil:InFs K F σ ρ H [] []
 | cons {v:V} {r:R} {vs:List V} {rs:List R}:InF K F σ ρ H v r->InFs K F σ ρ H vs rs->InFs K F σ ρ H (v::vs) (r::rs)
def view (ρ:En):R->Option D
 | .d d=>some d
 | .o i=>(match gt ρ i with | .ow ds=>some (.lst ds) | .vl d=>some d | _=>none)
 | _=>none
section
variable {K:PySem.W.Frag}{F:Fr}{σ:St}{ρ ρ':En}{H H':Hp}{v:V}{r:R}
theorem InF.keep (h:InF K F σ ρ H v r)(k:Kp σ ρ ρ' H H'):InF K F σ ρ' H' v r:=by
 cases r with
 | d d=>exact RepD.same h k.vis
 | o i=>exact h
 | n s=>exact h
 | t n=>exact h
 | x s=>exact⟨h.1,h.2.keep k.vis fun l o ho=>by rw[h.1]at ho;cases ho⟩
theorem InFs.keep {vs:List V}{rs:List R}(h:InFs K F σ ρ H vs rs)(k:Kp σ ρ ρ' H H'):InFs K F σ ρ' H' vs rs:=by
 induction h with
 | nil=>exact .nil
 | cons a _ ih=>exact .cons (a.keep k) ih
theorem Out.inF (h:Out K F σ ρ H ρ' v H' r):Rel K F σ ρ' H'/\Kp σ ρ ρ' H H'/\InF K F σ ρ' H' v r.frz:=by
 cases r with
 | d d=>exact⟨h.1,h.2.1,h.2.2⟩
 | o i=>exact⟨h.1,h.2.1,h.2.2⟩
 | t n=>exact⟨h.1,h.2.1,h.2.2⟩
 | x s=>exact⟨h.1,h.2.1,h.2.2⟩
 | n s =>
  obtain⟨Hb,l,o,a,k0,hs',b,c,rfl,rfl⟩:=h
  have k:Kp σ ρ' ρ' Hb (upd Hb l o):=Kp.fresh c
  refine⟨a.fresh c,k0.trans k,?_⟩
  cases s with
  | un=>trivial
  | vl d=>trivial
  | tp n=>trivial
  | dk n=>trivial
  | dt n=>trivial
  | ex n m=>trivial
  | sc n=>trivial
  | px n m k=>trivial
  | xl es=>trivial
  | ow ds =>
   obtain⟨l',vs,e,h1,h2⟩:=b
   injection e with e;injection e with e;injection e with e;subst e
   show RepD K _ (.ref l) (.lst ds)
   unfold RepD
   exact⟨l,vs,rfl,j0y (m0w a c) h1,h2.same k.vis⟩
theorem Out.rel (h:Out K F σ ρ H ρ' v H' r):RelR K F σ ρ' v H' r:=by
 cases r with
 | d d=>exact⟨h.1,h.2.2⟩
 | o i=>exact⟨h.1,h.2.2⟩
 | t n=>exact⟨h.1,h.2.2⟩
 | x s=>exact⟨h.1,h.2.2⟩
 | n s =>
  obtain⟨Hb,l,o,a,k0,hs',b,c,e1,e2⟩:=h
  exact⟨Hb,l,o,a,hs',b,c,e1,e2⟩
theorem Out.after {ρ1:En}{H1:Hp}(k:Kp σ ρ ρ1 H H1)(h:Out K F σ ρ1 H1 ρ' v H' r):Out K F σ ρ H ρ' v H' r:=by
 cases r with
 | d d=>exact⟨h.1,k.trans h.2.1,h.2.2⟩
 | o i=>exact⟨h.1,k.trans h.2.1,h.2.2⟩
 | t n=>exact⟨h.1,k.trans h.2.1,h.2.2⟩
 | x s=>exact⟨h.1,k.trans h.2.1,h.2.2⟩
 | n s =>
  obtain⟨Hb,l,o,a,k0,hs',b,c,e1,e2⟩:=h
  exact⟨Hb,l,o,a,k.trans k0,hs',b,c,e1,e2⟩
theorem f0a {d:D}(a:Rel K F σ ρ H)(h:InF K F σ ρ H v r)(e:view ρ r=some d):RepD K H v d:=by
 cases r with
 | d d'=>injection e with e;subst e;exact RepD.same h c0e
 | t n=>cases e
 | x s=>cases e
 | n s=>cases e
 | o i =>
  have q:=a.sl i
  unfold view at e
  cases hg:gt ρ i with
  | un=>simp[hg]at e
  | tp n=>simp[hg]at e
  | dk n=>simp[hg]at e
  | dt n=>simp[hg]at e
  | ex n m=>simp[hg]at e
  | sc n=>simp[hg]at e
  | px n m k=>simp[hg]at e
  | xl es=>simp[hg]at e
  | vl d' =>
   simp[hg]at e
   subst e
   rw[hg]at q
   obtain⟨x,e1,r1⟩:=q
   rw[show σ[i]? = _ from h]at e1
   injection e1 with e1;injection e1 with e1;subst e1
   exact r1.same c0e
  | ow ds =>
   simp[hg]at e
   subst e
   rw[hg]at q
   obtain⟨l,vs,e1,r1,r2⟩:=q
   rw[show σ[i]? = _ from h]at e1
   injection e1 with e1;injection e1 with e1;subst e1
   unfold RepD
   exact⟨l,vs,rfl,r1,r2.same c0e⟩
theorem c0m {ds:List D}(a:Rel K F σ ρ H)(h:InF K F σ ρ H v r)(e:view ρ r=some (.lst ds)):∃l vs,v = .ref l/\SqL K H l vs/\RepDs K (hid H (hs F σ ρ)) vs ds:=by
 cases r with
 | d d' =>
  injection e with e;subst e
  have h':RepD K _ v (.lst ds):=h
  unfold RepD at h'
  obtain⟨l,vs,e,q,r⟩:=h'
  exact⟨l,vs,e,c0e.seq (StL.sq q),r⟩
 | t n=>cases e
 | x s=>cases e
 | n s=>cases e
 | o i =>
  have q:=a.sl i
  unfold view at e
  cases hg:gt ρ i with
  | un=>simp[hg]at e
  | tp n=>simp[hg]at e
  | dk n=>simp[hg]at e
  | dt n=>simp[hg]at e
  | ex n m=>simp[hg]at e
  | sc n=>simp[hg]at e
  | px n m k=>simp[hg]at e
  | xl es=>simp[hg]at e
  | vl d' =>
   simp[hg]at e
   subst e
   rw[hg]at q
   obtain⟨x,e1,r1⟩:=q
   rw[show σ[i]? = _ from h]at e1
   injection e1 with e1;injection e1 with e1;subst e1
   unfold RepD at r1
   obtain⟨l,vs,e,q,r⟩:=r1
   exact⟨l,vs,e,c0e.seq (StL.sq q),r⟩
  | ow ds =>
   simp[hg]at e
   subst e
   rw[hg]at q
   obtain⟨l,vs,e1,r1,r2⟩:=q
   rw[show σ[i]? = _ from h]at e1
   injection e1 with e1;injection e1 with e1;subst e1
   exact⟨l,vs,rfl,SqL.of r1,r2⟩
theorem i0d {ds:List D}(a:Rel K F σ ρ H)(h:InF K F σ ρ H v r)(e:view ρ r=some (.tup ds)):∃l vs,v = .ref l/\SqT K H l vs/\RepDs K (hid H (hs F σ ρ)) vs ds/\StT (hid H (hs F σ ρ)) l vs:=by
 have go:∀ {x:V},RepD K (hid H (hs F σ ρ)) x (.tup ds)->∃l vs,x = .ref l/\SqT K H l vs/\RepDs K (hid H (hs F σ ρ)) vs ds/\StT (hid H (hs F σ ρ)) l vs:=fun h'=>by
  unfold RepD at h'
  obtain⟨l,vs,e,q,r⟩:=h'
  exact⟨l,vs,e,c0e.seqT q.sq,r,q⟩
 cases r with
 | d d'=>injection e with e;subst e;exact go h
 | t n=>cases e
 | x s=>cases e
 | n s=>cases e
 | o i =>
  have q:=a.sl i
  unfold view at e
  cases hg:gt ρ i with
  | un=>simp[hg]at e
  | tp n=>simp[hg]at e
  | dk n=>simp[hg]at e
  | dt n=>simp[hg]at e
  | ex n m=>simp[hg]at e
  | sc n=>simp[hg]at e
  | px n m k=>simp[hg]at e
  | xl es=>simp[hg]at e
  | ow ds'=>simp[hg]at e
  | vl d' =>
   simp[hg]at e
   subst e
   rw[hg]at q
   obtain⟨x,e1,r1⟩:=q
   rw[show σ[i]? = _ from h]at e1
   injection e1 with e1;injection e1 with e1;subst e1
   exact go r1
end
abbrev Ko:=R->En->Prop
abbrev AE:=En->Ko->Prop
abbrev AT:=En->(Bool->En->Prop)->Prop
abbrev AA:=En->(List R->En->Prop)->Prop
structure t0e where
 nx:En->Prop
 rt:R->En->Prop
 bk:En->Prop
 ct:En->Prop
abbrev AS:=t0e->En->Prop
def Beh (K:PySem.W.Frag)(F:Fr)(σ:St)(ρ:En)(H:Hp)(q:Ko)(Q:VK):Prop:=∀r ρ' v H',q r ρ'->Out K F σ ρ H ρ' v H' r->Q v H'
def TEok (K:PySem.W.Frag)(t:TE)(a:AE):Prop:=∀F σ ρ H q Q,Rel K F σ ρ H->a ρ q->Beh K F σ ρ H q Q->t σ H Q
def TTok (K:PySem.W.Frag)(t:TT)(a:AT):Prop:=∀F σ ρ H q Q,Rel K F σ ρ H->a ρ q->(∀b ρ' H',q b ρ'->Rel K F σ ρ' H'->Kp σ ρ ρ' H H'->Q b H')->t σ H Q
def TAok (K:PySem.W.Frag)(t:TA)(a:AA):Prop:=∀F σ ρ H q Q,Rel K F σ ρ H->a ρ q->(∀rs ρ' vs H',q rs ρ'->Rel K F σ ρ' H'->InFs K F σ ρ' H' vs rs->Kp σ ρ ρ' H H'->Q vs H')->t σ H Q
def OpOk (K:PySem.W.Frag)(r:R2)(g:R->R->AE):Prop:=∀F σ ρ H x y r1 r2 q Q,Rel K F σ ρ H->InF K F σ ρ H x r1->InF K F σ ρ H y r2->g r1 r2 ρ q->Beh K F σ ρ H q Q->r x y H Q
def CbOk (K:PySem.W.Frag)(r:List V->Hp->VK->Prop)(g:List R->AE):Prop:=∀F σ ρ H vs rs q Q,Rel K F σ ρ H->InFs K F σ ρ H vs rs->g rs ρ q->Beh K F σ ρ H q Q->r vs H Q
section
variable {K:PySem.W.Frag}{F:Fr}{σ:St}{ρ ρ':En}{H H':Hp}{v:V}{r:R}{q:Ko}{Q:VK}
theorem Beh.dat (b:Beh K F σ ρ H q Q)(a:Rel K F σ ρ H){d:D}(hq:q (.d d) ρ)(h:RepD K (hid H (hs F σ ρ)) v d):Q v H:=b (.d d) ρ v H hq ⟨a,.refl,h⟩
theorem Beh.int (b:Beh K F σ ρ H q Q)(a:Rel K F σ ρ H){i:Int}(hq:q (.d (.int i)) ρ):Q (.int i) H:=b.dat a hq (by unfold RepD;rfl)
theorem Beh.bl (b:Beh K F σ ρ H q Q)(a:Rel K F σ ρ H){i:Bool}(hq:q (.d (.bl i)) ρ):Q (.bl i) H:=b.dat a hq (by unfold RepD;rfl)
theorem Beh.non (b:Beh K F σ ρ H q Q)(a:Rel K F σ ρ H)(hq:q (.d .non) ρ):Q .non H:=b.dat a hq (by unfold RepD;rfl)
theorem Beh.str (b:Beh K F σ ρ H q Q)(a:Rel K F σ ρ H){x:Str}(hq:q (.d (.str x)) ρ):Q (.str x) H:=b.dat a hq (by unfold RepD;rfl)
theorem Beh.new (b:Beh K F σ ρ H q Q)(a:Rel K F σ ρ H){ds:List D}{vs:List V}{l:Addr}(hq:q (.f ds) ρ)(hd:RepDs K (hid H (hs F σ ρ)) vs ds)(hl:H l=none):Q (.ref l) (upd H l (.lst vs)) :=
 b (.f ds) ρ _ _ hq ⟨H,l,_,a,.refl,rfl,⟨l,vs,rfl,b0l,hd⟩,hl,rfl,rfl⟩
theorem Beh.newT (b:Beh K F σ ρ H q Q)(a:Rel K F σ ρ H){ds:List D}{vs:List V}{l:Addr}(hq:q (.d (.tup ds)) ρ)(hd:RepDs K (hid H (hs F σ ρ)) vs ds)(hl:H l=none):Q (.ref l) (upd H l (.tup vs)):=by
 have k:Kp σ ρ ρ H (upd H l (.tup vs)):=Kp.fresh hl
 refine b (.d (.tup ds)) ρ _ _ hq ⟨a.fresh hl,k,?_⟩
 unfold RepD
 exact⟨l,vs,rfl,(j0y (m0w a hl) b0l),hd.same k.vis⟩
theorem Beh.after {ρ1:En}{H1:Hp}(b:Beh K F σ ρ H q Q)(k:Kp σ ρ ρ1 H H1):Beh K F σ ρ1 H1 q Q:=fun r ρ' v H' hq h=>b r ρ' v H' hq (.after k h)
def aVar (i:Nat):AE:=fun ρ q=>match gt ρ i with
 | .un=>False
 | .vl d=>q (.d d) ρ
 | .ow _=>q (.o i) ρ
 | .tp _=>q (.o i) ρ
 | .dk _=>q (.o i) ρ
 | .dt _=>q (.o i) ρ
 | .ex _ _=>q (.o i) ρ
 | .sc _=>q (.o i) ρ
 | .px _ _ _=>q (.o i) ρ
 | .xl _=>q (.o i) ρ
theorem a0b {i:Nat}:TEok K (tVar i) (aVar i):=by
 intro F σ ρ H q Q a h b
 have s:=a.sl i
 unfold aVar at h
 cases hg:gt ρ i with
 | un=>rw[hg]at h;exact h.elim
 | vl d =>
  rw[hg]at h s
  obtain⟨x,e,r⟩:=s
  exact⟨x,e,b _ _ _ _ h ⟨a,.refl,r⟩⟩
 | ow ds =>
  rw[hg]at h s
  obtain⟨l,vs,e,_⟩:=s
  exact⟨_,e,b _ _ _ _ h ⟨a,.refl,e⟩⟩
 | tp n =>
  rw[hg]at h s
  obtain⟨l,c,ns,sp,lf,e,_⟩:=s
  exact⟨_,e,b _ _ _ _ h ⟨a,.refl,e⟩⟩
 | dk kvs =>
  rw[hg]at h s
  obtain⟨l,ks,e,_⟩:=s
  exact⟨_,e,b _ _ _ _ h ⟨a,.refl,e⟩⟩
 | dt kvs =>
  rw[hg]at h s
  obtain⟨l,ks,e,_⟩:=s
  exact⟨_,e,b _ _ _ _ h ⟨a,.refl,e⟩⟩
 | ex C fs =>
  rw[hg]at h s
  obtain⟨l,ks,e,_⟩:=s
  exact⟨_,e,b _ _ _ _ h ⟨a,.refl,e⟩⟩
 | sc ns =>
  rw[hg]at h s
  obtain⟨l,e,_⟩:=s
  exact⟨_,e,b _ _ _ _ h ⟨a,.refl,e⟩⟩
 | xl es =>
  rw[hg]at h s
  obtain⟨l,ks,e,_⟩:=s
  exact⟨_,e,b _ _ _ _ h ⟨a,.refl,e⟩⟩
 | px d C fs =>
  rw[hg]at h s
  obtain⟨l,x,e',od,e,_⟩:=s
  exact⟨_,e,b _ _ _ _ h ⟨a,.refl,e⟩⟩
def aC (r:R):AE:=fun ρ q=>q r ρ
theorem a0t {i:Int}:TEok K (tC (.int i)) (aC (.d (.int i))):=fun _ _ _ _ _ _ a h b=>b.int a h
theorem e0r {i:Bool}:TEok K (tC (.bl i)) (aC (.d (.bl i))):=fun _ _ _ _ _ _ a h b=>b.bl a h
theorem h0p {i:Str}:TEok K (tC (.str i)) (aC (.d (.str i))):=fun _ _ _ _ _ _ a h b=>b.str a h
theorem q0v {n:String}:TEok K (tC (.ty n)) (aC (.t n)):=fun _ _ _ _ _ _ a h b=>b _ _ _ _ h ⟨a,.refl,rfl⟩
def aOp (g:R->R->AE)(a b:AE):AE:=fun ρ q=>a ρ fun r1 ρ1=>b ρ1 fun r2 ρ2=>g r1.frz r2.frz ρ2 q
variable {t t' ta tb tc:TE}{a b c:AE}{rr:R2}{g:R->R->AE}
theorem a0l (ho:OpOk K rr g)(ha:TEok K ta a)(hb:TEok K tb b):TEok K (tOp rr ta tb) (aOp g a b):=by
 intro F σ ρ H q Q r h k
 refine ha F σ ρ H _ _ r h fun r1 ρ1 x H1 h1 rel1=>?_
 obtain⟨r',k1,i1⟩:=rel1.inF
 refine hb F σ ρ1 H1 _ _ r' h1 fun r2 ρ2 y H2 h2 rel2=>?_
 obtain⟨r'',k2,i2⟩:=rel2.inF
 exact ho F σ ρ2 H2 x y _ _ q Q r'' (i1.keep k2) i2 h2 (k.after (k1.trans k2))
def gI (C:Int->Int->Prop)(f:Int->Int->D):R->R->AE:=fun r1 r2 ρ q=>match r1,r2 with
 | .d (.int i),.d (.int j)=>C i j/\q (.d (f i j)) ρ
 | _,_=>False
theorem m1v {C:Int->Int->Prop}{f:Int->Int->D}{r1 r2:R}(h:gI C f r1 r2 ρ q):∃i j,r1 = .d (.int i)/\r2 = .d (.int j)/\C i j/\q (.d (f i j)) ρ:=by
 unfold gI at h
 split at h
 ·exact⟨_,_,rfl,rfl,h⟩
 ·exact h.elim
theorem InF.int {i:Int}(h:InF K F σ ρ H v (.d (.int i))):v = .int i:=by
 unfold InF RepD at h;exact h
theorem InF.blv {i:Bool}(h:InF K F σ ρ H v (.d (.bl i))):v = .bl i:=by
 unfold InF RepD at h;exact h
theorem k0k {C:Int->Int->Prop}{f:Int->Int->Int}:OpOk K (rI C fun i j=>.int (f i j)) (gI C fun i j=>.int (f i j)):=by
 intro F σ ρ H x y r1 r2 q Q a h1 h2 h b
 obtain⟨i,j,rfl,rfl,c,h⟩:=m1v h
 exact⟨i,j,h1.int,h2.int,c,b.int a h⟩
def gI0 (f:Int->Int->D):R->R->AE:=fun r1 r2 ρ q=>match r1,r2 with
 | .d (.int i),.d (.int j)=>q (.d (f i j)) ρ
 | _,_=>False
theorem c1f {f:Int->Int->D}{r1 r2:R}(h:gI0 f r1 r2 ρ q):∃i j,r1 = .d (.int i)/\r2 = .d (.int j)/\q (.d (f i j)) ρ:=by
 unfold gI0 at h
 split at h
 ·exact⟨_,_,rfl,rfl,h⟩
 ·exact h.elim
theorem b0j {f:Int->Int->Int}:OpOk K (rI0 fun i j=>.int (f i j)) (gI0 fun i j=>.int (f i j)):=by
 intro F σ ρ H x y r1 r2 q Q a h1 h2 h b
 obtain⟨i,j,rfl,rfl,h⟩:=c1f h
 exact⟨i,j,h1.int,h2.int,b.int a h⟩
theorem e0m {f:Int->Int->Bool}:OpOk K (rI0 fun i j=>.bl (f i j)) (gI0 fun i j=>.bl (f i j)):=by
 intro F σ ρ H x y r1 r2 q Q a h1 h2 h b
 obtain⟨i,j,rfl,rfl,h⟩:=c1f h
 exact⟨i,j,h1.int,h2.int,b.bl a h⟩
@[irreducible] def gEq (neg:Bool):R->R->AE:=fun r1 r2 ρ q=>match view ρ r1,view ρ r2 with
 | some d,some e=>d.depth<=60/\q (.d (.bl (if neg then !eqD d e else eqD d e))) ρ
 | _,_=>False
theorem c1g {neg:Bool}{r1 r2:R}(h:gEq neg r1 r2 ρ q):∃d e,view ρ r1=some d/\view ρ r2=some e/\d.depth<=60/\q (.d (.bl (if neg then !eqD d e else eqD d e))) ρ:=by
 unfold gEq at h
 split at h
 ·rename_i d e h1 h2;exact⟨d,e,h1,h2,h⟩
 ·exact h.elim
theorem k0y:OpOk K (rEqD K) (gEq false):=by
 intro F σ ρ H x y r1 r2 q Q a h1 h2 h b
 obtain⟨d,e,e1,e2,c,h⟩:=c1g h
 exact⟨d,e,f0a a h1 e1,f0a a h2 e2,c,b.bl a h⟩
theorem w0m:OpOk K (rNeD K) (gEq true):=by
 intro F σ ρ H x y r1 r2 q Q a h1 h2 h b
 obtain⟨d,e,e1,e2,c,h⟩:=c1g h
 exact⟨d,e,f0a a h1 e1,f0a a h2 e2,c,b.bl a h⟩
@[irreducible] def gIx:R->R->AE:=fun r1 r2 ρ q=>match view ρ r1,r2 with
 | some (.lst ds),.d (.int i)=>(match atI ds i with | some d=>q (.d d) ρ | none=>False)
 | some (.tup ds),.d (.int i)=>(match atI ds i with | some d=>q (.d d) ρ | none=>False)
 | _,_=>False
theorem d1e {Hh:Hp}{vs:List V}{ds:List D}{i:Int}{d:D}(h:RepDs K Hh vs ds)(e:atI ds i=some d):∃v,atI vs i=some v/\RepD K Hh v d:=by
 unfold atI at e ⊢
 rw[h.length]
 cases hx:ixN ds.length i with
 | none=>rw[hx]at e;cases e
 | some j =>
  rw[hx]at e
  exact h.get e
theorem b0r:OpOk K (rIx K) gIx:=by
 intro F σ ρ H x y r1 r2 q Q a h1 h2 h b
 unfold gIx at h
 split at h
 ·rename_i ds i e1
  split at h
  ·rename_i d e
   obtain⟨l,vs,rfl,sq,rd⟩:=c0m a h1 e1
   obtain⟨v,e2,rv⟩:=d1e rd e
   exact .inl ⟨l,vs,i,v,rfl,h2.int,sq,e2,b.dat a h rv⟩
  ·exact h.elim
 ·rename_i ds i e1
  split at h
  ·rename_i d e
   obtain⟨l,vs,rfl,sq,rd,_⟩:=i0d a h1 e1
   obtain⟨v,e2,rv⟩:=d1e rd e
   exact .inr (.inl ⟨l,vs,i,v,rfl,h2.int,sq,e2,b.dat a h rv⟩)
  ·exact h.elim
 ·exact h.elim
def o1x (a b:AE):AE:=fun ρ q=>a ρ fun r ρ1=>match r with
 | .d (.bl c)=>if c=true then b ρ1 q else q (.d (.bl false)) ρ1
 | _=>False
def o1o (a:AE):AE:=fun ρ q=>a ρ fun r ρ1=>match r with
 | .d (.bl c)=>q (.d (.bl (!c))) ρ1
 | _=>False
theorem g0u (ha:TEok K ta a)(hb:TEok K tb b):TEok K (l1a ta tb) (o1x a b):=by
 intro F σ ρ H q Q r h k
 refine ha F σ ρ H _ _ r h fun r1 ρ1 x H1 h1 rel1=>?_
 split at h1
 ·rename_i c
  obtain⟨r',k1,i1⟩:=rel1.inF
  refine⟨c,i1.blv,?_⟩
  cases c with
  | true=>exact hb F σ ρ1 H1 q Q r' h1 (k.after k1)
  | false=>exact(k.after k1).bl r' h1
 ·exact h1.elim
theorem d1x (ha:TEok K ta a):TEok K (k1y ta) (o1o a):=by
 intro F σ ρ H q Q r h k
 refine ha F σ ρ H _ _ r h fun r1 ρ1 x H1 h1 rel1=>?_
 split at h1
 ·rename_i c
  obtain⟨r',k1,i1⟩:=rel1.inF
  exact⟨c,i1.blv,(k.after k1).bl r' h1⟩
 ·exact h1.elim
variable {tt tu:TT}{at' au:AT}
def aB (a:AE):AT:=fun ρ q=>a ρ fun r ρ1=>match r with
 | .d (.bl c)=>q c ρ1
 | _=>False
theorem k0v (ha:TEok K ta a):TTok K (tB ta) (aB a):=by
 intro F σ ρ H q Q r h k
 refine ha F σ ρ H _ _ r h fun r1 ρ1 x H1 h1 rel1=>?_
 split at h1
 ·rename_i c
  obtain⟨r',k1,i1⟩:=rel1.inF
  exact⟨c,i1.blv,k _ _ _ h1 r' k1⟩
 ·exact h1.elim
theorem b0c (ha:TEok K ta a):TTok K (k1w ta) (aB a):=k0v ha
def aAnd (a b:AT):AT:=fun ρ q=>a ρ fun c ρ1=>if c=true then b ρ1 q else q false ρ1
def aOr (a b:AT):AT:=fun ρ q=>a ρ fun c ρ1=>if c=true then q true ρ1 else b ρ1 q
def aNot (a:AT):AT:=fun ρ q=>a ρ fun c ρ1=>q (!c) ρ1
theorem l0n (ha:TTok K tt at')(hb:TTok K tu au):TTok K (tAnd tt tu) (aAnd at' au):=by
 intro F σ ρ H q Q r h k
 refine ha F σ ρ H _ _ r h fun c ρ1 H1 h1 r1 k1=>?_
 cases c with
 | true=>exact hb F σ ρ1 H1 q Q r1 h1 fun b ρ2 H2 h2 r2 k2=>k _ _ _ h2 r2 (k1.trans k2)
 | false=>exact k _ _ _ h1 r1 k1
theorem t0h (ha:TTok K tt at')(hb:TTok K tu au):TTok K (tOr tt tu) (aOr at' au):=by
 intro F σ ρ H q Q r h k
 refine ha F σ ρ H _ _ r h fun c ρ1 H1 h1 r1 k1=>?_
 cases c with
 | true=>exact k _ _ _ h1 r1 k1
 | false=>exact hb F σ ρ1 H1 q Q r1 h1 fun b ρ2 H2 h2 r2 k2=>k _ _ _ h2 r2 (k1.trans k2)
theorem e0o (ha:TTok K tt at'):TTok K (tNot tt) (aNot at'):=fun F σ ρ H q Q r h k=>ha F σ ρ H _ _ r h fun c ρ1 H1 h1 r1 k1=>k _ _ _ h1 r1 k1
def truD:D->Bool
 | .non=>false
 | .bl b=>b
 | .int i=>i != 0
 | .str _=>true
 | .tup ds=>!ds.isEmpty
 | .lst ds=>!ds.isEmpty
def aTru (a:AE):AT:=fun ρ q=>a ρ fun r ρ1=>match view ρ1 r.frz with
 | some (.str _)=>False
 | some d=>q (truD d) ρ1
 | none=>False
theorem m0t {Hh:Hp}{vs:List V}{ds:List D}(h:RepDs K Hh vs ds):vs.isEmpty=ds.isEmpty:=by
 have:=h.length
 cases vs <;> cases ds <;> simp_all
theorem i0e (ha:TEok K ta a):TTok K (fun σ H Q=>ta σ H fun x H'=>∃k,TruV K x H' k/\Q k H') (aTru a):=by
 intro F σ ρ H q Q r h k
 refine ha F σ ρ H _ _ r h fun r1 ρ1 x H1 h1 rel1=>?_
 obtain⟨r',k1,i1⟩:=rel1.inF
 cases e:view ρ1 r1.frz with
 | none=>rw[e]at h1;exact h1.elim
 | some d =>
  rw[e]at h1
  have rd:=f0a r' i1 e
  cases d with
  | str x=>exact h1.elim
  | non=>unfold RepD at rd;subst rd;exact⟨_,rfl,k _ _ _ h1 r' k1⟩
  | bl b=>unfold RepD at rd;subst rd;exact⟨_,rfl,k _ _ _ h1 r' k1⟩
  | int b=>unfold RepD at rd;subst rd;exact⟨_,rfl,k _ _ _ h1 r' k1⟩
  | tup ds =>
   unfold RepD at rd
   obtain⟨p,vs,rfl,sq,rr⟩:=rd
   exact⟨_,.inr (.inl ⟨vs,sq,by rw[m0t rr];rfl⟩),k _ _ _ h1 r' k1⟩
  | lst ds =>
   unfold RepD at rd
   obtain⟨p,vs,rfl,sq,rr⟩:=rd
   exact⟨_,.inl ⟨vs,sq,by rw[m0t rr];rfl⟩,k _ _ _ h1 r' k1⟩
def aIf (c:AT)(a b:AE):AE:=fun ρ q=>c ρ fun k ρ1=>if k=true then a ρ1 q else b ρ1 q
theorem k1r (hc:TTok K tt at')(ha:TEok K ta a)(hb:TEok K tb b):TEok K (tIf tt ta tb) (aIf at' a b):=by
 intro F σ ρ H q Q r h k
 refine hc F σ ρ H _ _ r h fun c ρ1 H1 h1 r1 k1=>?_
 cases c with
 | true=>exact ha F σ ρ1 H1 q Q r1 h1 (k.after k1)
 | false=>exact hb F σ ρ1 H1 q Q r1 h1 (k.after k1)
variable {ts:TA}{as:AA}
def aNil:AA:=fun ρ q=>q [] ρ
def o1t (a:AE)(as:AA):AA:=fun ρ q=>a ρ fun r ρ1=>as ρ1 fun rs ρ2=>q (r.frz::rs) ρ2
theorem a0d:TAok K tNil aNil:=fun F σ ρ H q Q r h k=>k _ _ _ _ h r .nil .refl
theorem a0a (ha:TEok K ta a)(hs:TAok K ts as):TAok K (e1d ta ts) (o1t a as):=by
 intro F σ ρ H q Q r h k
 refine ha F σ ρ H _ _ r h fun r1 ρ1 x H1 h1 rel1=>?_
 obtain⟨r',k1,i1⟩:=rel1.inF
 refine hs F σ ρ1 H1 _ _ r' h1 fun rs ρ2 vs H2 h2 r2 i2 k2=>?_
 exact k _ _ _ _ h2 r2 (.cons (i1.keep k2) i2) (k1.trans k2)
def sto:List R->En->(List D->En->Prop)->Prop
 | [],ρ,q=>q [] ρ
 | .d d::rs,ρ,q=>sto rs ρ fun ds ρ'=>q (d::ds) ρ'
 | .o i::rs,ρ,q=>(match gt ρ i with
  | .ow ds=>sto rs (pt ρ i (.vl (.lst ds))) fun es ρ'=>q (.lst ds::es) ρ'
  | .vl d=>sto rs ρ fun es ρ'=>q (d::es) ρ'
  | _=>False)
 | _::_,_,_=>False
theorem j0h:∀ {vs:List V} {rs:List R} {ρ:En} {q:List D->En->Prop},Rel K F σ ρ H->InFs K F σ ρ H vs rs->sto rs ρ q->∃ds ρ',q ds ρ'/\Rel K F σ ρ' H/\Kp σ ρ ρ' H H/\RepDs K (hid H (hs F σ ρ')) vs ds
 | _,_,ρ,q,r,.nil,h=>⟨[],ρ,h,r,.refl,.nil⟩
 | _,_,ρ,q,r,.cons (v:=v) (r:=rr) (vs:=vs) (rs:=rs) a t,h=>by
  cases rr with
  | n s=>exact h.elim
  | t n=>exact h.elim
  | x s=>exact h.elim
  | d d =>
   obtain⟨ds,ρ',hq,r',k,rd⟩:=j0h r t (show sto rs ρ _ from h)
   exact⟨d::ds,ρ',hq,r',k,.cons (RepD.same a k.vis) rd⟩
  | o i =>
   have s:=r.sl i
   unfold sto at h
   cases hg:gt ρ i with
   | un=>rw[hg]at h;exact h.elim
   | tp n=>rw[hg]at h;exact h.elim
   | dk n=>rw[hg]at h;exact h.elim
   | dt n=>rw[hg]at h;exact h.elim
   | ex n m=>rw[hg]at h;exact h.elim
   | sc n=>rw[hg]at h;exact h.elim
   | px n m k=>rw[hg]at h;exact h.elim
   | xl es=>rw[hg]at h;exact h.elim
   | vl d =>
    rw[hg]at h s
    obtain⟨x,e,rd1⟩:=s
    rw[show σ[i]? = _ from a]at e
    injection e with e;injection e with e;subst e
    obtain⟨ds,ρ',hq,r',k,rd⟩:=j0h r t h
    exact⟨d::ds,ρ',hq,r',k,.cons (rd1.same k.vis) rd⟩
   | ow ds =>
    rw[hg]at h
    obtain⟨l,e,r1,k1,rd1⟩:=r.frz hg
    rw[show σ[i]? = _ from a]at e
    injection e with e;injection e with e;subst e
    obtain⟨es,ρ',hq,r',k,rd⟩:=j0h r1 (t.keep k1) h
    exact⟨_,ρ',hq,r',k1.trans k,.cons (rd1.same k.vis) rd⟩
theorem small {n:Nat}(h:n<=1000000):n<=sizeLine:=by unfold sizeLine;omega
theorem o0f {n:Nat}(h:n<=1000000):n<sizeLine:=by unfold sizeLine;omega
def aTup (as:AA):AE:=fun ρ q=>as ρ fun rs ρ1=>sto rs ρ1 fun ds ρ2=>ds.length<=1000000/\q (.d (.tup ds)) ρ2
def aLst (as:AA):AE:=fun ρ q=>as ρ fun rs ρ1=>sto rs ρ1 fun ds ρ2=>ds.length<=1000000/\q (.f ds) ρ2
theorem e0j (hs:TAok K ts as):TEok K (tTup ts) (aTup as):=by
 intro F σ ρ H q Q r h k
 refine hs F σ ρ H _ _ r h fun rs ρ1 vs H1 h1 r1 i1 k1=>?_
 obtain⟨ds,ρ2,⟨hz,hq⟩,r2,k2,rd⟩:=j0h r1 i1 h1
 exact⟨small (by rw[rd.length];exact hz),fun p hp=>((k.after k1).after k2).newT r2 hq rd hp⟩
theorem f0k (hs:TAok K ts as):TEok K (tLst ts) (aLst as):=by
 intro F σ ρ H q Q r h k
 refine hs F σ ρ H _ _ r h fun rs ρ1 vs H1 h1 r1 i1 k1=>?_
 obtain⟨ds,ρ2,⟨hz,hq⟩,r2,k2,rd⟩:=j0h r1 i1 h1
 exact⟨small (by rw[rd.length];exact hz),fun p hp=>((k.after k1).after k2).new r2 hq rd hp⟩
def aCB (g:List R->AE)(as:AA):AE:=fun ρ q=>as ρ fun rs ρ1=>g rs ρ1 q
theorem b0f {rb:List V->Hp->VK->Prop}{g:List R->AE}(hb:CbOk K rb g)(hs:TAok K ts as):TEok K (tCB rb ts) (aCB g as):=by
 intro F σ ρ H q Q r h k
 exact hs F σ ρ H _ _ r h fun rs ρ1 vs H1 h1 r1 i1 k1=>hb F σ ρ1 H1 vs rs q Q r1 i1 h1 (k.after k1)
theorem InFs.one {vs:List V}{r1:R}(h:InFs K F σ ρ H vs [r1]):∃x,vs=[x]/\InF K F σ ρ H x r1:=by
 cases h with | cons a t=>cases t;exact⟨_,rfl,a⟩
theorem InFs.two {vs:List V}{r1 r2:R}(h:InFs K F σ ρ H vs [r1,r2]):∃x y,vs=[x,y]/\InF K F σ ρ H x r1/\InF K F σ ρ H y r2:=by
 cases h with | cons a t=>obtain⟨y,rfl,b⟩:=t.one;exact⟨_,_,rfl,a,b⟩
def gLen:List R->AE:=fun rs ρ q=>match rs with
 | [r]=>(match view ρ r with
  | some (.lst ds)=>q (.d (.int ds.length)) ρ
  | some (.tup ds)=>q (.d (.int ds.length)) ρ
  | _=>False)
 | _=>False
theorem b0v:CbOk K (fun xs H Q=>∃p ys,xs=[.ref p]/\(SqL K H p ys∨SqT K H p ys)/\Q (.int ys.length) H) gLen:=by
 intro F σ ρ H vs rs q Q a i h b
 unfold gLen at h
 split at h
 ·obtain⟨x,rfl,i1⟩:=i.one
  split at h
  ·rename_i ds e
   obtain⟨l,vs,rfl,sq,rd⟩:=c0m a i1 e
   exact⟨l,vs,rfl,.inl sq,by rw[rd.length];exact b.int a h⟩
  ·rename_i ds e
   obtain⟨l,vs,rfl,sq,rd,_⟩:=i0d a i1 e
   exact⟨l,vs,rfl,.inr sq,by rw[rd.length];exact b.int a h⟩
  ·exact h.elim
 ·exact h.elim
@[irreducible] def gIsa:List R->AE:=fun rs ρ q=>match rs with
 | [r,.t n]=>(match view ρ r with
  | some d=>(match isaT (tyD d) n with | some b=>q (.d (.bl b)) ρ | none=>False)
  | none=>False)
 | _=>False
theorem k0f:CbOk K (fun xs H Q=>∃x d T b,xs=[x,.ty T]/\RepD K H x d/\isaT (tyD d) T=some b/\Q (.bl b) H) gIsa:=by
 intro F σ ρ H vs rs q Q a i h b
 unfold gIsa at h
 split at h
 ·obtain⟨x,y,rfl,i1,j1⟩:=i.two
  split at h
  ·rename_i d e
   split at h
   ·rename_i b' e'
    exact⟨x,d,_,b',by rw[show y=_ from j1],f0a a i1 e,e',b.bl a h⟩
   ·exact h.elim
  ·exact h.elim
 ·exact h.elim
def gList:List R->AE:=fun rs ρ q=>match rs with
 | [r]=>(match view ρ r with
  | some (.lst ds)=>q (.f ds) ρ
  | some (.tup ds)=>q (.f ds) ρ
  | _=>False)
 | _=>False
theorem s0s:CbOk K (fun xs H Q=>∃p ys,xs=[.ref p]/\(SqL K H p ys∨SqT K H p ys)/\∀l,H l=none->Q (.ref l) (upd H l (.lst ys))) gList:=by
 intro F σ ρ H vs rs q Q a i h b
 unfold gList at h
 split at h
 ·obtain⟨x,rfl,i1⟩:=i.one
  split at h
  ·rename_i ds e
   obtain⟨l,vs,rfl,sq,rd⟩:=c0m a i1 e
   exact⟨l,vs,rfl,.inl sq,fun p hp=>b.new a h rd hp⟩
  ·rename_i ds e
   obtain⟨l,vs,rfl,sq,rd,_⟩:=i0d a i1 e
   exact⟨l,vs,rfl,.inr sq,fun p hp=>b.new a h rd hp⟩
  ·exact h.elim
 ·exact h.elim
def gTuple:List R->AE:=fun rs ρ q=>match rs with
 | [r]=>(match view ρ r with
  | some (.lst ds)=>q (.d (.tup ds)) ρ
  | some (.tup ds)=>q (.d (.tup ds)) ρ
  | _=>False)
 | _=>False
theorem g0t:CbOk K (fun xs H Q=>∃p ys,xs=[.ref p]/\((SqL K H p ys/\∀l,H l=none->Q (.ref l) (upd H l (.tup ys)))∨(SqT K H p ys/\Q (.ref p) H))) gTuple:=by
 intro F σ ρ H vs rs q Q a i h b
 unfold gTuple at h
 split at h
 ·obtain⟨x,rfl,i1⟩:=i.one
  split at h
  ·rename_i ds e
   obtain⟨l,vs,rfl,sq,rd⟩:=c0m a i1 e
   exact⟨l,vs,rfl,.inl ⟨sq,fun p hp=>b.newT a h rd hp⟩⟩
  ·rename_i ds e
   obtain⟨l,vs,rfl,sq,rd,sq'⟩:=i0d a i1 e
   refine⟨l,vs,rfl,.inr ⟨sq,b.dat a h ?_⟩⟩
   unfold RepD
   exact⟨l,vs,rfl,sq',rd⟩
  ·exact h.elim
 ·exact h.elim
def gII (f:Int->Int->Int):List R->AE:=fun rs ρ q=>match rs with
 | [.d (.int i),.d (.int j)]=>q (.d (.int (f i j))) ρ
 | _=>False
theorem l0u:CbOk K (fun xs H Q=>∃i j,xs=[.int i,.int j]/\Q (.int (if j > i then j else i)) H) (gII fun i j=>if j > i then j else i):=by
 intro F σ ρ H vs rs q Q a i h b
 unfold gII at h
 split at h
 ·obtain⟨x,y,rfl,i1,j1⟩:=i.two
  exact⟨_,_,by rw[i1.int,j1.int],b.int a h⟩
 ·exact h.elim
theorem x0f:CbOk K (fun xs H Q=>∃i j,xs=[.int i,.int j]/\Q (.int (if j<i then j else i)) H) (gII fun i j=>if j<i then j else i):=by
 intro F σ ρ H vs rs q Q a i h b
 unfold gII at h
 split at h
 ·obtain⟨x,y,rfl,i1,j1⟩:=i.two
  exact⟨_,_,by rw[i1.int,j1.int],b.int a h⟩
 ·exact h.elim
def e0y:List D->Option (List Int)
 | []=>some []
 | .int i::ds=>(e0y ds).map (i :: ·)
 | _=>none
theorem g0o:∀ {ds:List D} {ns:List Int},e0y ds=some ns->ds=ns.map D.int
 | [],ns,h=>by simp[e0y]at h;subst h;rfl
 | .int i::ds,ns,h=>by
  simp only[e0y,Option.map_eq_some_iff]at h
  obtain⟨ms,e,rfl⟩:=h
  rw[g0o e];rfl
 | .non::ds,ns,h=>by simp[e0y]at h
 | .bl _::ds,ns,h=>by simp[e0y]at h
 | .str _::ds,ns,h=>by simp[e0y]at h
 | .tup _::ds,ns,h=>by simp[e0y]at h
 | .lst _::ds,ns,h=>by simp[e0y]at h
theorem g0n (ns:List Int):e0y (ns.map D.int)=some ns:=by
 induction ns with
 | nil=>rfl
 | cons n ns ih=>simp[e0y,ih]
def l0j:List D->Option (List Bool)
 | []=>some []
 | .bl i::ds=>(l0j ds).map (i :: ·)
 | _=>none
theorem x0i:∀ {ds:List D} {ns:List Bool},l0j ds=some ns->ds=ns.map D.bl
 | [],ns,h=>by simp[l0j]at h;subst h;rfl
 | .bl i::ds,ns,h=>by
  simp only[l0j,Option.map_eq_some_iff]at h
  obtain⟨ms,e,rfl⟩:=h
  rw[x0i e];rfl
 | .non::ds,ns,h=>by simp[l0j]at h
 | .int _::ds,ns,h=>by simp[l0j]at h
 | .str _::ds,ns,h=>by simp[l0j]at h
 | .tup _::ds,ns,h=>by simp[l0j]at h
 | .lst _::ds,ns,h=>by simp[l0j]at h
theorem d1d (ns:List Bool):l0j (ns.map D.bl)=some ns:=by
 induction ns with
 | nil=>rfl
 | cons n ns ih=>simp[l0j,ih]
theorem g1o:∀ {vs:List V} {ns:List Bool},RepDs K H vs (ns.map D.bl)->vs=ns.map V.bl
 | [],[],_=>rfl
 | v::vs,n::ns,h=>by
  rw[List.map_cons]at h
  unfold RepDs at h
  obtain⟨h1,h2⟩:=h
  unfold RepD at h1
  rw[List.map_cons,h1,g1o h2]
 | [],n::ns,h=>by rw[List.map_cons]at h;unfold RepDs at h;exact h.elim
 | v::vs,[],h=>by rw[List.map_nil]at h;unfold RepDs at h;exact h.elim
@[irreducible] def gAll:List R->AE:=fun rs ρ q=>match rs with
 | [r]=>(match view ρ r with
  | some (.lst ds)=>(match l0j ds with | some bs=>q (.d (.bl (bs.all id))) ρ | none=>False)
  | _=>False)
 | _=>False
theorem x0g:CbOk K (fun xs H Q=>∃(p:Addr) (bs:List Bool),xs=[.ref p]/\SqL K H p (bs.map V.bl)/\Q (.bl (bs.all id)) H) gAll:=by
 intro F σ ρ H vs rs q Q a i h b
 unfold gAll at h
 split at h
 ·obtain⟨x,rfl,i1⟩:=i.one
  split at h
  ·rename_i ds e
   split at h
   ·rename_i bs e'
    obtain⟨l,vs,rfl,sq,rd⟩:=c0m a i1 e
    rw[x0i e']at rd
    rw[g1o rd]at sq
    exact⟨l,bs,rfl,sq,b.bl a h⟩
   ·exact h.elim
  ·exact h.elim
 ·exact h.elim
@[irreducible] def gSum:List R->AE:=fun rs ρ q=>match rs with
 | [r]=>(match view ρ r with
  | some (.lst ds)=>(match e0y ds with | some ns=>(∀n∈ns,0<=n)/\ns.sum<2^62/\q (.d (.int ns.sum)) ρ | none=>False)
  | _=>False)
 | _=>False
theorem f1v:CbOk K (fun xs H Q=>∃(p:Addr) (ns:List Int),xs=[.ref p]/\SqL K H p (ns.map V.int)/\(∀n∈ns,0<=n)/\ns.sum<2^62/\Q (.int ns.sum) H) gSum:=by
 intro F σ ρ H vs rs q Q a i h b
 unfold gSum at h
 split at h
 ·obtain⟨x,rfl,i1⟩:=i.one
  split at h
  ·rename_i ds e
   split at h
   ·rename_i bs e'
    obtain⟨l,vs,rfl,sq,rd⟩:=c0m a i1 e
    rw[g0o e',g0b]at rd
    rw[rd]at sq
    exact⟨l,bs,rfl,sq,h.1,h.2.1,b.int a h.2.2⟩
   ·exact h.elim
  ·exact h.elim
 ·exact h.elim
def aApp (a:AE)(as:AA):AE:=fun ρ q=>a ρ fun r ρ1=>match r with
 | .o i=>(match gt ρ1 i with
  | .ow _=>as ρ1 fun rs ρ2=>(match rs with
   | [y]=>sto [y] ρ2 fun es ρ3=>(match gt ρ3 i with
    | .ow ds=>ds.length<=1000000/\q (.d .non) (pt ρ3 i (.ow (ds++es)))
    | _=>False)
   | _=>False)
  | _=>False)
 | _=>False
theorem f0l (ha:TEok K ta a)(hs:TAok K ts as):TEok K (tBM K "list" rAppend ta ts) (aApp a as):=by
 intro F σ ρ H q Q r h k
 refine ha F σ ρ H _ _ r h fun r1 ρ1 x H1 h1 rel1=>?_
 split at h1
 ·rename_i i
  obtain⟨r',k1,i1⟩:=rel1.inF
  have ex:σ[i]? = some (some x):=i1
  split at h1
  ·rename_i ds0 hg0
   have s:=r'.sl i
   rw[hg0,ex]at s
   obtain⟨l,vs0,e,hl,_⟩:=s
   injection e with e;injection e with e;subst e
   refine⟨.inl ⟨rfl,_,SqL.of hl⟩,hs F σ ρ1 H1 _ _ r' h1 fun rs ρ2 vs H2 h2 r2 i2 k2=>?_⟩
   split at h2
   ·obtain⟨es,ρ3,h3,r3,k3,rd⟩:=j0h r2 i2 h2
    split at h3
    ·rename_i ds hg
     have s:=r3.sl i
     rw[hg,ex]at s
     obtain⟨l',us,e,hl',rd'⟩:=s
     injection e with e;injection e with e;injection e with e;subst e
     obtain⟨y,rfl,_⟩:=i2.one
     have hw:=r3.write (i:=i) (l:=l) (o:=.lst (us++[y])) (s:=.ow (ds++es)) (by rw[hg];rfl) ex rfl ⟨l,_,rfl,b0l,rd'.append rd⟩
     refine⟨l,us,y,rfl,rfl,hl',o0f (by rw[rd'.length];exact h3.1),?_⟩
     exact(((k.after k1).after k2).after (k3.trans hw.2)).non hw.1 h3.2
    ·exact h3.elim
   ·exact h2.elim
  ·exact h1.elim
 ·exact h1.elim
abbrev AO:=En->(Option Int->En->Prop)->Prop
def TOok (K:PySem.W.Frag)(t:TO)(a:AO):Prop:=∀F σ ρ H q Q,Rel K F σ ρ H->a ρ q->(∀b ρ' H',q b ρ'->Rel K F σ ρ' H'->Kp σ ρ ρ' H H'->Q b H')->t σ H Q
def oNo:AO:=fun ρ q=>q none ρ
def o1b (a:AE):AO:=fun ρ q=>a ρ fun r ρ1=>match r with
 | .d (.int i)=>q (some i) ρ1
 | _=>False
theorem h1t:TOok K tNoPart oNo:=fun F σ ρ H q Q r h k=>k _ _ _ h r .refl
theorem z0d (ha:TEok K ta a):TOok K (k1x ta) (o1b a):=by
 intro F σ ρ H q Q r h k
 refine ha F σ ρ H _ _ r h fun r1 ρ1 x H1 h1 rel1=>?_
 split at h1
 ·obtain⟨r',k1,i1⟩:=rel1.inF
  exact⟨_,i1.int,k _ _ _ h1 r' k1⟩
 ·exact h1.elim
def cutD (xs:List D)(lo hi:Option Int):List D:=(xs.drop (HT.sIx xs.length 0 lo)).take (HT.sIx xs.length xs.length hi - HT.sIx xs.length 0 lo)
theorem RepDs.drop:∀ {vs:List V} {ds:List D} (n:Nat),RepDs K H vs ds->RepDs K H (vs.drop n) (ds.drop n)
 | [],[],n,h=>by simp[RepDs.nil]
 | v::vs,d::ds,0,h=>h
 | v::vs,d::ds,n+1,h=>by unfold RepDs at h;exact RepDs.drop n h.2
 | [],d::ds,_,h=>by unfold RepDs at h;exact h.elim
 | v::vs,[],_,h=>by unfold RepDs at h;exact h.elim
theorem RepDs.take:∀ {vs:List V} {ds:List D} (n:Nat),RepDs K H vs ds->RepDs K H (vs.take n) (ds.take n)
 | [],[],n,h=>by simp[RepDs.nil]
 | v::vs,d::ds,0,h=>.nil
 | v::vs,d::ds,n+1,h=>by unfold RepDs at h;exact .cons h.1 (RepDs.take n h.2)
 | [],d::ds,_,h=>by unfold RepDs at h;exact h.elim
 | v::vs,[],_,h=>by unfold RepDs at h;exact h.elim
theorem j1u {vs:List V}{ds:List D}{lo hi:Option Int}(h:RepDs K H vs ds):RepDs K H (cutV vs lo hi) (cutD ds lo hi):=by
 unfold cutV cutD
 rw[h.length]
 exact(h.drop _).take _
end
def e0x (ρ:En):R->Sv
 | .d d=>.vl d
 | .o j=>gt ρ j
 | .x s=>s
 | _=>.un
def Src (K:PySem.W.Frag)(F:Fr)(σ:St)(ρ:En)(H:Hp)(ov:Option V):R->Prop
 | .d d=>∃v,ov=some v/\RepD K (hid H (hs F σ ρ)) v d
 | .o j=>(σ[j]?).getD none=ov
 | .x s=>∃v,ov=some v/\s.own=false/\SvOk K (hid H (hs F σ ρ)) H (some (some v)) s
 | _=>True
inductive Srcs (K:PySem.W.Frag) (F:Fr) (σ:St) (ρ:En) (H:Hp):St->List R->Prop
 | nil:Srcs K F σ ρ H [] []
 | cons {v:Option V} {r:R} {vs:St} {rs:List R}:Src K F σ ρ H v r->Srcs K F σ ρ H vs rs->Srcs K F σ ρ H (v::vs) (r::rs)
def isO (j:Nat):R->Bool
 | .o i=>i==j
 | _=>false
def dis:List R->Bool
 | []=>true
 | .o j::rs=>rs.all (fun r=>!isO j r)&&dis rs
 | _::rs=>dis rs
theorem f1p:∀ {rs:List R} {k k' j:Nat},dis rs=true->rs[k]? = some (.o j)->rs[k']? = some (.o j)->k=k':=by
 intro rs
 induction rs with
 | nil=>intro k k' j _ h;simp at h
 | cons r rs ih =>
  intro k k' j hd h h'
  have hd':dis rs=true:=by
   cases r <;> simp[dis]at hd <;> first | exact hd.2 | exact hd
  have no:∀(m:Nat),r = .o j->rs[m]? = some (.o j)->False:=fun m e hm=>by
   subst e
   simp[dis]at hd
   have:=hd.1 _ (List.mem_of_getElem? hm)
   simp[isO]at this
  cases k with
  | zero =>
   cases k' with
   | zero=>rfl
   | succ k'=>simp at h h';exact(no k' h h').elim
  | succ k =>
   cases k' with
   | zero=>simp at h h';exact(no k h' h).elim
   | succ k'=>simp at h h';rw[ih hd' h h']
def back:En->List R->En->En
 | ρ,.o j::rs,s::ss=>back (pt ρ j s) rs ss
 | ρ,_::rs,_::ss=>back ρ rs ss
 | ρ,_,_=>ρ
theorem h0i:∀(rs:List R) (ρ ss:En),(back ρ rs ss).length=ρ.length
 | [],ρ,ss=>by cases ss <;> rfl
 | r::rs,ρ,[]=>by cases r <;> rfl
 | .o j::rs,ρ,s::ss=>by show(back (pt ρ j s) rs ss).length=_;rw[h0i,j0o]
 | .d d::rs,ρ,s::ss=>h0i rs ρ ss
 | .n d::rs,ρ,s::ss=>h0i rs ρ ss
 | .t d::rs,ρ,s::ss=>h0i rs ρ ss
 | .x d::rs,ρ,s::ss=>h0i rs ρ ss
theorem j0e:∀(rs:List R) (ρ ss:En) (i:Nat),(∀k:Nat,rs[k]? ≠ some (R.o i))->gt (back ρ rs ss) i=gt ρ i
 | [],ρ,ss,i,_=>by cases ss <;> rfl
 | r::rs,ρ,[],i,_=>by cases r <;> rfl
 | .o j::rs,ρ,s::ss,i,h=>by
  have ne:j≠i:=fun e=>h 0 (by simp[e])
  show gt (back (pt ρ j s) rs ss) i=_
  rw[j0e rs _ ss i (fun k z=>h (k+1) (by simpa using z)),c0u ρ j i s ne]
 | .d d::rs,ρ,s::ss,i,h=>j0e rs ρ ss i (fun k z=>h (k+1) (by simpa using z))
 | .n d::rs,ρ,s::ss,i,h=>j0e rs ρ ss i (fun k z=>h (k+1) (by simpa using z))
 | .t d::rs,ρ,s::ss,i,h=>j0e rs ρ ss i (fun k z=>h (k+1) (by simpa using z))
 | .x d::rs,ρ,s::ss,i,h=>j0e rs ρ ss i (fun k z=>h (k+1) (by simpa using z))
theorem k0s:∀(rs:List R) (ρ ss:En) (i k:Nat),dis rs=true->rs[k]? = some (.o i)->ss.length=rs.length->i<ρ.length->gt (back ρ rs ss) i=gt ss k
 | [],ρ,ss,i,k,_,h,_,_=>by simp at h
 | r::rs,ρ,[],i,k,_,_,e,_=>by simp at e
 | .o j::rs,ρ,s::ss,i,0,hd,h,e,l=>by
  simp at h;subst h
  simp[dis]at hd
  show gt (back (pt ρ j s) rs ss) j=s
  rw[j0e rs _ ss j (fun k z=>by have:=hd.1 _ (List.mem_of_getElem? z);simp[isO]at this),s0e ρ j s l]
 | .o j::rs,ρ,s::ss,i,k+1,hd,h,e,l=>by
  simp[dis]at hd
  exact k0s rs (pt ρ j s) ss i k hd.2 (by simpa using h) (by simpa using e) (by rw[j0o];exact l)
 | .d d::rs,ρ,s::ss,i,0,hd,h,e,l=>by simp at h
 | .n d::rs,ρ,s::ss,i,0,hd,h,e,l=>by simp at h
 | .t d::rs,ρ,s::ss,i,0,hd,h,e,l=>by simp at h
 | .x d::rs,ρ,s::ss,i,0,hd,h,e,l=>by simp at h
 | .d d::rs,ρ,s::ss,i,k+1,hd,h,e,l=>k0s rs ρ ss i k hd (by simpa using h) (by simpa using e) l
 | .n d::rs,ρ,s::ss,i,k+1,hd,h,e,l=>k0s rs ρ ss i k hd (by simpa using h) (by simpa using e) l
 | .t d::rs,ρ,s::ss,i,k+1,hd,h,e,l=>k0s rs ρ ss i k hd (by simpa using h) (by simpa using e) l
 | .x d::rs,ρ,s::ss,i,k+1,hd,h,e,l=>k0s rs ρ ss i k hd (by simpa using h) (by simpa using e) l
theorem s0f (ρ:En):∀(rs:List R) (k:Nat),gt (rs.map (e0x ρ)) k=(match rs[k]? with | some r=>e0x ρ r | none=>.un)
 | [],k=>by simp[gt]
 | r::rs,0=>by simp[gt]
 | r::rs,k+1=>by simp[gt,s0f ρ rs k]
section
variable {K:PySem.W.Frag}{F:Fr}{σ:St}{ρ ρ':En}{H H':Hp}{ovs:St}{rs:List R}
theorem Srcs.length (s:Srcs K F σ ρ H ovs rs):ovs.length=rs.length:=by
 induction s with
 | nil=>rfl
 | cons _ _ ih=>simp[ih]
theorem Srcs.get {k:Nat}{r:R}(s:Srcs K F σ ρ H ovs rs)(h:rs[k]? = some r):∃ov,ovs[k]? = some ov/\Src K F σ ρ H ov r:=by
 induction s generalizing k with
 | nil=>simp at h
 | cons a _ ih =>
  cases k with
  | zero=>simp at h;subst h;exact⟨_,rfl,a⟩
  | succ k=>obtain⟨ov,e,q⟩:=ih (by simpa using h);exact⟨ov,by simpa using e,q⟩
def g0c (F:Fr)(σ:St)(ρ:En)(H:Hp)(ovs:St)(ss:En):Fr :=
 ⟨H,fun a=>F.Z a∨(c0c σ ρ a/\¬c0c ovs ss a),fun a=>c0c ovs ss a,fun i a=>(gt ss i).own=true/\ovs[i]? = some (some (.ref a)),fun _ _=>False⟩
theorem t0j (s:Srcs K F σ ρ H ovs rs){k:Nat}(h:(gt (rs.map (e0x ρ)) k).own=true):∃j:Nat,rs[k]? = some (R.o j)/\(gt ρ j).own=true/\gt (rs.map (e0x ρ)) k=gt ρ j/\ovs[k]? = some ((σ[j]?).getD none):=by
 rw[s0f]at h
 cases e:rs[k]? with
 | none=>simp[e]at h;cases h
 | some r =>
  rw[e]at h
  cases r with
  | d d=>cases h
  | n d=>cases h
  | t d=>cases h
  | x d =>
   obtain⟨ov,_,_,_,hx,_⟩:=s.get e
   have h:d.own=true:=h
   rw[hx]at h;cases h
  | o j =>
   obtain⟨ov,e1,e2⟩:=s.get e
   exact⟨j,rfl,h,by rw[s0f,e];rfl,by rw[e1,show _=ov from e2]⟩
theorem p0w {x:Option (Option V)}{a:Addr}(h:some (x.getD none)=some (some (V.ref a))):x=some (some (.ref a)):=by
 cases x with
 | none=>simp at h
 | some y=>simpa using h
theorem e0s (s:Srcs K F σ ρ H ovs rs){a:Addr}(h:c0c ovs (rs.map (e0x ρ)) a):∃k j:Nat,rs[k]? = some (R.o j)/\(gt ρ j).own=true/\σ[j]? = some (some (V.ref a))/\ovs[k]? = some (some (V.ref a)):=by
 obtain⟨k,hk,e⟩:=h
 obtain⟨j,e1,e2,e3,e4⟩:=t0j s hk
 rw[e]at e4
 exact⟨k,j,e1,e2,p0w e4.symm,e⟩
theorem v0w (r:Rel K F σ ρ H)(s:Srcs K F σ ρ H ovs rs):hs (g0c F σ ρ H ovs (rs.map (e0x ρ))) ovs (rs.map (e0x ρ))=hs F σ ρ:=by
 funext a
 apply propext
 constructor
 ·rintro((h | h) | h)
  ·exact .inl h
  ·exact .inr h.1
  ·obtain⟨k,j,e1,e2,e3,_⟩:=e0s s h
   exact .inr ⟨j,e2,e3⟩
 ·rintro(h | h)
  ·exact .inl (.inl h)
  ·by_cases q:c0c ovs (rs.map (e0x ρ)) a
   ·exact .inr q
   ·exact .inl (.inr ⟨h,q⟩)
theorem Rel.sub (r:Rel K F σ ρ H)(s:Srcs K F σ ρ H ovs rs)(hd:dis rs=true):Rel K (g0c F σ ρ H ovs (rs.map (e0x ρ))) ovs (rs.map (e0x ρ)) H:=by
 refine⟨by rw[s.length,List.length_map],fun a o e _=>e,fun a z=>?_,fun a h z=>?_,fun i a hi e=>.inl ⟨⟨hi,e⟩,i,hi,e⟩,fun i a h=>?_,fun a h=>?_,fun a h=>?_,fun i j a hi hj ei ej=>?_,fun k=>?_⟩
 ·rcases z with z | z
  ·exact r.zl a z
  ·exact w0h r z.1
 ·obtain⟨k,j,e1,e2,e3,_⟩:=e0s s h
  rcases z with z | z
  ·exact r.zo a ⟨j,e2,e3⟩ z
  ·exact z.2 h
 ·rcases h with h | h
  ·exact h.2
  ·exact h.elim
 ·obtain⟨k,j,e1,e2,e3,_⟩:=e0s s h
  exact h0b r ⟨j,e2,e3⟩
 ·obtain⟨k,j,e1,e2,e3,_⟩:=e0s s h
  exact h0b r ⟨j,e2,e3⟩
 ·obtain⟨p,a1,a2,a3,a4⟩:=t0j s hi
  obtain⟨p',b1,b2,b3,b4⟩:=t0j s hj
  rw[ei]at a4
  rw[ej]at b4
  have:p=p':=r.nd p p' a a2 b2 (p0w a4.symm) (p0w b4.symm)
  subst this
  exact f1p hd a1 b1
 ·rw[v0w r s,s0f]
  cases e:rs[k]? with
  | none=>trivial
  | some x =>
   obtain⟨ov,e1,e2⟩:=s.get e
   cases x with
   | n d=>trivial
   | t d=>trivial
   | x d=>obtain⟨v,e3,_,e4⟩:=e2;rw[e1,e3];exact e4
   | d d=>obtain⟨v,e3,e4⟩:=e2;rw[e1,e3];exact⟨v,rfl,e4⟩
   | o j =>
    rw[e1]
    have q:=r.sl j
    show SvOk K _ H (some ov) (gt ρ j)
    rw[<- show(σ[j]?).getD none=ov from e2]
    cases e5:σ[j]? with
    | none =>
     rw[e5]at q
     cases hg:gt ρ j with
     | un=>trivial
     | vl d=>rw[hg]at q;obtain⟨x,z,_⟩:=q;cases z
     | ow d=>rw[hg]at q;obtain⟨x,_,z,_⟩:=q;cases z
     | tp d=>rw[hg]at q;obtain⟨x,_,_,_,_,z,_⟩:=q;cases z
     | dk d=>rw[hg]at q;obtain⟨x,_,z,_⟩:=q;cases z
     | dt d=>rw[hg]at q;obtain⟨x,_,z,_⟩:=q;cases z
     | ex d m=>rw[hg]at q;obtain⟨x,_,z,_⟩:=q;cases z
     | sc d=>rw[hg]at q;obtain⟨x,z,_⟩:=q;cases z
     | px d m k=>rw[hg]at q;obtain⟨x,_,_,_,z,_⟩:=q;cases z
     | xl es=>rw[hg]at q;obtain⟨x,_,z,_⟩:=q;cases z
    | some y=>rw[e5]at q;exact q
theorem Rel.back (r:Rel K F σ ρ H)(s:Srcs K F σ ρ H ovs rs)(hd:dis rs=true){ss':En}(r':Rel K (g0c F σ ρ H ovs (rs.map (e0x ρ))) ovs ss' H')(sb:∀i,(gt ss' i).own=true->(gt (rs.map (e0x ρ)) i).own=true) :
  Rel K F σ (L2.back ρ rs ss') H'/\Kp σ ρ (L2.back ρ rs ss') H H'/\Same (hid H' (hs (g0c F σ ρ H ovs (rs.map (e0x ρ))) ovs ss')) (hid H' (hs F σ (L2.back ρ rs ss'))):=by
 have ln:ss'.length=rs.length:=by rw[<- r'.len,s.length]
 have cs:∀i:Nat,(∃k:Nat,rs[k]? = some (R.o i)/\i<ρ.length/\gt (L2.back ρ rs ss') i=gt ss' k)∨((∀k:Nat,i<ρ.length->rs[k]? ≠ some (R.o i))/\gt (L2.back ρ rs ss') i=gt ρ i):=fun i=>by
  by_cases hi:i<ρ.length
  ·by_cases q:∃k:Nat,rs[k]? = some (R.o i)
   ·obtain⟨k,e⟩:=q
    exact .inl ⟨k,e,hi,k0s rs ρ ss' i k hd e ln hi⟩
   ·exact .inr ⟨fun k _ z=>q ⟨k,z⟩,j0e rs ρ ss' i fun k z=>q ⟨k,z⟩⟩
  ·refine .inr ⟨fun k z=>absurd z hi,?_⟩
   rw[o0o _ i (by rw[h0i];omega),o0o _ i (by omega)]
 have own':∀i,(gt (L2.back ρ rs ss') i).own=true->(gt ρ i).own=true:=fun i h=>by
  rcases cs i with⟨k,e,hi,g⟩ | ⟨_,g⟩
  ·rw[g]at h
   have:=sb k h
   rw[s0f,e]at this
   exact this
  ·rw[g]at h;exact h
 have subo:∀ {a},c0c σ (L2.back ρ rs ss') a->c0c σ ρ a:=fun⟨i,hi,e⟩=>⟨i,own' i hi,e⟩
 have no:∀a,¬c0c σ ρ a->¬c0c ovs (rs.map (e0x ρ)) a:=fun a h z=>by
  obtain⟨k,j,e1,e2,e3,_⟩:=e0s s z
  exact h ⟨j,e2,e3⟩
 have st:∀a o,H a=some o->¬c0c ovs (rs.map (e0x ρ)) a->H' a=some o:=fun a o e n=>r'.fr a o e n
 have hsub:∀a,hs F σ (L2.back ρ rs ss') a->hs (g0c F σ ρ H ovs (rs.map (e0x ρ))) ovs ss' a:=fun a h=>by
  rcases h with h | ⟨i,hi,e⟩
  ·exact .inl (.inl h)
  ·rcases cs i with⟨k,e1,hl,g⟩ | ⟨n,g⟩
   ·right
    rw[g]at hi
    obtain⟨ov,q1,q2⟩:=s.get e1
    refine⟨k,hi,?_⟩
    rw[q1,<- show(σ[i]?).getD none=ov from q2,e]
    rfl
   ·left;right
    rw[g]at hi
    refine⟨⟨i,hi,e⟩,fun z=>?_⟩
    obtain⟨k,j,e1,e2,e3,_⟩:=e0s s z
    have:i=j:=r.nd i j a hi e2 e e3
    subst this
    exact n k (o0j hi) e1
 have v1:Same (hid H' (hs (g0c F σ ρ H ovs (rs.map (e0x ρ))) ovs ss')) (hid H' (hs F σ (L2.back ρ rs ss'))):=b0o fun a o e n=>⟨e,fun z=>n (hsub a z)⟩
 have v2:Same (hid H (hs F σ ρ)) (hid H' (hs F σ (L2.back ρ rs ss'))):=b0o fun a o e n=>⟨st a o e (no a fun z=>n (.inr z)),fun z=>n (z.imp id subo)⟩
 refine⟨⟨by rw[h0i,r.len],fun a o e n=>?_,fun a z=>r'.zl a (.inl z),fun a h=>r.zo a (subo h),fun i a hi e=>r.ow i a (own' i hi) e,r.mi,r.ml,fun a z=>?_,fun i j a hi hj ei ej=>r.nd i j a (own' i hi) (own' j hj) ei ej,fun i=>?_⟩,⟨fun a o e n=>st a o e (no a n),own'⟩,v1⟩
 ·have e1:=r.fr a o e n
  refine st a o e1 fun z=>?_
  obtain⟨k,j,h1,h2,h3,_⟩:=e0s s z
  rcases r.ow j a h2 h3 with q | q
  ·exact n q.2
  ·rw[e]at q;cases q
 ·by_cases q:c0c ovs (rs.map (e0x ρ)) a
  ·exact r'.ma a q
  ·cases h:H a with
   | none=>exact absurd h (r.ma a z)
   | some o=>rw[st a o h q];exact fun z=>nomatch z
 ·rcases cs i with⟨k,e1,hl,g⟩ | ⟨n,g⟩
  ·rw[g]
   have q:=(r'.sl k).keep v1 fun _ _ _ _ e=>e
   obtain⟨ov,q1,q2⟩:=s.get e1
   rw[q1,<- show(σ[i]?).getD none=ov from q2]at q
   cases e5:σ[i]? with
   | none =>
    rw[e5]at q
    cases hg:gt ss' k with
    | un=>trivial
    | vl d=>rw[hg]at q;obtain⟨x,z,_⟩:=q;cases z
    | ow d=>rw[hg]at q;obtain⟨x,_,z,_⟩:=q;cases z
    | tp d=>rw[hg]at q;obtain⟨x,_,_,_,_,z,_⟩:=q;cases z
    | dk d=>rw[hg]at q;obtain⟨x,_,z,_⟩:=q;cases z
    | dt d=>rw[hg]at q;obtain⟨x,_,z,_⟩:=q;cases z
    | ex d m=>rw[hg]at q;obtain⟨x,_,z,_⟩:=q;cases z
    | sc d=>rw[hg]at q;obtain⟨x,z,_⟩:=q;cases z
    | px d m k=>rw[hg]at q;obtain⟨x,_,_,_,z,_⟩:=q;cases z
    | xl es=>rw[hg]at q;obtain⟨x,_,z,_⟩:=q;cases z
   | some y=>rw[e5]at q;exact q
  ·rw[g]
   refine(r.sl i).keep v2 fun l o ho e h=>st l o h fun z=>?_
   obtain⟨k,j,e1,e2,e3,_⟩:=e0s s z
   have:i=j:=r.nd i j l ho e2 e e3
   subst this
   exact n k (o0j ho) e1
end
abbrev ASp:=En->Ko->Prop
def F0 (vs:List V)(ss:En)(H:Hp)(Z:Addr->Prop):Fr:=⟨H,Z,fun a=>c0c (vs.map some) ss a,fun i a=>(gt ss i).own=true/\(vs.map some)[i]? = some (some (.ref a)),fun _ _=>False⟩
def spA (K:PySem.W.Frag)(S:ASp):Sp:=fun vs H Q _=>∃ss Z q,Rel K (F0 vs ss H Z) (vs.map some) ss H/\S ss q /\
 ∀r ss' v H',q r ss'->(∀i,(gt ss' i).own=true->(gt ss i).own=true)->(∀i,r ≠ .o i)->RelR K (F0 vs ss H Z) (vs.map some) ss' v H' r->Q v H'
def o1v (S:ASp)(as:AA):AE:=fun ρ q=>as ρ fun rs ρ1=>dis rs=true/\S (rs.map (e0x ρ1)) fun r ss'=>q r (back ρ1 rs ss')
section
variable {K:PySem.W.Frag}{F:Fr}{σ:St}{ρ ρ':En}{H H':Hp}{ovs:St}{rs:List R}
theorem InFs.srcs {vs:List V}(h:InFs K F σ ρ H vs rs):Srcs K F σ ρ H (vs.map some) rs:=by
 induction h with
 | nil=>exact .nil
 | cons a t ih =>
  rename_i v r vs rs
  refine .cons ?_ ih
  cases r with
  | d d=>exact⟨v,rfl,a⟩
  | o j=>show(σ[j]?).getD none=some v;rw[show σ[j]? = _ from a];rfl
  | n s=>trivial
  | t n=>trivial
  | x n=>exact⟨v,rfl,a⟩
theorem a0o {S:ASp}{E:XK}{ts:TA}{as:AA}(hs':TAok K ts as):TEok K (h1z (spA K S) [] E ts) (o1v S as):=by
 intro F σ ρ H q Q r h k
 refine hs' F σ ρ H _ _ r h fun rs ρ1 vs H1 h1 r1 i1 k1=>?_
 obtain⟨hd,hS⟩:=h1
 have s:=i1.srcs
 rw[List.append_nil]
 refine⟨rs.map (e0x ρ1),(g0c F σ ρ1 H1 (vs.map some) (rs.map (e0x ρ1))).Z,_,r1.sub s hd,hS,fun rr ss' v H' hq sb no out=>?_⟩
 refine(k.after k1) rr (back ρ1 rs ss') v H' hq ?_
 cases rr with
 | o i=>exact absurd rfl (no i)
 | d d =>
  obtain⟨a,b⟩:=out
  obtain⟨x,y,z⟩:=r1.back s hd a sb
  exact⟨x,y,RepD.same b z⟩
 | x sv =>
  obtain⟨a,b,c⟩:=out
  obtain⟨x,y,z⟩:=r1.back s hd a sb
  exact⟨x,y,b,c.keep z fun l o ho=>by rw[b]at ho;cases ho⟩
 | t n =>
  obtain⟨a,b⟩:=out
  obtain⟨x,y,z⟩:=r1.back s hd a sb
  exact⟨x,y,b⟩
 | n sv =>
  obtain⟨Hb,l,o,a,b,c,e1,e2,e3⟩:=out
  obtain⟨x,y,z⟩:=r1.back s hd a sb
  exact⟨Hb,l,o,x,y,b,c.keep z fun _ _ _ _ e=>e,e1,e2,e3⟩
end
section
variable {K:PySem.W.Frag}{F:Fr}{σ σ':St}{ρ ρ':En}{H H':Hp}
open Classical in
noncomputable def rebase (F:Fr)(σ:St)(ρ:En)(H:Hp)(pin:Nat->Bool):Fr :=
 ⟨fun a=>if c0c σ ρ a/\F.H0 a=none then none else H a,F.Z,fun a=>F.M a/\c0c σ ρ a,F.I,fun i a=>F.P i a∨(pin i=true/\σ[i]? = some (some (.ref a)))⟩
open Classical in
theorem m0e {pin:Nat->Bool}{a:Addr}{o:HO}(h:¬(c0c σ ρ a/\F.H0 a=none))(e:H a=some o):(rebase F σ ρ H pin).H0 a=some o:=by
 show(if c0c σ ρ a/\F.H0 a=none then none else H a)=some o
 rw[if_neg h];exact e
open Classical in
theorem l1k {pin:Nat->Bool}{a:Addr}{o:HO}(e:(rebase F σ ρ H pin).H0 a=some o):H a=some o:=by
 have e':(if c0c σ ρ a/\F.H0 a=none then none else H a)=some o:=e
 split at e'
 ·cases e'
 ·exact e'
open Classical in
theorem Rel.rebase (r:Rel K F σ ρ H)(pin:Nat->Bool):Rel K (L2.rebase F σ ρ H pin) σ ρ H where
 len:=r.len
 fr:=fun a o e _=>l1k e
 zl:=r.zl
 zo:=r.zo
 ow:=fun i a hi e=>by
  rcases r.ow i a hi e with⟨h1,h2⟩ | h
  ·exact .inl ⟨h1,h2,i,hi,e⟩
  ·refine .inr ?_
   show(if c0c σ ρ a/\F.H0 a=none then none else H a)=none
   rw[if_pos ⟨⟨i,hi,e⟩,h⟩]
 mi:=fun i a h=>by
  rcases h with h | h | h
  ·exact r.mi i a (.inl h)
  ·exact r.mi i a (.inr h)
  ·exact h.2
 ml:=fun a h=>by
  cases e:H a with
  | none=>exact absurd e (r.ma a h.1)
  | some o=>rw[m0e (fun z=>r.ml a h.1 z.2) e];exact fun z=>nomatch z
 ma:=fun a h=>r.ma a h.1
 nd:=r.nd
 sl:=r.sl
theorem Rel.unbase {pin:Nat->Bool}(r:Rel K F σ ρ H)(r':Rel K (L2.rebase F σ ρ H pin) σ' ρ' H'):Rel K F σ' ρ' H'/\Same (hid H (hs F σ ρ)) (hid H' (hs F σ' ρ')):=by
 refine⟨⟨r'.len,fun a o e n=>?_,r'.zl,r'.zo,fun i a hi e=>?_,fun i a h=>r'.mi i a (h.imp id .inl),r.ml,fun a h=>?_,r'.nd,r'.sl⟩,b0o fun a o e n=>?_⟩
 ·exact r'.fr a o (m0e (fun z=>by rw[e]at z;cases z.2) (r.fr a o e n)) fun z=>n z.1
 ·rcases r'.ow i a hi e with⟨h1,h2⟩ | h
  ·exact .inl ⟨h1,h2.1⟩
  ·right
   cases h0:F.H0 a with
   | none=>rfl
   | some o =>
    exfalso
    have nn:H a≠none:=by
     by_cases q:F.M a
     ·exact r.ma a q
     ·rw[r.fr a o h0 q];exact fun z=>nomatch z
    cases e2:H a with
    | none=>exact nn e2
    | some u =>
     rw[m0e (fun z=>by rw[h0]at z;cases z.2) e2]at h
     cases h
 ·by_cases q:c0c σ ρ a
  ·exact r'.ma a ⟨h,q⟩
  ·cases e:H a with
   | none=>exact absurd e (r.ma a h)
   | some o=>rw[r'.fr a o (m0e (fun z=>q z.1) e) fun z=>q z.2];exact fun z=>nomatch z
 ·have n':¬c0c σ ρ a:=fun z=>n (.inr z)
  have e0:=m0e (F:=F) (pin:=pin) (fun z=>n' z.1) e
  refine⟨r'.fr a o e0 fun z=>n' z.2,fun z=>?_⟩
  rcases z with z | ⟨i,hi,ei⟩
  ·exact n (.inl z)
  ·rcases r'.ow i a hi ei with⟨_,h2⟩ | h
   ·exact n' h2.2
   ·rw[e0]at h;cases h
theorem RelR.unbase {pin:Nat->Bool}{v:V}{rr:R}(r:Rel K F σ ρ H)(r':RelR K (L2.rebase F σ ρ H pin) σ' ρ' v H' rr):RelR K F σ' ρ' v H' rr:=by
 cases rr with
 | d d=>exact⟨(r.unbase r'.1).1,r'.2⟩
 | o d=>exact⟨(r.unbase r'.1).1,r'.2⟩
 | t d=>exact⟨(r.unbase r'.1).1,r'.2⟩
 | x d=>exact⟨(r.unbase r'.1).1,r'.2⟩
 | n s =>
  obtain⟨Hb,l,o,a,b,c,e⟩:=r'
  exact⟨Hb,l,o,(r.unbase a).1,b,c,e⟩
end
structure n1o (K:PySem.W.Frag)(F:Fr)(D:Ends)(e:t0e):Prop where
 nx:∀ σ' ρ' H',e.nx ρ'->Rel K F σ' ρ' H'->D.nx σ' H'
 bk:∀ σ' ρ' H',e.bk ρ'->Rel K F σ' ρ' H'->D.bk σ' H'
 ct:∀ σ' ρ' H',e.ct ρ'->Rel K F σ' ρ' H'->D.ct σ' H'
 rt:∀ σ' ρ' r v H',e.rt r ρ'->RelR K F σ' ρ' v H' r->D.rt v H'
def TSok (K:PySem.W.Frag)(pr:Nat->Bool)(t:TS)(a:AS):Prop:=∀F σ ρ H D e,(∀i a,F.pin i a->pr i=true)->Rel K F σ ρ H->a e ρ->n1o K F D e->t D σ H
abbrev AG:=D->En->(En->Prop)->Prop
abbrev AGs:=List D->En->(En->Prop)->Prop
def TGok (K:PySem.W.Frag)(pr:Nat->Bool)(g:TG)(ag:AG):Prop:=∀F σ ρ H v d k Q,(∀i a,F.pin i a->pr i=true)->Rel K F σ ρ H->RepD K (hid H (hs F σ ρ)) v d->ag d ρ k ->
 (∀ σ' ρ',k ρ'->Rel K F σ' ρ' H->σ'.length=σ.length->(∀i,pr i=true->σ'[i]? = σ[i]?)->(∀i,(gt ρ' i).own=true->(gt ρ i).own=true/\σ'[i]? = σ[i]?)->Q σ' H)->g v σ H Q
def g1b (K:PySem.W.Frag)(pr:Nat->Bool)(n:Nat)(g:TGs)(ag:AGs):Prop:=(∀ds ρ k,ag ds ρ k->ds.length=n)/\∀F σ ρ H vs ds k Q,(∀i a,F.pin i a->pr i=true)->Rel K F σ ρ H->RepDs K (hid H (hs F σ ρ)) vs ds->ag ds ρ k ->
 (∀ σ' ρ',k ρ'->Rel K F σ' ρ' H->σ'.length=σ.length->(∀i,pr i=true->σ'[i]? = σ[i]?)->(∀i,(gt ρ' i).own=true->(gt ρ i).own=true/\σ'[i]? = σ[i]?)->Q σ' H)->g vs σ H Q
section
variable {K:PySem.W.Frag}{pr:Nat->Bool}{t u:TS}{a b:AS}{te:TE}{ae:AE}{tt:TT}{at':AT}
theorem i1v {F:Fr}{i:Nat}(hp:∀i a,F.pin i a->pr i=true)(h:pr i=false):∀a,¬F.pin i a:=fun a z=>by rw[hp i a z]at h;cases h
def j0z (i:Nat):AG:=fun d ρ k=>k (pt ρ i (.vl d))
theorem a0h {i:Nat}(h:pr i=false):TGok K pr (f1i i) (j0z i):=by
 intro F σ ρ H v d k Q hp r hd ha kk
 refine kk _ _ ha (r.set hd (i1v hp h)) (by rw[List.length_set]) (fun j hj=>?_) fun j hj=>?_
 ·rw[List.getElem?_set_ne];rintro rfl;rw[h]at hj;cases hj
 ·obtain⟨ne,q⟩:=j0a rfl hj
  exact⟨q,by rw[List.getElem?_set_ne ne]⟩
def gaNil:AGs:=fun ds ρ k=>match ds with
 | []=>k ρ
 | _=>False
def k0a (g:AG)(gs:AGs):AGs:=fun ds ρ k=>match ds with
 | d::r=>g d ρ fun ρ1=>gs r ρ1 k
 | []=>False
theorem b0y:g1b K pr 0 gNil gaNil:=by
 refine⟨fun ds ρ k h=>?_,?_⟩
 ·cases ds with
  | nil=>rfl
  | cons _ _=>exact h.elim
 intro F σ ρ H vs ds k Q hp r hd ha kk
 cases ds with
 | cons _ _=>exact ha.elim
 | nil =>
  cases vs with
  | nil=>exact⟨rfl,kk _ _ ha r rfl (fun _ _=>rfl) fun _ h=>⟨h,rfl⟩⟩
  | cons v vs=>unfold RepDs at hd;exact hd.elim
theorem i1r {F:Fr}{σ σ':St}{ρ ρ':En}{H:Hp}(h:∀i,(gt ρ' i).own=true->(gt ρ i).own=true/\σ'[i]? = σ[i]?):Same (hid H (hs F σ ρ)) (hid H (hs F σ' ρ')):=b0o fun a o e n=>⟨e,fun z=>by
 rcases z with z | ⟨i,hi,ei⟩
 ·exact n (.inl z)
 ·obtain⟨q1,q2⟩:=h i hi
  exact n (.inr ⟨i,q1,q2▸ei⟩)⟩
theorem a0p {g:TG}{gs:TGs}{ag:AG}{ags:AGs}{n:Nat}(h:TGok K pr g ag)(hs':g1b K pr n gs ags)(gl:∀d ρ k,ag d ρ k->∃ ρ',k ρ'):g1b K pr (n+1) (m1w g gs) (k0a ag ags):=by
 refine⟨fun ds ρ k ha=>?_,?_⟩
 ·cases ds with
  | nil=>exact ha.elim
  | cons d ds=>obtain⟨ρ',q⟩:=gl _ _ _ ha;rw[List.length_cons,hs'.1 _ _ _ q]
 intro F σ ρ H vs ds k Q hp r hd ha kk
 cases ds with
 | nil=>exact ha.elim
 | cons d ds =>
  cases vs with
  | nil=>unfold RepDs at hd;exact hd.elim
  | cons v vs =>
   unfold RepDs at hd
   refine⟨v,vs,rfl,h F σ ρ H v d _ _ hp r hd.1 ha fun σ1 ρ1 h1 r1 l1 p1 o1=>?_⟩
   refine hs'.2 F σ1 ρ1 H vs ds _ _ hp r1 (hd.2.same (i1r o1)) h1 fun σ2 ρ2 h2 r2 l2 p2 o2=>?_
   refine kk _ _ h2 r2 (l2.trans l1) (fun i hi=>(p2 i hi).trans (p1 i hi)) fun i hi=>?_
   obtain⟨a1,a2⟩:=o2 i hi
   obtain⟨b1,b2⟩:=o1 i a1
   exact⟨b1,a2.trans b2⟩
def y0m (n:Nat)(gs:AGs):AG:=fun d ρ k=>match d with
 | .tup ds=>gs ds ρ k
 | _=>False
theorem b0i {i:Nat}{d:D}{ρ:En}{k:En->Prop}(h:j0z i d ρ k):∃ ρ',k ρ':=⟨_,h⟩
theorem c0l {gs:TGs}{ags:AGs}{n:Nat}(hs':g1b K pr n gs ags):TGok K pr (gTup K n gs) (y0m n ags):=by
 intro F σ ρ H v d k Q hp r hd ha kk
 unfold y0m at ha
 split at ha
 ·rename_i ds
  unfold RepD at hd
  obtain⟨p,vs,rfl,sq,rd⟩:=hd
  exact⟨p,vs,rfl,c0e.seqT sq.sq,by rw[rd.length];exact hs'.1 _ _ _ ha,hs'.2 F σ ρ H vs ds k Q hp r rd ha kk⟩
 ·exact ha.elim
def aNext:AS:=fun e ρ=>e.nx ρ
def aSeq (a b:AS):AS:=fun e ρ=>a {e with nx:=b e} ρ
theorem b0q:TSok K pr tNext aNext:=fun F σ ρ H D e hp r h k=>k.nx _ _ _ h r
theorem a0j (ha:TSok K pr t a)(hb:TSok K pr u b):TSok K pr (tSeq t u) (aSeq a b):=fun F σ ρ H D e hp r h k =>
 ha F σ ρ H _ _ hp r h ⟨fun σ' ρ' H' h' r'=>hb F σ' ρ' H' D e hp r' h' k,k.bk,k.ct,k.rt⟩
def o1r (x:AE):AS:=fun e ρ=>x ρ fun _ ρ1=>e.nx ρ1
theorem e0a (h:TEok K te ae):TSok K pr (k1z te) (o1r ae):=fun F σ ρ H D e hp r ha k =>
 h F σ ρ H _ _ r ha fun r1 ρ1 v H1 h1 o=>k.nx _ _ _ h1 o.inF.1
def aRet (x:AE):AS:=fun e ρ=>x ρ e.rt
theorem a0w (h:TEok K te ae):TSok K pr (tRet te) (aRet ae):=fun F σ ρ H D e hp r ha k =>
 h F σ ρ H _ _ r ha fun r1 ρ1 v H1 h1 o=>k.rt _ _ _ _ _ h1 o.rel
def aIfS (c:AT)(a b:AS):AS:=fun e ρ=>c ρ fun k ρ1=>if k=true then a e ρ1 else b e ρ1
theorem d0m (hc:TTok K tt at')(ha:TSok K pr t a)(hb:TSok K pr u b):TSok K pr (tIfS tt t u) (aIfS at' a b):=by
 intro F σ ρ H D e hp r h k
 refine hc F σ ρ H _ _ r h fun c ρ1 H1 h1 r1 k1=>?_
 cases c with
 | true=>exact ha F σ ρ1 H1 D e hp r1 h1 k
 | false=>exact hb F σ ρ1 H1 D e hp r1 h1 k
def stS (i:Nat):R->En->(En->Prop)->Prop
 | .d d,ρ,k=>k (pt ρ i (.vl d))
 | .n s,ρ,k=>k (pt ρ i s)
 | .o j,ρ,k=>(match gt ρ j with
  | .ow ds=>k (pt (pt ρ j (.vl (.lst ds))) i (.vl (.lst ds)))
  | .vl d=>k (pt ρ i (.vl d))
  | .ex C fs=>k (pt ρ i (.ex C fs))
  | _=>False)
 | .t _,_,_=>False
 | .x s,ρ,k=>k (pt ρ i s)
def aSet (i:Nat)(x:AE):AS:=fun e ρ=>x ρ fun r ρ1=>stS i r ρ1 e.nx
theorem a1a {i:Nat}(hi:pr i=false)(h:TEok K te ae):TSok K pr (fun D σ H=>te σ H fun v H'=>D.nx (σ.set i (some v)) H') (aSet i ae):=by
 intro F σ ρ H D e hp r ha k
 refine h F σ ρ H _ _ r ha fun r1 ρ1 v H1 h1 o=>?_
 have np:=i1v hp hi
 cases r1 with
 | d d=>exact k.nx _ _ _ h1 (o.1.set o.2.2 np)
 | t n=>exact h1.elim
 | x s=>exact k.nx _ _ _ h1 (o.1.setS o.2.2.1 o.2.2.2 np)
 | n s =>
  obtain⟨Hb,l,u,a1,a2,a3,a4,a5,rfl,rfl⟩:=o
  exact k.nx _ _ _ h1 (a1.setF a3 a4 a5 np)
 | o j =>
  obtain⟨r1,k1,ej⟩:=o
  have h2:(match gt ρ1 j with
   | .ow ds=>e.nx (pt (pt ρ1 j (.vl (.lst ds))) i (.vl (.lst ds)))
   | .vl d=>e.nx (pt ρ1 i (.vl d))
   | .ex C fs=>e.nx (pt ρ1 i (.ex C fs))
   | _=>False):=h1
  clear h1
  split at h2
  ·rename_i ds hg
   obtain⟨l,el,r2,k2,rd⟩:=r1.frz hg
   rw[ej]at el
   injection el with el;injection el with el;subst el
   exact k.nx _ _ _ h2 (r2.set rd np)
  ·rename_i d hg
   have q:=r1.sl j
   rw[hg]at q
   obtain⟨x,e1,e2⟩:=q
   rw[ej]at e1
   injection e1 with e1;injection e1 with e1;subst e1
   exact k.nx _ _ _ h2 (r1.set e2 np)
  ·rename_i C fs hg
   have q:=r1.sl j
   rw[hg,ej]at q
   exact k.nx _ _ _ h2 (r1.setS rfl q np)
  ·exact h2.elim
theorem a0y {i:Nat}(h:TEok K te ae)(hi:pr i=false):TSok K pr (tAsg te (f1i i)) (aSet i ae):=a1a hi h
theorem g0w {i n:Nat}{js:List Nat}{wi:TI}{g:TG}{tc:TT}(h:TEok K (z0t n js wi g tc te) ae)(hi:pr i=false):TSok K pr (fun D σ H=>z0t n js wi g tc te σ H fun v H'=>D.nx (σ.set i (some v)) H') (aSet i ae):=a1a hi h
def aAsg (x:AE)(g:AG):AS:=fun e ρ=>x ρ fun r ρ1=>sto [r.frz] ρ1 fun ds ρ2=>match ds with
 | [d]=>g d ρ2 e.nx
 | _=>False
theorem i0x {g:TG}{ag:AG}(h:TEok K te ae)(hg:TGok K pr g ag):TSok K pr (tAsg te g) (aAsg ae ag):=by
 intro F σ ρ H D e hp r ha k
 refine h F σ ρ H _ _ r ha fun r1 ρ1 v H1 h1 o=>?_
 obtain⟨r',k1,i1⟩:=o.inF
 obtain⟨ds,ρ2,h2,r2,k2,rd⟩:=j0h r' (.cons i1 .nil) h1
 split at h2
 ·rename_i d
  unfold RepDs at rd
  exact hg F σ ρ2 H1 v d _ _ hp r2 rd.1 h2 fun σ3 ρ3 h3 r3 _ _ _=>k.nx _ _ _ h3 r3
 ·exact h2.elim
def aAug (i:Nat)(x:AE)(f:Int->Int->Int):AS:=fun e ρ=>match gt ρ i with
 | .vl (.int p)=>x ρ fun r ρ1=>(match r with
  | .d (.int y)=>e.nx (pt ρ1 i (.vl (.int (f p y))))
  | _=>False)
 | _=>False
theorem z0y {i:Nat}{f:Int->Int->Int}(h:TEok K te ae)(hi:pr i=false):TSok K pr (tAug i te (ipI f)) (aAug i ae f):=by
 intro F σ ρ H D e hp r ha k
 unfold aAug at ha
 split at ha
 ·rename_i p hg
  have q:=r.sl i
  rw[hg]at q
  obtain⟨x,e1,e2⟩:=q
  unfold RepD at e2;subst e2
  refine⟨_,e1,h F σ ρ H _ _ r ha fun r1 ρ1 v H1 h1 o=>?_⟩
  obtain⟨r',k1,i1⟩:=o.inF
  split at h1
  ·exact⟨_,_,rfl,i1.int,k.nx _ _ _ h1 (r'.set (by unfold RepD;rfl) (i1v hp hi))⟩
  ·exact h1.elim
 ·exact ha.elim
def whA (c:AT)(b:AS)(e:t0e):Nat->En->Prop
 | 0,_=>False
 | n+1,ρ=>c ρ fun k ρ1=>if k=true then b {nx:=whA c b e n,ct:=whA c b e n,bk:=e.nx,rt:=e.rt} ρ1 else e.nx ρ1
def h1i (c:AT)(b:AS):AS:=fun e ρ=>∃n,whA c b e n ρ
theorem z0w (hc:TTok K tt at')(hb:TSok K pr t a):TSok K pr (g1i tt t) (h1i at' a):=by
 intro F σ ρ H D e hp r ha k
 obtain⟨n,ha⟩:=ha
 refine⟨fun m σ H=>∃ ρ,Rel K F σ ρ H/\whA at' a e m ρ,⟨n,ρ,r,ha⟩,fun m σ H ⟨ρ,r,h⟩=>?_⟩
 cases m with
 | zero=>exact h.elim
 | succ m =>
  refine hc F σ ρ H _ _ r h fun c ρ1 H1 h1 r1 k1=>?_
  cases c with
  | false=>exact k.nx _ _ _ h1 r1
  | true =>
   refine⟨fun σ' H'=>∃ ρ',Rel K F σ' ρ' H'/\whA at' a e m ρ',fun σ' H' h'=>⟨m,Nat.lt_succ_self m,h'⟩,?_⟩
   exact hb F σ ρ1 H1 _ _ hp r1 h1 ⟨fun σ' ρ' H' h' r'=>⟨ρ',r',h'⟩,k.nx,fun σ' ρ' H' h' r'=>⟨ρ',r',h'⟩,k.rt⟩
abbrev AI:=En->(List D->(En->Prop)->En->Prop)->Prop
def WkAt (K:PySem.W.Frag)(S:Addr->Prop)(H:Hp)(J:It)(ds:List D):Prop:=∀k:Nat,(∀d,ds[k]? = some d->J.go k H/\∀x H',J.yld k H x H'->Same H H'/\RepD K (hid H' S) x d)/\(ds.length<=k->J.stop k H)
def TIok (K:PySem.W.Frag)(pin:Nat->Bool)(wi:TI)(ai:AI):Prop:=∀F σ ρ H q Rk,Rel K F σ ρ H->ai ρ q->(∀ds c ρ' J H',q ds c ρ'->Rel K F σ ρ' H'->Kp σ ρ ρ' H H' ->
 (∀ σ2 ρ2 H2,Same (hid H' (hs F σ ρ')) (hid H2 (hs F σ2 ρ2))->(∀i,SvOk K (hid H2 (hs F σ2 ρ2)) H2 σ2[i]? (gt ρ2 i))->(∀j a,pin j=true->σ[j]? = some (some (.ref a))->σ2[j]? = some (some (.ref a)))->(∀a,hs F σ2 ρ2 a->Nt H2 a)->c ρ2->WkAt K (hs F σ2 ρ2) H2 J ds)->Rk J H')->wi σ H Rk
def rngD (lo:Int)(n:Nat):List D:=(List.range n).map fun(i:Nat)=>D.int (lo+(i:Nat))
theorem e0c (lo:Int)(n:Nat):(rngD lo n).length=n:=by simp[rngD]
theorem k1m {S:Addr->Prop}{H:Hp}{lo:Int}{n:Nat}:WkAt K S H (Itr lo n) (rngD lo n):=by
 intro k
 constructor
 ·intro d h
  unfold rngD at h
  rw[List.getElem?_map]at h
  obtain⟨j,e1,e2⟩:=Option.map_eq_some_iff.mp h
  have lt:k<n:=by
   rcases Nat.lt_or_ge k n with q | q
   ·exact q
   ·rw[List.getElem?_eq_none (by simpa using q)]at e1;cases e1
  rw[List.getElem?_range lt]at e1
  cases e1
  refine⟨lt,fun x H' z=>⟨z.1▸Same.refl H,?_⟩⟩
  rw[z.2,<- e2]
  unfold RepD;rfl
 ·intro h;rw[e0c]at h;exact h
def o1n (as:AA):AI:=fun ρ q=>as ρ fun rs ρ1=>match rs with
 | [.d (.int j)]=>(-(2^62)<=j/\j<2^62)/\q (rngD 0 j.toNat) (fun _=>True) ρ1
 | _=>False
theorem d0z {pin:Nat->Bool}{ta:TA}{as:AA}(h:TAok K ta as):TIok K pin (m1q ta) (o1n as):=by
 intro F σ ρ H q Rk r ha k
 refine h F σ ρ H _ _ r ha fun rs ρ1 vs H1 h1 r1 i1 k1=>?_
 split at h1
 ·obtain⟨x,rfl,i⟩:=i1.one
  exact⟨_,by rw[i.int],h1.1.1,h1.1.2,k _ _ _ _ _ h1.2 r1 k1 fun _ _ _ _ _ _ _ _=>k1m⟩
 ·exact h1.elim
def iSeq (K:PySem.W.Frag)(tl:TE):TI:=fun σ H R=>tl σ H fun x H1=>∃a,x = .ref a/\(((∃xs,SqL K H1 a xs)/\R (Itl K a) H1)∨((∃xs,SqT K H1 a xs)/\R (Itt K a) H1))
theorem l1p {X:Cx}{tg l:Expr}{tl:TE}(hl:PE X l tl):PI X tg l (iSeq X.K tl):=by
 intro pins s σ H R I h
 refine thn (hl pins s σ H _ I h) fun v s1 ⟨x,H1,I1,r1,q1⟩=>?_
 obtain⟨a,e,⟨⟨xs,hq⟩,q⟩ | ⟨⟨xs,hq⟩,q⟩⟩:=q1
 ·subst e
  cases r1
  obtain⟨its,rv,p,hz⟩:=I1.list hq
  refine wpAny_pyIter_list p.isList ?_
  refine⟨s1.heap.objs.size,[s1.heap.objs.size],_,_,H1,rfl,I1.kept (t':=s1.toks) fun b o e=>Heap.get?_push_of_some _ e,z0b a _,⟨_,Heap.get?_push_size _ rfl,rfl,rfl⟩,fun b hb=>?_,q⟩
  have e:b=s1.heap.objs.size:=by simpa using hb
  subst e
  exact I1.fpOk (Nat.le_refl _) (I1.hok.fresh (Nat.le_refl _))
 ·subst e
  cases r1
  obtain⟨its,rv,p,hz⟩:=I1.tuple hq
  refine wpAny_pyIter_tuple (show s1.heap.IsTuple a its.toArray from p) ?_
  refine⟨s1.heap.objs.size,[s1.heap.objs.size],_,_,H1,rfl,I1.kept (t':=s1.toks) fun b o e=>Heap.get?_push_of_some _ e,x0l a _,⟨_,Heap.get?_push_size _ rfl,rfl,rfl⟩,fun b hb=>?_,q⟩
  have e:b=s1.heap.objs.size:=by simpa using hb
  subst e
  exact I1.fpOk (Nat.le_refl _) (I1.hok.fresh (Nat.le_refl _))
theorem c0d (K:PySem.W.Frag){X:Cx}{tg l:Expr}{tl:TE}(hl:PE X l tl)(hK:X.K=K:=by rfl):PI X tg l (iSeq K tl):=by subst hK;exact l1p hl
theorem g1g {S:Addr->Prop}{H:Hp}{a:Addr}{vs:List V}{ds:List D}(h:SqL K H a vs)(rd:RepDs K (hid H S) vs ds):WkAt K S H (Itl K a) ds:=by
 intro k
 constructor
 ·intro d e
  obtain⟨v,e1,rv⟩:=rd.get e
  refine⟨⟨vs,v,h,e1⟩,fun x H' z=>⟨z.1▸Same.refl H,?_⟩⟩
  have:=z.2 vs h
  rw[e1]at this;cases this;rw[z.1];exact rv
 ·intro z;exact⟨vs,h,by rw[rd.length];exact z⟩
theorem k1l {S:Addr->Prop}{H:Hp}{a:Addr}{vs:List V}{ds:List D}(h:SqT K H a vs)(rd:RepDs K (hid H S) vs ds):WkAt K S H (Itt K a) ds:=by
 intro k
 constructor
 ·intro d e
  obtain⟨v,e1,rv⟩:=rd.get e
  refine⟨⟨vs,v,h,e1⟩,fun x H' z=>⟨z.1▸Same.refl H,?_⟩⟩
  have:=z.2 vs h
  rw[e1]at this;cases this;rw[z.1];exact rv
 ·intro z;exact⟨vs,h,by rw[rd.length];exact z⟩
def o1m (pin:Nat->Bool)(x:AE):AI:=fun ρ q=>x ρ fun r ρ1=>match r.frz with
 | .d (.lst ds)=>q ds (fun _=>True) ρ1
 | .d (.tup ds)=>q ds (fun _=>True) ρ1
 | .o i=>(match gt ρ1 i with
  | .ow ds=>pin i=true/\q ds (fun ρ2=>gt ρ2 i = .ow ds) ρ1
  | _=>False)
 | _=>False
theorem b0n {pin:Nat->Bool}(h:TEok K te ae):TIok K pin (iSeq K te) (o1m pin ae):=by
 intro F σ ρ H q Rk r ha k
 refine h F σ ρ H _ _ r ha fun r1 ρ1 x H1 h1 o1=>?_
 obtain⟨r',k1,i1⟩:=o1.inF
 split at h1
 ·rename_i ds e
  rw[e]at i1
  have rd:RepD K _ x (.lst ds):=i1
  unfold RepD at rd
  obtain⟨a,vs,rfl,sq,rd⟩:=rd
  refine⟨a,rfl,.inl ⟨⟨vs,c0e.seq (StL.sq sq)⟩,k _ _ _ _ _ h1 r' k1 fun σ2 ρ2 H2 sm _ _ _ _=>?_⟩⟩
  exact g1g (c0e.seq (sm.seq (StL.sq sq))) (rd.same sm)
 ·rename_i ds e
  rw[e]at i1
  have rd:RepD K _ x (.tup ds):=i1
  unfold RepD at rd
  obtain⟨a,vs,rfl,sq,rd⟩:=rd
  refine⟨a,rfl,.inr ⟨⟨vs,c0e.seqT sq.sq⟩,k _ _ _ _ _ h1 r' k1 fun σ2 ρ2 H2 sm _ _ _ _=>?_⟩⟩
  exact k1l (c0e.seqT (sm.seqT sq.sq)) (rd.same sm)
 ·rename_i i e
  rw[e]at i1
  have ei:σ[i]? = some (some x):=i1
  split at h1
  ·rename_i ds hg
   have s:=r'.sl i
   rw[hg,ei]at s
   obtain⟨a,vs,e1,hl,rd⟩:=s
   injection e1 with e1;injection e1 with e1;subst e1
   refine⟨a,rfl,.inl ⟨⟨vs,SqL.of hl⟩,k _ _ _ _ _ h1.2 r' k1 fun σ2 ρ2 H2 sm sv pn _ hc=>?_⟩⟩
   have s2:=sv i
   rw[hc,pn i a h1.1 ei]at s2
   obtain⟨a',vs',e2,hl',rd'⟩:=s2
   injection e2 with e2;injection e2 with e2;injection e2 with e2;subst e2
   exact g1g (SqL.of hl') rd'
  ·exact h1.elim
 ·exact h1.elim
def forA (c:En->Prop)(g:AG)(b:AS)(e:t0e):List D->En->Prop
 | [],ρ=>c ρ/\e.nx ρ
 | d::ds,ρ=>c ρ/\g d ρ fun ρ1=>b {nx:=forA c g b e ds,ct:=forA c g b e ds,bk:=e.nx,rt:=e.rt} ρ1
def aFor (i:AI)(g:AG)(b:AS):AS:=fun e ρ=>i ρ fun ds c ρ1=>forA c g b e ds ρ1
theorem e0k {pin:Nat->Bool}{wi:TI}{ai:AI}{g:TG}{ag:AG}(hi:TIok K pin wi ai)(hg:TGok K (fun j=>pr j||pin j) g ag)(hb:TSok K (fun j=>pr j||pin j) t a):TSok K pr (tFor wi g t) (aFor ai ag a):=by
 intro F σ ρ H D e hp r ha k
 refine hi F σ ρ H _ _ r ha fun ds c ρ1 J H1 h1 r1 k1 wk=>?_
 have hp':∀i a,(rebase F σ ρ1 H1 pin).pin i a->(pr i||pin i)=true:=fun i a h=>by
  rcases h with h | h | h
  ·rw[hp i a (.inl h)];rfl
  ·rw[hp i a (.inr h)];rfl
  ·rw[h.1];cases pr i <;> rfl
 have ek:n1o K (rebase F σ ρ1 H1 pin) D e:=⟨fun _ _ _ h' r'=>k.nx _ _ _ h' (r1.unbase r').1,fun _ _ _ h' r'=>k.bk _ _ _ h' (r1.unbase r').1,fun _ _ _ h' r'=>k.ct _ _ _ h' (r1.unbase r').1,fun _ _ _ _ _ h' r'=>k.rt _ _ _ _ _ h' (RelR.unbase r1 r')⟩
 refine⟨fun i m σ' H'=>∃ ρ',m=ds.length - i/\i<=ds.length/\Rel K (rebase F σ ρ1 H1 pin) σ' ρ' H'/\forA c ag a e (ds.drop i) ρ',⟨ds.length,ρ1,rfl,Nat.zero_le _,r1.rebase pin,h1⟩,?_⟩
 rintro i m σ' H' ⟨ρ',rfl,hl,r',h'⟩
 have w:c ρ'->WkAt K (hs F σ' ρ') H' J ds:=fun hc=>wk σ' ρ' H' (r1.unbase r').2 r'.sl (fun j x hj ej=>r'.mi j x (.inr (.inr ⟨hj,ej⟩))) (fun a z=>b1v r' z) hc
 rcases Nat.lt_or_ge i ds.length with q | q
 ·right
  rw[List.drop_eq_getElem_cons q]at h'
  unfold forA at h'
  obtain⟨hc,h'⟩:=h'
  obtain⟨go,yld⟩:=(w hc i).1 ds[i] (List.getElem?_eq_getElem q)
  refine⟨go,fun σ2 H2=>∃ ρ2,Rel K (rebase F σ ρ1 H1 pin) σ2 ρ2 H2/\forA c ag a e (ds.drop (i+1)) ρ2,fun σ2 H2 ⟨ρ2,r2,h2⟩=>⟨ds.length - (i+1),by omega,ρ2,rfl,q,r2,h2⟩,fun x H2 hy=>?_⟩
  obtain⟨sm,rd⟩:=yld x H2 hy
  refine hg _ σ' ρ' _ x _ _ _ hp' (r'.grow sm) rd h' fun σ3 ρ3 h3 r3 _ _ _=>?_
  exact hb _ σ3 ρ3 _ _ _ hp' r3 h3 ⟨fun σ' ρ' H' h' r'=>⟨ρ',r',h'⟩,ek.nx,fun σ' ρ' H' h' r'=>⟨ρ',r',h'⟩,ek.rt⟩
 ·left
  rw[List.drop_eq_nil_of_le q]at h'
  unfold forA at h'
  obtain⟨hc,h'⟩:=h'
  exact⟨(w hc i).2 q,ek.nx _ _ _ h' r'⟩
end
def blkE (n:Nat)(js:List Nat)(ρ:En):En:=List.replicate n .un++js.map (gt ρ)
def blkR (n:Nat)(js:List Nat):List R:=List.replicate n (R.t "")++js.map R.o
theorem c0g (n:Nat)(js:List Nat)(ρ:En):(blkR n js).map (e0x ρ)=blkE n js ρ:=by
 unfold blkR blkE
 rw[List.map_append,List.map_replicate,List.map_map]
 rfl
theorem l0v (js:List Nat):∀n,dis (blkR n js)=dis (js.map R.o)
 | 0=>rfl
 | n+1=>by
  show dis (R.t "" :: blkR n js)=_
  exact l0v js n
theorem n0g (js:List Nat)(ρ:En)(n:Nat):∀ss:En,ss.length=n+js.length->back ρ (blkR n js) ss=back ρ (js.map R.o) (ss.drop n):=by
 induction n with
 | zero=>intro ss _;rfl
 | succ n ih =>
  intro ss h
  cases ss with
  | nil=>simp at h;omega
  | cons s ss=>exact ih ss (by simp at h;omega)
theorem q0m {n:Nat}{js:List Nat}{ρ:En}{i:Nat}(h:(gt (blkE n js ρ) i).own=true):n<=i:=by
 rcases Nat.lt_or_ge i n with q | q
 ·exfalso
  have:∀(n i:Nat) (x:En),i<n->gt (List.replicate n Sv.un++x) i = .un:=by
   intro n
   induction n with
   | zero=>intro i x h;omega
   | succ n ih =>
    intro i x h
    cases i with
    | zero=>rfl
    | succ i=>exact ih i x (by omega)
  unfold blkE at h
  rw[this n i _ q]at h
  cases h
 ·exact q
section
variable {K:PySem.W.Frag}{F:Fr}{σ σ':St}{ρ ρ':En}{H H':Hp}
theorem q0l (n:Nat)(js:List Nat):Srcs K F σ ρ H (bst n σ js) (blkR n js):=by
 unfold bst blkR
 induction n with
 | zero =>
  induction js with
  | nil=>exact .nil
  | cons j js ih=>exact .cons rfl ih
 | succ n ih=>exact .cons trivial ih
theorem k0n:∀(n i:Nat) (ρ:En),gt (ρ.drop n) i=gt ρ (n+i)
 | 0,i,ρ=>by simp
 | n+1,i,[]=>by simp[gt]
 | n+1,i,s::ρ=>by rw[List.drop_succ_cons,k0n n i ρ,Nat.add_right_comm];rfl
theorem o0n:∀(n i:Nat) (x:En),gt (List.replicate n Sv.un++x) i=if i<n then .un else gt x (i - n)
 | 0,i,x=>by simp
 | n+1,0,x=>by simp[List.replicate_succ,gt]
 | n+1,i+1,x=>by
  show gt (List.replicate n Sv.un++x) i=_
  rw[o0n n i x]
  by_cases h:i<n
  ·rw[if_pos h,if_pos (by omega)]
  ·rw[if_neg h,if_neg (by omega)];congr 1;omega
theorem Rel.forget {n:Nat}(r:Rel K F σ ρ H)(hn:n<=σ.length)(hp:∀i a,F.pin i a->n<=i):Rel K F (List.replicate n none++σ.drop n) (List.replicate n .un++ρ.drop n) H/\Same (hid H (hs F σ ρ)) (hid H (hs F (List.replicate n none++σ.drop n) (List.replicate n .un++ρ.drop n))):=by
 have g:∀i,gt (List.replicate n .un++ρ.drop n) i=if i<n then .un else gt ρ i:=fun i=>by
  rw[o0n]
  split
  ·rfl
  ·rw[k0n];congr 1;omega
 have s:∀i,n<=i->(List.replicate n none++σ.drop n)[i]? = σ[i]?:=fun i h=>by
  rw[List.getElem?_append_right (by simpa using h),List.length_replicate,List.getElem?_drop]
  congr 1;omega
 have own':∀i,(gt (List.replicate n .un++ρ.drop n) i).own=true->n<=i/\(gt ρ i).own=true:=fun i h=>by
  rw[g]at h
  split at h
  ·cases h
  ·exact⟨by omega,h⟩
 have sub:∀a,c0c (List.replicate n none++σ.drop n) (List.replicate n .un++ρ.drop n) a->c0c σ ρ a:=fun a ⟨i,hi,e⟩=>by
  obtain⟨h1,h2⟩:=own' i hi
  rw[s i h1]at e
  exact⟨i,h2,e⟩
 have vis:Same (hid H (hs F σ ρ)) (hid H (hs F (List.replicate n none++σ.drop n) (List.replicate n .un++ρ.drop n))):=b0o fun a o e n=>⟨e,fun z=>n (z.imp id (sub a))⟩
 refine⟨⟨by have:=r.len;simp;omega,r.fr,r.zl,fun a h=>r.zo a (sub a h),fun i a hi e=>?_,fun i a h=>?_,r.ml,r.ma,fun i j a hi hj ei ej=>?_,fun i=>?_⟩,vis⟩
 ·obtain⟨h1,h2⟩:=own' i hi
  rw[s i h1]at e
  exact r.ow i a h2 e
 ·rw[s i (hp i a h)];exact r.mi i a h
 ·obtain⟨h1,h2⟩:=own' i hi
  obtain⟨h3,h4⟩:=own' j hj
  rw[s i h1]at ei
  rw[s j h3]at ej
  exact r.nd i j a h2 h4 ei ej
 ·rw[g]
  split
  ·trivial
  ·rw[s i (by omega)]
   exact(r.sl i).keep vis fun _ _ _ _ e=>e
end
def j0c (n:Nat)(js:List Nat)(c:En->Prop)(g:AG)(tc:AT)(te:AE)(q:List D->En->Prop):List D->List D->En->Prop
 | [],acc,ρ=>c ρ/\q acc ρ
 | d::ds,acc,ρ=>c ρ/\g d (blkE n js ρ) fun ρ1=>tc ρ1 fun b ρ2=>if b=true then te ρ2 fun r ρ3=>sto [r.frz] ρ3 fun es ρ4=>j0c n js c g tc te q ds (acc++es) (back ρ (js.map R.o) (ρ4.drop n))else j0c n js c g tc te q ds acc (back ρ (js.map R.o) (ρ2.drop n))
def o1u (n:Nat)(js:List Nat)(i:AI)(g:AG)(tc:AT)(te:AE):AE:=fun ρ q=>i ρ fun ds c ρ1=>ds.length<=1000000/\j0c n js c g tc te (fun acc ρ2=>q (.f acc) ρ2) ds [] ρ1
def aAll:AT:=fun ρ q=>q true ρ
section
variable {K:PySem.W.Frag}
theorem c0h:TTok K tAll aAll:=fun F σ ρ H q Q r h k=>k _ _ _ h r .refl
theorem t0k {F:Fr}{σ:St}{ρ:En}{H:Hp}{v:V}{r:R}{q:List D->En->Prop}(a:Rel K F σ ρ H)(i:InF K F σ ρ H v r)(h:sto [r] ρ q):∃d ρ',q [d] ρ'/\Rel K F σ ρ' H/\Kp σ ρ ρ' H H/\RepD K (hid H (hs F σ ρ')) v d:=by
 obtain⟨ds,ρ',h1,h2,h3,h4⟩:=j0h a (.cons i .nil) h
 cases ds with
 | nil=>unfold RepDs at h4;exact h4.elim
 | cons d ds =>
  unfold RepDs at h4
  cases ds with
  | nil=>exact⟨d,ρ',h1,h2,h3,h4.1⟩
  | cons _ _=>obtain⟨_,z⟩:=h4;unfold RepDs at z;exact z.elim
theorem b0t {n:Nat}{js:List Nat}{wi:TI}{g:TG}{tc:TT}{te:TE}{ai:AI}{ag:AG}{atc:AT}{ate:AE}(hi:TIok K (fun _=>true) wi ai)(hg:TGok K (fun j=>decide (n<=j)) g ag)(hc:TTok K tc atc)(he:TEok K te ate)
  (hd:dis (js.map R.o)=true:=by rfl):TEok K (z0t n js wi g tc te) (o1u n js ai ag atc ate):=by
 intro F σ ρ H q Q r h k
 refine hi F σ ρ H _ _ r h fun ds c ρ1 J H1 h1 r1 k1 wk=>?_
 obtain⟨hz,h1⟩:=h1
 have hd':dis (blkR n js)=true:=by rw[l0v];exact hd
 refine⟨fun i m ys H'=>∃ ρ' acc,m=ds.length - i/\i<=ds.length/\Rel K F σ ρ' H'/\Kp σ ρ1 ρ' H1 H'/\RepDs K (hid H' (hs F σ ρ')) ys acc/\acc.length<=i/\j0c n js c ag atc ate (fun acc ρ2=>q (.f acc) ρ2) (ds.drop i) acc ρ',⟨ds.length,ρ1,[],rfl,Nat.zero_le _,r1,.refl,.nil,Nat.zero_le _,h1⟩,?_⟩
 rintro i m ys H' ⟨ρ',acc,rfl,hl,r',k',rd,al,h'⟩
 have w:c ρ'->WkAt K (hs F σ ρ') H' J ds:=fun hc=>wk σ ρ' H' k'.vis r'.sl (fun _ _ _ e=>e) (fun a z=>b1v r' z) hc
 have yl:ys.length=acc.length:=rd.length
 rcases Nat.lt_or_ge i ds.length with lt | ge
 ·right
  rw[List.drop_eq_getElem_cons lt]at h'
  unfold j0c at h'
  obtain⟨hcc,h'⟩:=h'
  obtain⟨go,yld⟩:=(w hcc i).1 ds[i] (List.getElem?_eq_getElem lt)
  refine⟨go,o0f (by omega),fun zs H2=>∃ ρ2 acc2,Rel K F σ ρ2 H2/\Kp σ ρ1 ρ2 H1 H2/\RepDs K (hid H2 (hs F σ ρ2)) zs acc2/\acc2.length<=i+1/\j0c n js c ag atc ate (fun acc ρ2=>q (.f acc) ρ2) (ds.drop (i+1)) acc2 ρ2,
   fun zs H2 ⟨ρ2,acc2,a1,a2,a3,a4,a5⟩=>⟨ds.length - (i+1),by omega,ρ2,acc2,rfl,lt,a1,a2,a3,a4,a5⟩,fun x H2 hy=>?_⟩
  obtain⟨sm,rx⟩:=yld x H2 hy
  have r0':=r'
  have k':Kp σ ρ1 ρ' H1 H2:=k'.trans ⟨fun a o e _=>sm a o e,fun _ h=>h⟩
  have rd:RepDs K (hid H2 (hs F σ ρ')) ys acc:=rd.same (b0o fun a o e n=>⟨sm a o e,n⟩)
  have r':=r0'.grow sm
  have src:=q0l (K:=K) (F:=F) (σ:=σ) (ρ:=ρ') (H:=H2) n js
  have rb:=r'.sub src hd'
  have hs2:=v0w r' src
  rw[c0g]at rb hs2
  have pin:∀i a,(g0c F σ ρ' H2 (bst n σ js) (blkE n js ρ')).pin i a->decide (n<=i)=true:=fun i a h=>by
   rcases h with h | h
   ·exact decide_eq_true (q0m h.1)
   ·exact h.elim
  have hlen:(bst n σ js).length=n+js.length:=j0d
  have ret:∀ σ2 ρ2 H3,Rel K (g0c F σ ρ' H2 (bst n σ js) (blkE n js ρ')) σ2 ρ2 H3->σ2.length=(bst n σ js).length->σ2.drop n=capt σ js->(∀i,(gt ρ2 i).own=true->(gt (blkE n js ρ') i).own=true) ->
    Rel K F σ (back ρ' (js.map R.o) (ρ2.drop n)) H3/\Kp σ ρ' (back ρ' (js.map R.o) (ρ2.drop n)) H2 H3/\Same (hid H3 (hs (g0c F σ ρ' H2 (bst n σ js) (blkE n js ρ')) σ2 ρ2)) (hid H3 (hs F σ (back ρ' (js.map R.o) (ρ2.drop n)))):=fun σ2 ρ2 H3 rr hlen2 hdrop hown=>by
   obtain⟨f1,f2⟩:=rr.forget (n:=n) (by omega) fun i a h=>of_decide_eq_true (pin i a h)
   rw[hdrop]at f1 f2
   have f1':Rel K (g0c F σ ρ' H2 (bst n σ js) ((blkR n js).map (e0x ρ'))) (bst n σ js) (List.replicate n .un++ρ2.drop n) H3:=by rw[c0g];exact f1
   have bk:=r'.back src hd' f1' fun i hi=>by
    rw[c0g]
    rw[o0n]at hi
    split at hi
    ·cases hi
    ·rename_i hni
     rw[k0n,show n+(i - n)=i by omega]at hi
     exact hown i hi
   have ln:(List.replicate n Sv.un++ρ2.drop n).length=n+js.length:=by
    have:=rr.len
    simp;omega
   rw[n0g js ρ' n _ ln,List.drop_left' (by simp),c0g]at bk
   exact⟨bk.1,bk.2.1,f2.trans bk.2.2⟩
  refine hg _ (bst n σ js) (blkE n js ρ') H2 x _ _ _ pin rb (by rw[hs2];exact rx) h' fun σ2 ρ2 h2 r2 l2 p2 o2=>?_
  have hdrop:σ2.drop n=capt σ js:=by
   have:σ2.drop n=(bst n σ js).drop n:=by
    apply List.ext_getElem?
    intro i
    rw[List.getElem?_drop,List.getElem?_drop]
    exact p2 (n+i) (decide_eq_true (by omega))
   rw[this]
   unfold bst
   rw[List.drop_left' (by simp)]
  refine⟨hdrop,hc _ σ2 ρ2 H2 _ _ r2 h2 fun b ρ3 H3 h3 r3 k3=>?_⟩
  cases b with
  | false =>
   obtain⟨b1,b2,_⟩:=ret σ2 ρ3 H3 r3 l2 hdrop fun i hi=>(o2 i (k3.sb i hi)).1
   exact⟨_,acc,b1,k'.trans b2,rd.same b2.vis,by omega,h3⟩
  | true =>
   refine he _ σ2 ρ3 H3 _ _ r3 h3 fun r4 ρ4 v H4 h4 o4=>?_
   obtain⟨r4',k4,i4⟩:=o4.inF
   obtain⟨d,ρ5,h5,r5,k5,rv⟩:=t0k r4' i4 h4
   obtain⟨b1,b2,b3⟩:=ret σ2 ρ5 H4 r5 l2 hdrop fun i hi=>(o2 i (k3.sb i (k4.sb i (k5.sb i hi)))).1
   exact⟨_,acc++[d],b1,k'.trans b2,(rd.same b2.vis).append (.one (rv.same b3)),by simp;omega,h5⟩
 ·left
  rw[List.drop_eq_nil_of_le ge]at h'
  unfold j0c at h'
  obtain⟨hcc,h'⟩:=h'
  refine⟨(w hcc i).2 ge,small (by omega),fun l hl'=>?_⟩
  exact((k.after k1).after k').new r' h' rd hl'
end
def outS:En->En->En
 | [],_=>[]
 | s::ss,ρ=>(if s.own=true then gt ρ 0 else s)::outS ss ρ.tail
theorem j1m (ρ:En)(i:Nat):gt ρ.tail i=gt ρ (i+1):=by cases ρ <;> rfl
theorem w0i:∀(ss ρ:En),(outS ss ρ).length=ss.length
 | [],_=>rfl
 | s::ss,ρ=>by simp[outS,w0i ss]
theorem u0o:∀(ss ρ:En) (i:Nat),gt (outS ss ρ) i=if(gt ss i).own=true then gt ρ i else gt ss i
 | [],ρ,i=>by simp[outS,gt,Sv.own]
 | s::ss,ρ,0=>rfl
 | s::ss,ρ,i+1=>by
  show gt (outS ss ρ.tail) i=_
  rw[u0o ss ρ.tail i,j1m]
  rfl
def fin (pr:Nat->Bool):R->En->Ko->Prop
 | .d d,ρ,k=>k (.d d) ρ
 | .n s,ρ,k=>k (.n s) ρ
 | .o i,ρ,k=>(match gt ρ i with
  | .ow ds=>if pr i=true then k (.d (.lst ds)) (pt ρ i (.vl (.lst ds)))else k (.n (.ow ds)) (pt ρ i .un)
  | .vl d=>k (.d d) ρ
  | .dk kvs=>if pr i=true then False else k (.n (.dk kvs)) (pt ρ i .un)
  | .dt kvs=>if pr i=true then False else k (.n (.dt kvs)) (pt ρ i .un)
  | _=>False)
 | .t _,_,_=>False
 | .x s,ρ,k=>k (.x s) ρ
def n1z (pr:Nat->Bool)(ss:En):Prop:=∀i,(gt ss i).own=true->pr i=true
section
variable {K:PySem.W.Frag}{F:Fr}{σ σ':St}{ρ ρ':En}{H H':Hp}
open Classical in
noncomputable def del (H:Hp)(l:Addr):Hp:=fun a=>if a=l then none else H a
open Classical in
theorem q0e {l:Addr}:del H l l=none:=by unfold del;rw[if_pos rfl]
open Classical in
theorem o0r {a l:Addr}(h:a≠l):del H l a=H a:=by unfold del;rw[if_neg h]
theorem k0q {l:Addr}{o:HO}(h:H l=some o):upd (del H l) l o=H:=by
 funext a
 by_cases e:a=l
 ·subst e;rw[b0l,h]
 ·rw[a0x e,o0r e]
theorem Rel.take (r:Rel K F σ ρ H){i:Nat}(hi:(gt ρ i).own=true)(hm:∀a,¬F.pin i a):∃l o,H l=some o/\σ[i]? = some (some (.ref l))/\Rel K F σ (pt ρ i .un) (del H l)/\SvOk K (hid (del H l) (hs F σ (pt ρ i .un))) H (some (some (.ref l))) (gt ρ i):=by
 have s:=r.sl i
 obtain⟨l,o,el,hl⟩:=s.alive hi
 have own':∀j,(gt (pt ρ i .un) j).own=true->i≠j/\(gt ρ j).own=true:=fun j h=>j0a rfl h
 have sub:∀a,c0c σ (pt ρ i .un) a->c0c σ ρ a/\a≠l:=fun a ⟨j,hj,e⟩=>by
  obtain⟨ij,hj⟩:=own' j hj
  exact⟨⟨j,hj,e⟩,fun z=>ij (r.nd i j l hi hj el (z▸e))⟩
 have ol:c0c σ ρ l:=⟨i,hi,el⟩
 have vis:Same (hid H (hs F σ ρ)) (hid (del H l) (hs F σ (pt ρ i .un))):=b0o fun a u e n=>by
  have al:a≠l:=fun z=>n (.inr (z▸ol))
  exact⟨by rw[o0r al];exact e,fun z=>n (z.imp id fun z=>(sub a z).1)⟩
 have h0:F.H0 l=none:=by
  rcases r.ow i l hi el with h | h
  ·exact absurd (Or.inl h.1) (hm l)
  ·exact h
 refine⟨l,o,hl,el,⟨by rw[j0o,r.len],fun a u e n=>?_,fun a z=>?_,fun a h=>r.zo a (sub a h).1,fun j a hj e=>r.ow j a (own' j hj).2 e,r.mi,r.ml,fun a z=>?_,fun j k a hj hk ej ek=>r.nd j k a (own' j hj).2 (own' k hk).2 ej ek,fun j=>?_⟩,?_⟩
 ·have al:a≠l:=fun z=>by rw[z,h0]at e;cases e
  rw[o0r al];exact r.fr a u e n
 ·have al:a≠l:=fun q=>r.zo l ol (q▸z)
  unfold Nt;rw[o0r al];exact r.zl a z
 ·have al:a≠l:=fun q=>r.ml a z (q▸h0)
  rw[o0r al];exact r.ma a z
 ·by_cases ij:i=j
  ·subst ij
   rw[s0e ρ i _ (o0j hi)];trivial
  ·rw[c0u ρ i j _ ij]
   refine(r.sl j).keep vis fun a u ho e h=>?_
   have al:a≠l:=fun z=>ij (r.nd i j l hi ho el (z▸e))
   rw[o0r al];exact h
 ·rw[el]at s
  exact s.keep vis fun _ _ _ _ e=>e
theorem Rel.out {vs:List V}{ss:En}{Z:Addr->Prop}(r0:Rel K (F0 vs ss H Z) (vs.map some) ss H)(r:Rel K (F0 vs ss H Z) σ' ρ' H') :
  Rel K (F0 vs ss H Z) (vs.map some) (outS ss ρ') H'/\Same (hid H' (hs (F0 vs ss H Z) σ' ρ')) (hid H' (hs (F0 vs ss H Z) (vs.map some) (outS ss ρ')))/\∀i,(gt (outS ss ρ') i).own=true->(gt ss i).own=true:=by
 have own':∀i,(gt (outS ss ρ') i).own=true->(gt ss i).own=true/\(gt ρ' i).own=true:=fun i h=>by
  rw[u0o]at h
  split at h
  ·rename_i q;exact⟨q,h⟩
  ·rename_i q;exact absurd h q
 have same:∀i a,(gt ss i).own=true->(vs.map some)[i]? = some (some (.ref a))->σ'[i]? = some (some (.ref a)):=fun i a h e=>r.mi i a (.inl ⟨h,e⟩)
 have sub:∀a,c0c (vs.map some) (outS ss ρ') a->c0c σ' ρ' a/\c0c (vs.map some) ss a:=fun a ⟨i,hi,e⟩=>by
  obtain⟨h1,h2⟩:=own' i hi
  exact⟨⟨i,h2,same i a h1 e⟩,⟨i,h1,e⟩⟩
 have v1:Same (hid H' (hs (F0 vs ss H Z) σ' ρ')) (hid H' (hs (F0 vs ss H Z) (vs.map some) (outS ss ρ'))):=b0o fun a o e n=>⟨e,fun z=>n (z.imp id fun z=>(sub a z).1)⟩
 have v2:Same (hid H (hs (F0 vs ss H Z) (vs.map some) ss)) (hid H' (hs (F0 vs ss H Z) (vs.map some) (outS ss ρ'))):=b0o fun a o e n=>⟨r.fr a o e fun z=>n (.inr z),fun z=>n (z.imp id fun z=>(sub a z).2)⟩
 refine⟨⟨by rw[w0i,r0.len],r.fr,r.zl,fun a h=>r.zo a (sub a h).1,fun i a hi e=>.inl ⟨⟨(own' i hi).1,e⟩,i,(own' i hi).1,e⟩,r0.mi,r.ml,r.ma,fun i j a hi hj ei ej=>r0.nd i j a (own' i hi).1 (own' j hj).1 ei ej,fun i=>?_⟩,v1,fun i h=>(own' i h).1⟩
 rw[u0o]
 split
 ·rename_i q
  obtain⟨l,o,e1,e2⟩:=(r0.sl i).alive q
  have:=same i l q e1
  rw[e1,<- this]
  exact(r.sl i).keep v1 fun _ _ _ _ e=>e
 ·rename_i q
  exact(r0.sl i).keep v2 fun l o ho=>absurd ho q
theorem s0g:∀(ρ:En) (n i:Nat),gt (ρ++List.replicate n .un) i=gt ρ i
 | [],n,i=>by
  show gt (List.replicate n .un) i = .un
  induction n generalizing i with
  | zero=>rfl
  | succ n ih=>cases i with
   | zero=>rfl
   | succ i=>exact ih i
 | s::ρ,n,0=>rfl
 | s::ρ,n,i+1=>s0g ρ n i
theorem Rel.ext (r:Rel K F σ ρ H)(n:Nat):Rel K F (σ++List.replicate n none) (ρ++List.replicate n .un) H:=by
 have s:∀ {i a},(gt ρ i).own=true->(σ++List.replicate n none)[i]? = some (some (V.ref a))->σ[i]? = some (some (.ref a)):=fun{i a} h e=>by
  rwa [List.getElem?_append_left (by rw[r.len];exact o0j h)]at e
 have sub:∀a,c0c (σ++List.replicate n none) (ρ++List.replicate n .un) a->c0c σ ρ a:=fun a ⟨i,hi,e⟩=>by
  rw[s0g]at hi
  exact⟨i,hi,s hi e⟩
 have vis:Same (hid H (hs F σ ρ)) (hid H (hs F (σ++List.replicate n none) (ρ++List.replicate n .un))):=b0o fun a o e n=>⟨e,fun z=>n (z.imp id (sub a))⟩
 refine⟨by simp[r.len],r.fr,r.zl,fun a h=>r.zo a (sub a h),fun i a hi e=>?_,fun i a h=>?_,r.ml,r.ma,fun i j a hi hj ei ej=>?_,fun i=>?_⟩
 ·rw[s0g]at hi
  exact r.ow i a hi (s hi e)
 ·have:=r.mi i a h
  rw[List.getElem?_append_left (List.getElem?_eq_some_iff.mp this).1];exact this
 ·rw[s0g]at hi hj
  exact r.nd i j a hi hj (s hi ei) (s hj ej)
 ·rw[s0g]
  have q:=r.sl i
  rcases Nat.lt_or_ge i σ.length with lt | ge
  ·rw[List.getElem?_append_left lt]
   exact q.keep vis fun _ _ _ _ e=>e
  ·rw[o0o ρ i (by rw[<- r.len];exact ge)];trivial
end
theorem DefN.aok {P:Program}{w:World}{K:PySem.W.Frag}{mg:Str->Option Value}{base:Heap}{x:Str}{st:Stmt}{N ps:List Str}{k:Nat}{a:AS}(D:DefN K mg x st ps)(Sc:b0a N ps (a0i st))(pr:Nat->Bool)(S:ASp)
  (hbody:∀(f:Addr) (cdv:Value) (A:Around) (outer:List Env) (s:Shared) (H:Hp) (E:XK),Room k (A.deeper (envOfC x (a0i st) s.heap.objs.size f cdv)) ->
   ∃t,PSs (cxOf CX0 P w K mg base N x (a0i st) f cdv A outer s H E).nox (h0h st) t/\TSok K pr t a)
  (hS:∀ss q,S ss q->ss.length=ps.length/\n1z pr ss/\a ⟨fun ρ=>q (.d .non) (outS ss ρ),fun r ρ=>fin pr r ρ fun r' ρ'=>q r' (outS ss ρ'),fun _=>False,fun _=>False⟩ (ss++List.replicate (N.length - ps.length) .un)):OkN P w K mg base (k+1) x ps (spA K S):=by
 have lenOk:∀vs H Q E,spA K S vs H Q E->vs.length=ps.length:=fun vs H Q E h=>by
  obtain⟨ss,Z,q,r,hs',_⟩:=h
  have:=r.len
  rw[List.length_map]at this
  rw[this];exact(hS ss q hs').1
 refine D.ok Sc lenOk (fun f cdv A outer s H vs Q E hr h=>?_)
 have hl:=lenOk _ _ _ _ h
 obtain⟨ss,Z,q,r0,hs',post⟩:=h
 obtain⟨h1,h2,h3⟩:=hS ss q hs'
 obtain⟨t,ht,tok⟩:=hbody f cdv A outer s H E hr
 refine⟨t,ht,?_⟩
 have hp:∀i a,(F0 vs ss H Z).pin i a->pr i=true:=fun i a h=>by
  rcases h with h | h
  ·exact h2 i h.1
  ·exact h.elim
 unfold start
 rw[hl]
 have fin_d:∀ σ' ρ' v H' d,q (.d d) (outS ss ρ')->Rel K (F0 vs ss H Z) σ' ρ' H'->RepD K (hid H' (hs (F0 vs ss H Z) σ' ρ')) v d->Q v H':=fun σ' ρ' v H' d hq r rd=>by
  obtain⟨o1,o2,o3⟩:=r0.out r
  exact post (.d d) _ v H' hq o3 (fun i z=>nomatch z) ⟨o1,rd.same o2⟩
 refine tok (F0 vs ss H Z) _ _ H _ _ hp (r0.ext _) h3 ⟨fun σ' ρ' H' hq r=>?_,fun _ _ _ z=>z.elim,fun _ _ _ z=>z.elim,fun σ' ρ' rr v H' hq r=>?_⟩
 ·exact fin_d σ' ρ' _ H' .non hq r (by unfold RepD;rfl)
 ·cases rr with
  | d d=>exact fin_d σ' ρ' v H' d hq r.1 r.2
  | t n=>exact hq.elim
  | x s =>
   obtain⟨ra,rb,rc⟩:=r
   obtain⟨o1,o2,o3⟩:=r0.out ra
   exact post (.x s) _ v H' hq o3 (fun i z=>nomatch z) ⟨o1,rb,rc.keep o2 fun l o ho=>by rw[rb]at ho;cases ho⟩
  | n sv =>
   obtain⟨Hb,l,o,a1,a2,a3,a4,a5,a6⟩:=r
   obtain⟨o1,o2,o3⟩:=r0.out a1
   exact post (.n sv) _ v H' hq o3 (fun i z=>nomatch z) ⟨Hb,l,o,o1,a2,a3.keep o2 fun _ _ _ _ e=>e,a4,a5,a6⟩
  | o i =>
   obtain⟨r,ei⟩:=r
   have hq':(match gt ρ' i with
    | .ow ds=>if pr i=true then q (.d (.lst ds)) (outS ss (pt ρ' i (.vl (.lst ds))))else q (.n (.ow ds)) (outS ss (pt ρ' i .un))
    | .vl d=>q (.d d) (outS ss ρ')
    | .dk kvs=>if pr i=true then False else q (.n (.dk kvs)) (outS ss (pt ρ' i .un))
    | .dt kvs=>if pr i=true then False else q (.n (.dt kvs)) (outS ss (pt ρ' i .un))
    | _=>False):=hq
   clear hq
   split at hq'
   ·rename_i ds hg
    split at hq'
    ·obtain⟨l,el,r2,k2,rd⟩:=r.frz hg
     rw[ei]at el
     injection el with el;injection el with el;subst el
     exact fin_d σ' _ _ H' _ hq' r2 rd
    ·rename_i hpr
     have ho:(gt ρ' i).own=true:=by rw[hg];rfl
     obtain⟨l,o,hl',el,r2,sv⟩:=r.take ho fun a z=>hpr (hp i a z)
     rw[ei]at el
     injection el with el;injection el with el;subst el
     obtain⟨o1,o2,o3⟩:=r0.out r2
     rw[hg]at sv
     refine post (.n (.ow ds)) _ _ H' hq' o3 (fun i z=>nomatch z) ⟨del H' l,l,o,o1,rfl,?_,q0e,(k0q hl').symm,rfl⟩
     rw[k0q hl']
     exact sv.keep o2 fun _ _ _ _ e=>e
   ·rename_i d hg
    have s:=r.sl i
    rw[hg,ei]at s
    obtain⟨x,e1,rd⟩:=s
    injection e1 with e1;injection e1 with e1;subst e1
    exact fin_d σ' ρ' _ H' d hq' r rd
   ·rename_i kvs hg
    split at hq'
    ·exact hq'.elim
    ·rename_i hpr
     have ho:(gt ρ' i).own=true:=by rw[hg];rfl
     obtain⟨l,o,hl',el,r2,sv⟩:=r.take ho fun a z=>hpr (hp i a z)
     rw[ei]at el
     injection el with el;injection el with el;subst el
     obtain⟨o1,o2,o3⟩:=r0.out r2
     rw[hg]at sv
     refine post (.n (.dk kvs)) _ _ H' hq' o3 (fun i z=>nomatch z) ⟨del H' l,l,o,o1,rfl,?_,q0e,(k0q hl').symm,rfl⟩
     rw[k0q hl']
     exact sv.keep o2 fun _ _ _ _ e=>e
   ·rename_i kvs hg
    split at hq'
    ·exact hq'.elim
    ·rename_i hpr
     have ho:(gt ρ' i).own=true:=by rw[hg];rfl
     obtain⟨l,o,hl',el,r2,sv⟩:=r.take ho fun a z=>hpr (hp i a z)
     rw[ei]at el
     injection el with el;injection el with el;subst el
     obtain⟨o1,o2,o3⟩:=r0.out r2
     rw[hg]at sv
     refine post (.n (.dt kvs)) _ _ H' hq' o3 (fun i z=>nomatch z) ⟨del H' l,l,o,o1,rfl,?_,q0e,(k0q hl').symm,rfl⟩
     rw[k0q hl']
     exact sv.keep o2 fun _ _ _ _ e=>e
   ·exact hq'.elim
def SLaw:ASp:=fun ss q=>∃ns:List Int,ns.length<=63/\ss=[.sc ns]/\∀ss',q (.d (.bl true)) ss'
theorem m1f {P:Program}{w:World}{K:PySem.W.Frag}{mg:Str->Option Value}{base:Heap}{k:Nat}{x:Str}{ps:List Str}(h:OkN P w K mg base k x ps (spA K SLaw)):OkN P w K mg base k x ps (i1d K):=by
 obtain⟨f,fd,a1,a2,a3,a4,g⟩:=h.ex
 refine⟨f,fd,a1,a2,a3,a4,g.imp fun vs H Q E hq=>?_⟩
 obtain⟨a,ns,rfl,sq,hl,k⟩:=hq
 refine⟨[.sc ns],fun _=>False,fun r _=>r = .d (.bl true),⟨rfl,fun a o e _=>e,fun a z=>z.elim,fun a _ z=>z,fun i a hi _=>?_,fun i a h=>?_,fun a h=>?_,fun a h=>?_,fun i j a hi=>?_,fun i=>?_⟩,⟨ns,hl,rfl,fun _=>rfl⟩,fun r ss' v H' e1 _ _ rr=>?_⟩
 ·exfalso;cases i with
  | zero=>cases hi
  | succ i=>cases hi
 ·rcases h with h | h
  ·cases i with
   | zero=>cases h.1
   | succ i=>cases h.1
  ·exact h.elim
 ·obtain⟨i,hi,_⟩:=h
  cases i with
  | zero=>cases hi
  | succ i=>cases hi
 ·obtain⟨i,hi,_⟩:=h
  cases i with
  | zero=>cases hi
  | succ i=>cases hi
 ·exfalso;cases i with
  | zero=>cases hi
  | succ i=>cases hi
 ·cases i with
  | succ i=>trivial
  | zero =>
   refine⟨a,rfl,?_⟩
   refine(show Same H (hid H _)from fun b o e=>j0y (fun z=>?_) e).seq sq
   rcases z with z | ⟨i,hi,_⟩
   ·exact z
   ·cases i with
    | zero=>cases hi
    | succ i=>cases hi
 ·subst e1
  obtain⟨_,rd⟩:=rr
  unfold RepD at rd
  subst rd
  exact k H'
def z0v (K:PySem.W.Frag):Sp:=fun vs H Q _=>∃(t c:Addr) (m sp lf:Int) (ns:List Int) (n:Nat),vs=[.ref t,.int m]/\H t=some (.dK (d0l c sp lf))/\SqL K H c (ns.map V.int)/\0<=sp/\sp<=n/\0<=lf/\n<1000000000000/\Dv m /\
 ∀(r:Nat) (sp' lf':Int),(r:Int)<m->0<=sp'->sp'<=(n+1:Nat)->0<=lf'->Q (.int (r:Nat)) (upd H t (.dK (d0l c sp' lf')))
def z0u (K:PySem.W.Frag):Sp:=fun vs H Q _=>∃(a:Addr) (ns:List Int),vs=[.ref a]/\SqL K H a (ns.map V.int) /\
 ∀t c,H t=none->H c=none->t≠c->Q (.ref t) (upd (upd H c (.lst ((ns.take 63).map V.int))) t (.dK (d0l c 0 0)))
def k1e:ASp:=fun ss q=>∃ns:List Int,ss=[.sc ns]/\q (.n (.tp 0)) [.sc ns]
def d1n:ASp:=fun ss q=>∃(n:Nat) (m:Int),ss=[.tp n,.vl (.int m)]/\n<1000000000000/\Dv m/\∀r:Nat,(r:Int)<m->q (.d (.int r)) [.tp (n+1),.vl (.int m)]
theorem OkN.imp {P:Program}{w:World}{K:PySem.W.Frag}{mg:Str->Option Value}{base:Heap}{k:Nat}{x:Str}{ps:List Str}{sp sp':Sp}(h:OkN P w K mg base k x ps sp)(i:∀vs H Q E,sp' vs H Q E->sp vs H Q E):OkN P w K mg base k x ps sp':=by
 obtain⟨f,fd,a1,a2,a3,a4,g⟩:=h.ex
 exact⟨f,fd,a1,a2,a3,a4,g.imp i⟩
theorem n1h {vs:List V}{s:Sv}{F:Fr}{K:PySem.W.Frag}{H:Hp}(r:Rel K F (vs.map some) [s] H):∃x,vs=[x]:=by
 have:=r.len
 match vs,this with
 | [x],_=>exact⟨x,rfl⟩
theorem n1g {vs:List V}{s s':Sv}{F:Fr}{K:PySem.W.Frag}{H:Hp}(r:Rel K F (vs.map some) [s,s'] H):∃x y,vs=[x,y]:=by
 have:=r.len
 match vs,this with
 | [x,y],_=>exact⟨x,y,rfl⟩
theorem j1s {K:PySem.W.Frag}(vs:List V)(H:Hp)(Q:VK)(E:XK)(h:spA K d1n vs H Q E):z0v K vs H Q E:=by
 obtain⟨ss,Z,q,r,⟨n,m,rfl,hn,hm,hq⟩,post⟩:=h
 obtain⟨x,y,rfl⟩:=n1g r
 obtain⟨t,c,ns,sp,lf,e0,ht,hc,h1,h2,h3⟩:=r.sl 0
 obtain⟨y',e1,ry⟩:=r.sl 1
 unfold RepD at ry
 injection e0 with e0;injection e0 with e0;subst e0
 injection e1 with e1;injection e1 with e1
 subst e1 ry
 refine⟨t,c,m,sp,lf,ns,n,rfl,ht,c0e.seq hc,h1,h2,h3,hn,hm,fun rr sp' lf' hr a1 a2 a3=>?_⟩
 have hw:=r.write (i:=0) (l:=t) (o:=.dK (d0l c sp' lf')) (s:=.tp (n+1)) rfl rfl rfl ⟨t,c,ns,sp',lf',rfl,b0l,hc,a1,a2,a3⟩
 refine post (.d (.int rr)) [.tp (n+1),.vl (.int m)] _ _ (hq rr hr) (fun i h=>?_) (fun i z=>nomatch z) ⟨hw.1,by unfold RepD;rfl⟩
 match i,h with
 | 0,_=>rfl
 | 1,h=>cases h
 | i+2,h=>cases h
theorem h1y {K:PySem.W.Frag}(vs:List V)(H:Hp)(Q:VK)(E:XK)(h:spA K k1e vs H Q E):z0u K vs H Q E:=by
 obtain⟨ss,Z,q,r,⟨ns,rfl,hq⟩,post⟩:=h
 obtain⟨x,rfl⟩:=n1h r
 obtain⟨a,e0,sq⟩:=r.sl 0
 injection e0 with e0;injection e0 with e0;subst e0
 refine⟨a,ns,rfl,c0e.seq sq,fun t c ht hc htc=>?_⟩
 have rc:=r.fresh (o:=.lst ((ns.take 63).map V.int)) hc
 have kc:Kp ([V.ref a].map some) [.sc ns] [.sc ns] H (upd H c (.lst ((ns.take 63).map V.int))):=Kp.fresh hc
 have ht':(upd H c (.lst ((ns.take 63).map V.int))) t=none:=by rw[a0x htc];exact ht
 refine post (.n (.tp 0)) _ _ _ hq (fun i h=>h) (fun i z=>nomatch z) ⟨_,t,_,rc,rfl,⟨t,c,ns.take 63,0,0,rfl,b0l,SqL.of (j0y (m0w r hc) b0l),by decide,by decide,by decide⟩,ht',rfl,rfl⟩
section
variable {K:PySem.W.Frag}{F:Fr}{σ:St}{ρ ρ':En}{H H':Hp}{ta tb tc:TE}{a b c:AE}{rr rr':R2}{g g':R->R->AE}
def n1n (g g':R->R->AE)(a b c:AE):AE:=fun ρ q=>a ρ fun r1 ρ1=>b ρ1 fun r2 ρ2=>g r1.frz r2.frz ρ2 fun r3 ρ3=>match r3 with
 | .d (.bl k)=>if k=true then c ρ3 fun r4 ρ4=>g' r2.frz r4.frz ρ4 q else q (.d (.bl false)) ρ3
 | _=>False
theorem q0w (ho:OpOk K rr g)(ho':OpOk K rr' g')(ha:TEok K ta a)(hb:TEok K tb b)(hc:TEok K tc c):TEok K (g1l rr rr' ta tb tc) (n1n g g' a b c):=by
 intro F σ ρ H q Q r h k
 refine ha F σ ρ H _ _ r h fun r1 ρ1 x H1 h1 o1=>?_
 obtain⟨r1',k1,i1⟩:=o1.inF
 refine hb F σ ρ1 H1 _ _ r1' h1 fun r2 ρ2 y H2 h2 o2=>?_
 obtain⟨r2',k2,i2⟩:=o2.inF
 refine ho F σ ρ2 H2 x y _ _ _ _ r2' (i1.keep k2) i2 h2 fun r3 ρ3 z H3 h3 o3=>?_
 obtain⟨r3',k3,i3⟩:=o3.inF
 split at h3
 ·rename_i kk
  refine⟨kk,i3.blv,?_⟩
  cases kk with
  | false=>exact(((k.after k1).after k2).after k3).bl r3' h3
  | true =>
   refine hc F σ ρ3 H3 _ _ r3' h3 fun r4 ρ4 w H4 h4 o4=>?_
   obtain⟨r4',k4,i4⟩:=o4.inF
   exact ho' F σ ρ4 H4 y w _ _ q Q r4' ((i2.keep k3).keep k4) i4 h4 ((((k.after k1).after k2).after k3).after k4)
 ·exact h3.elim
def gIsB (neg:Bool):R->R->AE:=fun r1 r2 ρ q=>match r1,r2 with
 | .d (.bl x),.d (.bl y)=>q (.d (.bl (if neg then !(x==y)else x==y))) ρ
 | _,_=>False
theorem b1a:OpOk K (fun x y H Q=>∃a b,x = .bl a/\y = .bl b/\Q (.bl (a==b)) H) (gIsB false):=by
 intro F σ ρ H x y r1 r2 q Q a h1 h2 h b
 unfold gIsB at h
 split at h
 ·exact⟨_,_,h1.blv,h2.blv,b.bl a h⟩
 ·exact h.elim
theorem e1w:OpOk K (fun x y H Q=>∃a b,x = .bl a/\y = .bl b/\Q (.bl (!(a==b))) H) (gIsB true):=by
 intro F σ ρ H x y r1 r2 q Q a h1 h2 h b
 unfold gIsB at h
 split at h
 ·exact⟨_,_,h1.blv,h2.blv,b.bl a h⟩
 ·exact h.elim
def q0a:D->Bool
 | .tup _=>false
 | .lst _=>false
 | _=>true
def inD (d:D)(ds:List D):Bool:=ds.any fun e=>eqD e d
@[irreducible] def gIn (neg:Bool):R->R->AE:=fun r1 r2 ρ q=>match view ρ r1,view ρ r2 with
 | some d,some (.lst ds)=>(q0a d=true/\ds.all q0a=true)/\q (.d (.bl (if neg then !inD d ds else inD d ds))) ρ
 | some d,some (.tup ds)=>(q0a d=true/\ds.all q0a=true)/\q (.d (.bl (if neg then !inD d ds else inD d ds))) ρ
 | _,_=>False
theorem p0z {x:V}{d:D}(h:RepD K H x d)(f:q0a d=true):o0a x=true:=by
 cases d with
 | tup ds=>cases f
 | lst ds=>cases f
 | non=>unfold RepD at h;subst h;rfl
 | bl b=>unfold RepD at h;subst h;rfl
 | int b=>unfold RepD at h;subst h;rfl
 | str b=>unfold RepD at h;subst h;rfl
theorem j1q {x y:V}{d e:D}(h:RepD K H x d)(h':RepD K H y e)(f:q0a d=true)(f':q0a e=true):eqV x y=eqD d e:=by
 cases d with
 | tup ds=>cases f
 | lst ds=>cases f
 | non=>unfold RepD at h;subst h;cases e with
  | tup ds=>cases f'
  | lst ds=>cases f'
  | non=>unfold RepD at h';subst h';simp[eqV,eqD]
  | bl b=>unfold RepD at h';subst h';simp[eqV,eqD]
  | int b=>unfold RepD at h';subst h';simp[eqV,eqD]
  | str b=>unfold RepD at h';subst h';simp[eqV,eqD]
 | bl b=>unfold RepD at h;subst h;cases e with
  | tup ds=>cases f'
  | lst ds=>cases f'
  | non=>unfold RepD at h';subst h';simp[eqV,eqD]
  | bl b=>unfold RepD at h';subst h';simp[eqV,eqD]
  | int b=>unfold RepD at h';subst h';simp[eqV,eqD]
  | str b=>unfold RepD at h';subst h';simp[eqV,eqD]
 | int b=>unfold RepD at h;subst h;cases e with
  | tup ds=>cases f'
  | lst ds=>cases f'
  | non=>unfold RepD at h';subst h';simp[eqV,eqD]
  | bl b=>unfold RepD at h';subst h';simp[eqV,eqD]
  | int b=>unfold RepD at h';subst h';simp[eqV,eqD]
  | str b=>unfold RepD at h';subst h';simp[eqV,eqD]
 | str b=>unfold RepD at h;subst h;cases e with
  | tup ds=>cases f'
  | lst ds=>cases f'
  | non=>unfold RepD at h';subst h';simp[eqV,eqD]
  | bl b=>unfold RepD at h';subst h';simp[eqV,eqD]
  | int b=>unfold RepD at h';subst h';simp[eqV,eqD]
  | str b=>unfold RepD at h';subst h';simp[eqV,eqD]
theorem b1u {x:V}{d:D}(h:RepD K H x d)(f:q0a d=true):∀ {vs:List V} {ds:List D},RepDs K H vs ds->ds.all q0a=true->vs.all o0a=true/\inV x vs=inD d ds
 | [],[],_,_=>⟨rfl,rfl⟩
 | v::vs,e::ds,hr,fa=>by
  unfold RepDs at hr
  rw[List.all_cons,Bool.and_eq_true]at fa
  obtain⟨q1,q2⟩:=b1u h f hr.2 fa.2
  refine⟨by rw[List.all_cons,p0z hr.1 fa.1,q1];rfl,?_⟩
  unfold inV inD at *
  rw[List.any_cons,List.any_cons,q2,j1q hr.1 h fa.1 f]
 | [],d::ds,h,_=>by unfold RepDs at h;exact h.elim
 | v::vs,[],h,_=>by unfold RepDs at h;exact h.elim
theorem b1c (neg:Bool):OpOk K (rIn K neg) (gIn neg):=by
 intro F σ ρ H x y r1 r2 q Q a h1 h2 h b
 unfold gIn at h
 split at h
 ·rename_i d ds e1 e2
  obtain⟨⟨f1,f2⟩,h⟩:=h
  have rx:=f0a a h1 e1
  obtain⟨l,vs,rfl,sq,rd⟩:=c0m a h2 e2
  obtain⟨q1,q2⟩:=b1u rx f1 (rd.same c0e) f2
  refine⟨l,vs,rfl,.inl sq,p0z rx f1,q1,?_⟩
  rw[q2]
  exact b.bl a h
 ·rename_i d ds e1 e2
  obtain⟨⟨f1,f2⟩,h⟩:=h
  have rx:=f0a a h1 e1
  obtain⟨l,vs,rfl,sq,rd,_⟩:=i0d a h2 e2
  obtain⟨q1,q2⟩:=b1u rx f1 (rd.same c0e) f2
  refine⟨l,vs,rfl,.inr sq,p0z rx f1,q1,?_⟩
  rw[q2]
  exact b.bl a h
 ·exact h.elim
end
theorem f0y {c:En->Prop}{g:AG}{b:AS}{e:t0e}(I:Nat->En->Prop){ds:List D}(hc:∀k ρ,k<=ds.length->I k ρ->c ρ)
  (hs:∀(k:Nat) d ρ (N:En->Prop),ds[k]? = some d->I k ρ->(∀ ρ',I (k+1) ρ'->N ρ')->g d ρ fun ρ1=>b {nx:=N,ct:=N,bk:=e.nx,rt:=e.rt} ρ1) (hd:∀ ρ,I ds.length ρ->e.nx ρ):∀ ρ,I 0 ρ->forA c g b e ds ρ:=by
 have go:∀(es:List D) (k:Nat),ds.drop k=es->k<=ds.length->∀ ρ,I k ρ->forA c g b e es ρ:=by
  intro es
  induction es with
  | nil =>
   intro k h hk ρ i
   have:ds.length<=k:=List.drop_eq_nil_iff.mp h
   have:k=ds.length:=by omega
   subst this
   unfold forA
   exact⟨hc _ ρ (Nat.le_refl _) i,hd ρ i⟩
  | cons d es ih =>
   intro k h hk ρ i
   have lt:k<ds.length:=by
    rcases Nat.lt_or_ge k ds.length with q | q
    ·exact q
    ·rw[List.drop_eq_nil_of_le q]at h;cases h
   rw[List.drop_eq_getElem_cons lt]at h
   injection h with h1 h2
   unfold forA
   exact⟨hc k ρ hk i,hs k d ρ _ (by rw[<- h1];exact List.getElem?_eq_getElem lt) i (fun ρ' i'=>ih (k+1) h2 lt ρ' i')⟩
 exact go ds 0 rfl (Nat.zero_le _)
theorem f0s {n:Nat}{js:List Nat}{c:En->Prop}{g:AG}{tc:AT}{te:AE}{q:List D->En->Prop}(I:Nat->List D->En->Prop){ds:List D}(hc:∀k acc ρ,k<=ds.length->I k acc ρ->c ρ)
  (hs:∀(k:Nat) d acc ρ (N:List D->En->Prop),ds[k]? = some d->I k acc ρ->(∀acc' ρ',I (k+1) acc' ρ'->N acc' ρ') ->
   g d (blkE n js ρ) fun ρ1=>tc ρ1 fun b ρ2=>if b=true then te ρ2 fun r ρ3=>sto [r.frz] ρ3 fun es ρ4=>N (acc++es) (back ρ (js.map R.o) (ρ4.drop n))else N acc (back ρ (js.map R.o) (ρ2.drop n)))
  (hd:∀acc ρ,I ds.length acc ρ->q acc ρ):∀ ρ,I 0 [] ρ->j0c n js c g tc te q ds [] ρ:=by
 have go:∀(es:List D) (k:Nat),ds.drop k=es->k<=ds.length->∀acc ρ,I k acc ρ->j0c n js c g tc te q es acc ρ:=by
  intro es
  induction es with
  | nil =>
   intro k h hk acc ρ i
   have:ds.length<=k:=List.drop_eq_nil_iff.mp h
   have:k=ds.length:=by omega
   subst this
   unfold j0c
   exact⟨hc _ acc ρ (Nat.le_refl _) i,hd acc ρ i⟩
  | cons d es ih =>
   intro k h hk acc ρ i
   have lt:k<ds.length:=by
    rcases Nat.lt_or_ge k ds.length with q | q
    ·exact q
    ·rw[List.drop_eq_nil_of_le q]at h;cases h
   rw[List.drop_eq_getElem_cons lt]at h
   injection h with h1 h2
   unfold j0c
   exact⟨hc k acc ρ hk i,hs k d acc ρ (fun acc' ρ'=>j0c n js c g tc te q es acc' ρ') (by rw[<- h1];exact List.getElem?_eq_getElem lt) i (fun acc' ρ' i'=>ih (k+1) h2 lt acc' ρ' i')⟩
 exact go ds 0 rfl (Nat.zero_le _) []
theorem h1p {c:AT}{b:AS}{e:t0e}(I:En->Prop)(μ:En->Nat)
  (hs:∀ ρ (N:En->Prop),I ρ->(∀ ρ',I ρ'->μ ρ'<μ ρ->N ρ')->c ρ fun k ρ1=>if k=true then b {nx:=N,ct:=N,bk:=e.nx,rt:=e.rt} ρ1 else e.nx ρ1):∀ ρ,I ρ->h1i c b e ρ:=by
 have go:∀(n:Nat) ρ,I ρ->μ ρ<n->whA c b e n ρ:=by
  intro n
  induction n with
  | zero=>intro ρ _ h;omega
  | succ n ih=>intro ρ i h;exact hs ρ _ i fun ρ' i' lt=>ih ρ' i' (by omega)
 exact fun ρ i=>⟨μ ρ+1,go _ ρ i (by omega)⟩
section
variable {X:Cx}(K:PySem.W.Frag)
def l1n (K:PySem.W.Frag):R2:=fun x y H Q=>∃a b xs ys,x = .ref a/\y = .ref b/\SqL K H a xs/\SqL K H b ys/\xs.length+ys.length<=1000000/\∀p,H p=none->Q (.ref p) (upd H p (.lst (xs++ys)))
theorem i1s (hK:X.K=K:=by rfl):OpR X (binaryOp .Add) (l1n K):=by
 subst hK
 intro pins s σ H x y v u Q I rx ry h
 obtain⟨a,b,xs,ys,rfl,rfl,ha,hb,hz,q⟩:=h
 cases rx
 cases ry
 obtain⟨its,r1,p1,_⟩:=I.list ha
 obtain⟨its2,r2,p2,_⟩:=I.list hb
 have hz':its.length+its2.length<=sizeLine:=small (by rw[<- r1.length,<- r2.length];exact hz)
 obtain⟨⟨cls,dd,data,sl⟩,ho,hc,n,hd⟩:=p1.isList
 obtain⟨⟨cls2,dd2,data2,sl2⟩,ho2,hc2,n2,hd2⟩:=p2.isList
 simp only at hc hd hc2 hd2
 subst hc hd hc2 hd2
 refine concat_meets ⟨_,ho,rfl⟩ ⟨_,ho2,rfl⟩ noFill_list_add seq_list_add PySem.F.slot_list_add PySem.F.entry_list_add (PySem.F.args_list_add_2 _ _) (list_addW a b its.toArray its2.toArray n n2 dd dd2 sl sl2 (by rw[List.size_toArray,List.size_toArray];exact hz')) ⟨ho,ho2,?_⟩
 refine⟨.ref s.heap.objs.size,_,I.laid (t':=s.toks) (o:=.lst (xs++ys)) (fun b ob q=>Heap.get?_push_of_some _ q) (Nat.le_refl _) ?_,rfl,q _ (I.hok.fresh (Nat.le_refl _))⟩
 refine⟨by rw[List.length_append];exact small hz,_,0,r1.append r2,?_⟩
 rw[show(its++its2).toArray=its.toArray++its2.toArray by simp]
 exact Heap.get?_push_size _ rfl
variable {e st:Expr}{te:TE}{ts:TO}{pos p2:Pos}
end
section
variable {K:PySem.W.Frag}{ta te:TE}{a ae:AE}{ts:TA}{as:AA}
def gCat:R->R->AE:=fun r1 r2 ρ q=>match view ρ r1,view ρ r2 with
 | some (.lst ds),some (.lst es)=>ds.length+es.length<=1000000/\q (.f (ds++es)) ρ
 | _,_=>False
theorem i1t:OpOk K (l1n K) gCat:=by
 intro F σ ρ H x y r1 r2 q Q a h1 h2 h b
 unfold gCat at h
 split at h
 ·rename_i ds es e1 e2
  obtain⟨l,vs,rfl,sq,rd⟩:=c0m a h1 e1
  obtain⟨l2,vs2,rfl,sq2,rd2⟩:=c0m a h2 e2
  exact⟨l,l2,vs,vs2,rfl,rfl,sq,sq2,by rw[rd.length,rd2.length];exact h.1,fun p hp=>b.new a h.2 (rd.append rd2) hp⟩
 ·exact h.elim
def o1p (a:AE):AE:=fun ρ q=>a ρ fun r ρ1=>match r with
 | .d (.int j)=>(0<=j/\j<=1000000)/\q (.f (a0e (List.range j.toNat))) ρ1
 | _=>False
theorem d1y (ha:TEok K ta a):TEok K (tCB (fun xs H Q=>∃(p:Addr) (n:Nat),xs=[.ref p]/\H p=some (.rng 0 (n:Nat))/\n<=1000000/\∀l,H l=none->Q (.ref l) (upd H l (.lst (u0f (List.range n)))))
  (e1d (tCB (fun xs H Q=>∃j:Int,xs=[.int j]/\∀p,H p=none->Q (.ref p) (upd H p (.rng 0 j))) (e1d ta tNil)) tNil)) (o1p a):=by
 intro F σ ρ H q Q r h k
 refine ha F σ ρ H _ _ r h fun r1 ρ1 x H1 h1 rel1=>?_
 obtain⟨r',k1,i1⟩:=rel1.inF
 split at h1
 ·rename_i j
  obtain⟨⟨h0,h2⟩,h1⟩:=h1
  obtain⟨n,rfl⟩:=Int.eq_ofNat_of_zero_le h0
  refine⟨_,by rw[i1.int],fun p hp=>⟨p,n,rfl,b0l,by omega,fun l hl=>?_⟩⟩
  have rp:=r'.fresh (o:=.rng 0 (n:Nat)) hp
  refine((k.after k1).after (Kp.fresh hp)).new rp h1 ?_ hl
  rw[Int.toNat_natCast]
  exact i1k.mpr rfl
 ·exact h1.elim
end
abbrev nD (n:Nat):D:=.int (n:Nat)
abbrev nv (n:Nat):Sv:=.vl (.int (n:Nat))
def ownB (pr:Nat->Bool):En->Nat->Bool
 | [],_=>true
 | s::ss,i=>(!s.own||pr i)&&ownB pr ss (i+1)
theorem a1v {pr:Nat->Bool}:∀ {ss:En} {j:Nat},ownB pr ss j=true->∀i,(gt ss i).own=true->pr (j+i)=true
 | [],_,_,i,h=>by cases h
 | s::ss,j,hb,0,h=>by
  simp only[ownB,Bool.and_eq_true,Bool.or_eq_true,Bool.not_eq_true']at hb
  rcases hb.1 with q | q
  ·rw[show(gt (s::ss) 0)=s from rfl,q]at h;cases h
  ·exact q
 | s::ss,j,hb,i+1,h=>by
  simp only[ownB,Bool.and_eq_true]at hb
  have:=a1v hb.2 i h
  rwa [show j+1+i=j+(i+1)by omega]at this
theorem DefN.aok2 {P:Program}{w:World}{K:PySem.W.Frag}{mg:Str->Option Value}{base:Heap}{x:Str}{st:Stmt}{N ps:List Str}{k:Nat}{a:AS}(D:DefN K mg x st ps)(Sc:b0a N ps (a0i st))(pr:Nat->Bool)(us:En)(S:ASp)(hus:List.replicate (N.length - ps.length) Sv.un=us)
  (hbody:∀(f:Addr) (cdv:Value) (A:Around) (outer:List Env) (s:Shared) (H:Hp) (E:XK),Room k (A.deeper (envOfC x (a0i st) s.heap.objs.size f cdv)) ->
   ∃t,PSs (cxOf CX0 P w K mg base N x (a0i st) f cdv A outer s H E).nox (h0h st) t/\TSok K pr t a)
  (hS:∀ss q,S ss q->ss.length=ps.length/\ownB pr ss 0=true/\a ⟨fun ρ=>q (.d .non) (outS ss ρ),fun r ρ=>fin pr r ρ fun r' ρ'=>q r' (outS ss ρ'),fun _=>False,fun _=>False⟩ (ss++us)):OkN P w K mg base (k+1) x ps (spA K S) :=
 D.aok Sc pr S hbody fun ss q h=>⟨(hS ss q h).1,fun i hi=>by have:=a1v (hS ss q h).2.1 i hi;rwa [Nat.zero_add]at this,by rw[hus];exact(hS ss q h).2.2⟩
theorem l0q {lo:Int}{n k:Nat}{d:D}(h:(rngD lo n)[k]? = some d):k<n/\d = .int (lo+k):=by
 unfold rngD at h
 rw[List.getElem?_map]at h
 obtain⟨j,e1,e2⟩:=Option.map_eq_some_iff.mp h
 have lt:k<n:=by
  rcases Nat.lt_or_ge k n with q | q
  ·exact q
  ·rw[List.getElem?_eq_none (by simpa using q)]at e1;cases e1
 rw[List.getElem?_range lt]at e1
 cases e1
 exact⟨lt,e2.symm⟩
abbrev h1s (n:Nat)(js:List Nat)(g:AG)(tc:AT)(te:AE)(ρ:En)(d:D)(acc:List D)(N:List D->En->Prop):Prop :=
 g d (blkE n js ρ) fun ρ1=>tc ρ1 fun b ρ2=>if b=true then te ρ2 fun r ρ3=>sto [r.frz] ρ3 fun es ρ4=>N (acc++es) (back ρ (js.map R.o) (ρ4.drop n))else N acc (back ρ (js.map R.o) (ρ2.drop n))
section
variable {n:Nat}{js:List Nat}{c:En->Prop}{g:AG}{tc:AT}{te:AE}{q:List D->En->Prop}
theorem n0c {lo:Int}{m:Nat}(f:Nat->D){ρ:En}(hc:c ρ)(hs:∀k acc (N:List D->En->Prop),k<m->N (acc++[f k]) ρ->h1s n js g tc te ρ (.int (lo+k)) acc N)
  (hd:q ((List.range m).map f) ρ):j0c n js c g tc te q (rngD lo m) [] ρ:=by
 refine f0s (fun k acc ρ'=>k<=m/\ρ'=ρ/\acc=(List.range k).map f) (fun k acc ρ' _ h=>h.2.1▸hc) ?_ ?_ ρ ⟨Nat.zero_le _,rfl,rfl⟩
 ·rintro k d acc _ N hk ⟨_,rfl,rfl⟩ hN
  obtain⟨lt,rfl⟩:=l0q hk
  refine hs k _ N lt (hN _ _ ⟨lt,rfl,?_⟩)
  rw[List.range_succ,List.map_append];rfl
 ·rintro acc _ ⟨_,rfl,rfl⟩
  rw[e0c];exact hd
theorem c0q {α:Type}(h:α->D)(f:α->D){xs:List α}{ρ:En}(hc:c ρ)(hs:∀x acc (N:List D->En->Prop),x∈xs->N (acc++[f x]) ρ->h1s n js g tc te ρ (h x) acc N)
  (hd:q (xs.map f) ρ):j0c n js c g tc te q (xs.map h) [] ρ:=by
 refine f0s (fun k acc ρ'=>ρ'=ρ/\acc=(xs.take k).map f) (fun k acc ρ' _ h=>h.1▸hc) ?_ ?_ ρ ⟨rfl,rfl⟩
 ·rintro k d acc _ N hk ⟨rfl,rfl⟩ hN
  rw[List.getElem?_map]at hk
  obtain⟨x,e1,rfl⟩:=Option.map_eq_some_iff.mp hk
  refine hs x _ N (List.mem_of_getElem? e1) (hN _ _ ⟨rfl,?_⟩)
  rw[List.take_add_one,e1,Option.toList_some,List.map_append];rfl
 ·rintro acc _ ⟨rfl,rfl⟩
  rw[List.length_map,List.take_length];exact hd
end
section
variable {c:En->Prop}{g:AG}{b:AS}{e:t0e}
theorem k0b {lo:Int}{m:Nat}(I:Nat->En->Prop)(hc:∀k ρ,I k ρ->c ρ)(hs:∀(k:Nat) ρ (N:En->Prop),k<m->I k ρ->(∀ ρ',I (k+1) ρ'->N ρ')->g (.int (lo+k)) ρ fun ρ1=>b {nx:=N,ct:=N,bk:=e.nx,rt:=e.rt} ρ1)
  (hd:∀ ρ,I m ρ->e.nx ρ) {ρ:En} (h0:I 0 ρ):forA c g b e (rngD lo m) ρ:=by
 refine f0y I (fun k ρ _ h=>hc k ρ h) (fun k d ρ N hk h hN=>?_) (fun ρ h=>hd ρ (by rwa [e0c]at h)) ρ h0
 obtain⟨lt,rfl⟩:=l0q hk
 exact hs k ρ N lt h hN
theorem k0c {α:Type}(h:α->D){xs:List α}(I:Nat->En->Prop)(hc:∀k ρ,I k ρ->c ρ)(hs:∀(k:Nat) x ρ (N:En->Prop),xs[k]? = some x->I k ρ->(∀ ρ',I (k+1) ρ'->N ρ')->g (h x) ρ fun ρ1=>b {nx:=N,ct:=N,bk:=e.nx,rt:=e.rt} ρ1)
  (hd:∀ ρ,I xs.length ρ->e.nx ρ) {ρ:En} (h0:I 0 ρ):forA c g b e (xs.map h) ρ:=by
 refine f0y I (fun k ρ _ h=>hc k ρ h) (fun k d ρ N hk h' hN=>?_) (fun ρ h=>hd ρ (by rwa [List.length_map]at h)) ρ h0
 rw[List.getElem?_map]at hk
 obtain⟨x,e1,rfl⟩:=Option.map_eq_some_iff.mp hk
 exact hs k x ρ N e1 h' hN
end
theorem e0i {xs:List Nat}{i:Nat}(h:i<xs.length):atI (a0e xs) ((i:Nat):Int)=some (.int (xs.getD i 0:Nat)):=by
 refine d1f ?_
 unfold a0e
 rw[List.getElem?_map,List.getElem?_eq_getElem h]
 simp[h]
theorem b0u {r1:R}{ρ:En}{q:Ko}{xs:List Nat}{i:Nat}(hv:view ρ r1=some (.lst (a0e xs)))(h:i<xs.length)(hq:q (.d (.int (xs.getD i 0:Nat))) ρ):gIx r1 (.d (.int (i:Nat))) ρ q:=by
 unfold gIx
 rw[hv]
 simp only[e0i h]
 exact hq
theorem f0r {neg:Bool}{r1 r2:R}{ρ:En}{q:Ko}{d e:D}{b:Bool}(h1:view ρ r1=some d)(h2:view ρ r2=some e)(hd:d.depth<=60)(hb:eqD d e=b)(hq:q (.d (.bl (if neg then !b else b))) ρ):gEq neg r1 r2 ρ q:=by
 unfold gEq
 rw[h1,h2]
 subst hb
 exact⟨hd,hq⟩
theorem u0v (ns:List Int):depths (ns.map D.int)=0:=by
 induction ns with
 | nil=>simp[depths]
 | cons n ns ih=>rw[List.map_cons];unfold depths;rw[ih];simp[D.depth]
theorem e0n (ns:List Nat):(D.lst (a0e ns)).depth<=60:=by
 have:a0e ns=(ns.map fun(n:Nat)=>(n:Int)).map D.int:=by unfold a0e;simp
 rw[this];unfold D.depth;rw[u0v];decide
theorem h0x {r1:R}{ρ:En}{q:Ko}{ds:List D}{i:Int}{d:D}(hv:view ρ r1=some (.tup ds))(h:atI ds i=some d)(hq:q (.d d) ρ):gIx r1 (.d (.int i)) ρ q:=by
 unfold gIx
 rw[hv]
 simp only[h]
 exact hq
theorem c1d {r1:R}{ρ:En}{q:Ko}{ds:List D}{i:Int}{d:D}(hv:view ρ r1=some (.lst ds))(h:atI ds i=some d)(hq:q (.d d) ρ):gIx r1 (.d (.int i)) ρ q:=by
 unfold gIx
 rw[hv]
 simp only[h]
 exact hq
theorem c0t {r:R}{ρ:En}{q:Ko}{d:D}{n:String}{b:Bool}(hv:view ρ r=some d)(h:isaT (tyD d) n=some b)(hq:q (.d (.bl b)) ρ):gIsa [r,.t n] ρ q:=by
 unfold gIsa
 simp only[hv,h]
 exact hq
theorem c1h {r:R}{ρ:En}{q:Ko}{bs:List Bool}(hv:view ρ r=some (.lst (bs.map D.bl)))(hq:q (.d (.bl (bs.all id))) ρ):gAll [r] ρ q:=by
 unfold gAll
 simp only[hv,d1d]
 exact hq
theorem c1a {r:R}{ρ:En}{q:Ko}{ns:List Int}(hv:view ρ r=some (.lst (ns.map D.int)))(h1:∀n∈ns,0<=n)(h2:ns.sum<2^62)(hq:q (.d (.int ns.sum)) ρ):gSum [r] ρ q:=by
 unfold gSum
 simp only[hv,g0n]
 exact⟨h1,h2,hq⟩
def l0z (lo hi:Int):D->Bool
 | .int i=>decide (lo<=i)&&decide (i<=hi)
 | _=>false
def tupB (lo hi:Int):D->Bool
 | .tup ds=>decide (lo<=(ds.length:Int))&&decide ((ds.length:Int)<=hi)
 | _=>false
theorem lenD (rows:List Nat):((a0e rows).length:Int)=rows.length:=by rw[List.length_map]
theorem cutS {A B:AS}{e:t0e}{ρ:En}(P:En->Prop)(h1:∀N:En->Prop,(∀ ρ',P ρ'->N ρ')->A {e with nx:=N} ρ)(h2:∀ ρ',P ρ'->B e ρ'):aSeq A B e ρ:=h1 (B e) h2
theorem x0z {x:Int}{n:Nat}(h:x=(n:Nat)):Sv.vl (.int x)=nv n:=by rw[h]
theorem xorD (a b:Nat):D.int (Builtin.bitXor (a:Int) (b:Int))=nD (a ^^^ b):=by rw[y0w]
theorem minI (a b:Nat):(if(b:Int)<(a:Int)then(b:Int)else(a:Int))=((min a b:Nat):Int):=by split <;> omega
theorem maxI (a b:Nat):(if(b:Int) > (a:Int)then(b:Int)else(a:Int))=((max a b:Nat):Int):=by split <;> omega
theorem i1b (rows:List Nat)(a b:Nat):a0m rows (min a b,max a b)=rows++[rows.getD a 0 ^^^ rows.getD b 0]:=by
 unfold a0m
 rcases Nat.le_total a b with h | h
 ·simp only[Nat.min_eq_left h,Nat.max_eq_right h]
 ·simp only[Nat.min_eq_right h,Nat.max_eq_left h]
  rw[Nat.xor_comm]
def v0k:ASp:=fun ss q=>∃n most jm:Nat,ss=[.tp n,nv most,nv jm]/\n<=100000000000/\1<=most/\most<=12/\jm<=132/\∀(N:Net) (n':Nat),n0i N->N.m<=most->N.js.length<=jm->n'<=n+1000->q (.d (netD N)) [.tp n',nv most,nv jm]
def q0q:ASp:=fun ss q=>∃(d:D) (lo hi:Int),ss=[.vl d,.vl (.int lo),.vl (.int hi)]/\q (.d (.bl (l0z lo hi d))) [.vl d,.vl (.int lo),.vl (.int hi)]
def q0r:ASp:=fun ss q=>∃(d:D) (lo hi:Int),ss=[.vl d,.vl (.int lo),.vl (.int hi)]/\q (.d (.bl (tupB lo hi d))) [.vl d,.vl (.int lo),.vl (.int hi)]
theorem c0r (xs:List Nat)(x:Nat):a0e (xs++[x])=a0e xs++[nD x]:=by unfold a0e;rw[List.map_append];rfl
theorem o0l (rows:List Nat)(p:Nat×Nat):a0e (a0m rows p)=a0e rows++[nD (rows.getD p.1 0 ^^^ rows.getD p.2 0)]:=c0r _ _
def v0l:ASp:=fun ss q=>∃x y:Nat,ss=[nv x,nv y]/\q (.d (nD (x ^^^ y))) [nv x,nv y]
def SOwn:ASp:=fun ss q=>∃m:Nat,ss=[nv m]/\m<=1000/\q (.f (a0e (a0z m))) [nv m]
def SAll:ASp:=fun ss q=>∃(N:Net) (ws:List Nat),ss=[.vl (netD N),.vl (.lst (a0e ws))]/\okIx ws.length N.js/\ws.length+N.js.length<=1000/\q (.f (a0e (N.js.foldl a0m ws))) [.vl (netD N),.vl (.lst (a0e ws))]
def k0u:ASp:=fun ss q=>∃N:Net,ss=[.vl (netD N)]/\okIx N.m N.js/\N.m+N.js.length<=1000/\q (.f (a0e (b0g N))) [.vl (netD N)]
theorem c1t (xs:List D)(k:Nat):cutD xs none (some ((k:Nat):Int))=xs.take k:=by
 unfold cutD
 have e0:HT.sIx xs.length 0 none=0:=rfl
 rw[e0,List.drop_zero,Nat.sub_zero,HT.sIx_nat]
 rcases Nat.le_total k xs.length with h | h
 ·rw[Nat.min_eq_left h]
 ·rw[Nat.min_eq_right h,List.take_of_length_le (Nat.le_refl _),List.take_of_length_le h]
def q0p:ASp:=fun ss q=>∃a b:Nat,ss=[nv a,nv b]/\q (.d (L2.d0r (min a b,max a b))) [nv a,nv b]
theorem r0p:∀ {js:List (Nat×Nat)} {n:Nat} (k:Nat),okIx n js->okIx n (js.take k)
 | [],n,k,_=>by simp[okIx]
 | p::r,n,0,_=>trivial
 | p::r,n,k+1,h=>⟨h.1,h.2.1,r0p k h.2.2⟩
theorem a0k (xs:List Nat):(a0e xs).length=xs.length:=by rw[List.length_map]
end L2
namespace HT
open PySem PySem.Spec PyProof.Rows
theorem tup_whole {prog:Program}{w:World}{A:Around}{E:Value->Shared->Prop}{s:Shared}{t sl:Addr}{items:Array Value}{vl vu:Value}{lo hi:Option Int}{Q:Value->Shared->Prop}(ht:IsTup s.heap t items)(hs:s.heap.IsSliceOf sl vl vu .none)(pl:IsPart vl lo)(pu:IsPart vu hi)
  (hw:sIx items.size 0 lo=0/\sIx items.size items.size hi=items.size) (h:Q (.ref t) s):wpAny (model prog w) A (getItem (.ref t) (.ref sl)) Q E s:=by
 obtain⟨os,hos,hcs,hds⟩:=id hs
 have hTs:s.TypeIs (.ref sl) "slice" := ⟨os,hos,hcs⟩
 unfold getItem
 try with_reducible refine wpAny_holding ?_
 first | refine wpAny_bind (wpAny_pure ?_) | skip
 refine wpAny_bind (wpAny_sequenceKey ht.typeIs (by decide) ?_)
 refine wpAny_bind (wpAny_callSpecial?_slot (name:=Str.ofString "__getitem__") ht.typeIs PyProof.Rows.slot_tuple_getitem
  (wpAny_call_entry PyProof.Rows.slot_tuple_getitem ht.typeIs entry_tuple_getitem ?_ (args_tuple_getitem _ _)))
 show wpAny _ _ (Builtin.Tuple.tupleItemsOf (.ref t)>>=_) _ _ s
 refine wpAny_bind (tupleItemsOf_ ht ?_)
 refine wpAny_bind (wpAny_typeOf hTs ?_)
 rw[if_pos (by decide)]
 refine wpAny_bind (h0j hs pl pu ?_)
 have yes:(((sIx items.size 0 lo:Nat):Int)==0&&(1:Int)==1&&(sIx items.size items.size hi - sIx items.size 0 lo)==items.size)=true:=by
  rw[hw.1,hw.2];simp
 show wpAny _ _ (if(((sIx items.size 0 lo:Nat):Int)==0&&(1:Int)==1&&(sIx items.size items.size hi - sIx items.size 0 lo)==items.size)=true then _ else _) _ _ s
 rw[if_pos yes]
 have hex:∀ {R:Bool->Shared->Prop} {E':Value->Shared->Prop} {A'},R true s->wpAny (model prog w) A' (Builtin.Tuple.tupleIsExact (.ref t)) R E' s:=fun hR=>by
  unfold Builtin.Tuple.tupleIsExact
  exact wpAny_bind (wpAny_typeOf ht.typeIs (wpAny_pure hR))
 refine wpAny_bind (hex ?_)
 rw[if_pos rfl]
 first
  | exact wpAny_bind (wpAny_rule (wpAny_bind (wpAny_pure (wpAny_pure ⟨_,rfl,wpAny_pure h⟩))))
  | exact wpAny_bind (wpAny_rule (wpAny_pure ⟨_,rfl,wpAny_pure h⟩))
  | exact wpAny_bind (wpAny_rule (wpAny_bind (wpAny_pure ⟨_,rfl,wpAny_pure h⟩)))
  | exact wpAny_rule (wpAny_bind (wpAny_pure ⟨_,rfl,wpAny_pure h⟩))
end HT
namespace L2
open PySem PySem.Spec PyProof.Rows
section
variable {X:Cx}(K:PySem.W.Frag)
def l1l (K:PySem.W.Frag):V->Option Int->Option Int->Hp->VK->Prop:=fun x lo hi H Q=>∃a xs,x = .ref a/\SqT K H a xs /\
 ((HT.sIx xs.length 0 lo=0/\HT.sIx xs.length xs.length hi=xs.length)->Q (.ref a) H)/\(¬(HT.sIx xs.length 0 lo=0/\HT.sIx xs.length xs.length hi=xs.length)->∀p,H p=none->Q (.ref p) (upd H p (.tup (cutV xs lo hi))))
theorem i1g (hK:X.K=K:=by rfl):SlR X (l1l K):=by
 subst hK
 intro pins s σ H x v vl vu lo hi sl Q I rx hs pl pu h
 obtain⟨a,xs,rfl,hx,q1,q2⟩:=h
 by_cases hw:HT.sIx xs.length 0 lo=0/\HT.sIx xs.length xs.length hi=xs.length
 ·cases rx
  obtain⟨its,r,ht,hz⟩:=I.tuple hx
  have hlen:its.toArray.size=xs.length:=by rw[List.size_toArray];exact r.length.symm
  refine⟨"tuple",_,PyProof.Rows.slot_tuple_getitem.lookup,ht.typeIs,?_⟩
  exact HT.tup_whole ht hs pl pu (by rw[hlen];exact hw) ⟨.ref a,H,I,rfl,q1 hw⟩
 ·exact l1d pins s σ H (.ref a) v vl vu lo hi sl Q I rx hs pl pu ⟨a,xs,rfl,hx,hw,q2 hw⟩
end
section
variable {K:PySem.W.Frag}{ta:TE}{a:AE}
def aSlT (a:AE)(l u:AO):AE:=fun ρ q=>a ρ fun r ρ1=>l ρ1 fun lo ρ2=>u ρ2 fun hi ρ3=>match view ρ3 r.frz with
 | some (.tup ds)=>q (.d (.tup (cutD ds lo hi))) ρ3
 | _=>False
theorem f1q {ds:List D}{lo hi:Option Int}(h:HT.sIx ds.length 0 lo=0/\HT.sIx ds.length ds.length hi=ds.length):cutD ds lo hi=ds:=by
 unfold cutD
 rw[h.1,h.2];simp
theorem h1u {tl th:TO}{al au:AO}(ha:TEok K ta a)(hl:TOok K tl al)(hh:TOok K th au):TEok K (tSl (l1l K) ta tl th) (aSlT a al au):=by
 intro F σ ρ H q Q r h k
 refine ha F σ ρ H _ _ r h fun r1 ρ1 x H1 h1 rel1=>?_
 obtain⟨r',k1,i1⟩:=rel1.inF
 refine hl F σ ρ1 H1 _ _ r' h1 fun lo ρ2 H2 h2 r2 k2=>?_
 refine hh F σ ρ2 H2 _ _ r2 h2 fun hi ρ3 H3 h3 r3 k3=>?_
 have kk:=((k.after k1).after k2).after k3
 split at h3
 ·rename_i ds e
  obtain⟨p,vs,rfl,sq,rd,sv⟩:=i0d r3 ((i1.keep k2).keep k3) e
  refine⟨p,vs,rfl,sq,fun z=>?_,fun _ p' hp=>kk.newT r3 h3 (j1u rd) hp⟩
  refine kk.dat r3 h3 ?_
  rw[rd.length]at z
  rw[f1q z]
  unfold RepD
  exact⟨p,vs,rfl,sv,rd⟩
 ·exact h3.elim
end
section
variable {prog:Program}{w:World}{K0:Type} [DecidableEq K0]{knd:KeyKind prog w K0}{A:Around}{E:Value->Shared->Prop}{s:Shared}
theorem x0q {d:Addr}{kvs:List (K0×Value)}{k:K0}{key dv:Value}{Q:Value->Shared->Prop}(hkey:knd.is k key=true)(hm:s.heap.DictOf knd d kvs)(hz:kvs.length<=sizeLine)
  (old:∀v,valueAt kvs k=some v->Q v {s with toks:=s.toks+1})
  (new:valueAt kvs k=none->∀h',h'.DictOf knd d (stored kvs k dv)->Heap.SameBut d s.heap h'->Q dv {s with heap:=h',toks:=s.toks+1}):wpAny (model prog w) A (dictSetDefault d key dv) Q E s:=by
 have hv:=hm.mapOf
 obtain⟨o,es,ep,ho,hc,hd,hk,hp,hn⟩:=hm
 have hes:es.size<=sizeLine:=by
  have e1:=hp.length
  have e2:es.toList.length=es.size:=by simp
  omega
 have hidx:(es.findIdx? fun e=>knd.is k e.key)=kvs.findIdx? fun kv=>decide (kv.1=k):=by
  rw[<- hp.findIdx k];obtain⟨l⟩:=es;simp
 have hf:findBy knd.is es k=valueAt kvs k:=by
  rw[<- hp.find k]
  obtain⟨l⟩:=es
  simp[findBy]
 unfold dictSetDefault
 try with_reducible refine wpAny_holding ?_
 refine wpAny_bind (knd.pyHash hkey ?_)
 refine wpAny_bind (wpAny_dictFind_of (s:={s with toks:=s.toks+1}) hkey ho hd hk ?_)
 cases hi:es.findIdx? fun e=>knd.is k e.key with
 | some i =>
  have hfk:valueAt kvs k=(es[i]?).map (·.val):=by rw[<- hf,findBy_of_findIdx?,hi]
  refine wpAny_bind (wpAny_dictEntries (s:={s with toks:=s.toks+1}) ho hd ?_)
  cases he:es[i]? with
  | none =>
   exfalso
   have lt:i<es.size:=(Array.findIdx?_eq_some_iff_findIdx_eq.mp hi).1
   rw[Array.getElem?_eq_getElem lt]at he
   cases he
  | some e =>
   rw[he]at hfk
   exact wpAny_bind (wpAny_rule (wpAny_pure (old e.val hfk)))
 | none =>
  have hfk:valueAt kvs k=none:=by rw[<- hf,findBy_of_findIdx?,hi]
  have hnot:k∉kvs.map (·.1):=not_mem_of_findIdx_none (hidx▸hi)
  have hany:¬(kvs.any fun kv=>decide (kv.1=k))=true:=by
   rw[List.any_eq_true];rintro⟨kv,hkv,he⟩
   exact hnot (List.mem_map.mpr ⟨kv,hkv,of_decide_eq_true he⟩)
  refine wpAny_bind (wpAny_rule (wpAny_bind (wpAny_updateDictKeys (hz:=hes) (s:={s with toks:=s.toks+1}) ho hd (wpAny_pure (new hfk _ ⟨_,_,ep+1,Heap.get?_update_self _ ho (Obj.isFreed_of_dict (Obj.data_mapDictKeys hd _)),hc.mapDictKeys _,Obj.data_mapDictKeys hd _,hk.push hkey _,?_,?_⟩ (Heap.SameBut.update ..))))))
  ·rw[stored,if_neg hany]
   have:=hp.append hkey (knd.hash k) dv
   obtain⟨l⟩:=es
   simpa using this
  ·rw[stored,if_neg hany,List.map_append,List.nodup_append]
   refine⟨hn,by simp,fun a ha b hb e=>?_⟩
   simp only[List.map_cons,List.map_nil,List.mem_singleton]at hb
   subst hb
   exact hnot (e▸ha)
end
section
variable {X:Cx}{pins:List (Addr×Obj)}{σ:St}{H:Hp}{s:Shared}{A:Around}{E:Value->Shared->Prop}
theorem n1d {a:Addr}{kvs:List (Key×V)}{k:Key}{v:V}{u r:Value}{Q:Value->Shared->Prop}(I:Inv X pins σ H s)(e:H a=some (.dK kvs))(hl:kvs.length<sizeLine)(ry:RelV (kV k) u)(rv:RelV v r)
  (old:∀x w' s',valV kvs k=some x->Inv X pins σ H s'->RelV x w'->Q w' s') (new:valV kvs k=none->∀s',Inv X pins σ (upd H a (.dK (putK kvs k v))) s'->Q r s'):wpAny (model X.prog X.w) A (call (.builtin "dict.setdefault") [.ref a,u,r]) Q E s:=by
 obtain⟨z,hd,vs,rel,dd⟩:=j1t I.hok e
 have hz:vs.length<=sizeLine:=by rw[<- rel.length];exact z
 have hl':(putK kvs k v).length<=sizeLine:=by have:=h0e kvs k v;omega
 have mt:MeetsIn X.prog X.w (Builtin.«dict.setdefault» ⟨[.ref a,u,r],[]⟩) (fun _ R s1=>s1=s/\(∀x,valueAt vs k=some x->R (.ok (.ret x)) {s with toks:=s.toks+1})/\(valueAt vs k=none->∀h',h'.DictOf (c0j X.prog X.w) a (stored vs k r)->Heap.SameBut a s.heap h'->R (.ok (.ret r)) {s with heap:=h',toks:=s.toks+1})) :=
  .of_wp fun A R s1 ⟨e1,h1,h2⟩=>by
   subst e1
   unfold Builtin.«dict.setdefault»
   refine wpAny_bind ?_
   unfold Builtin.Dict.keyAndDefault
   refine wpAny_bind (wpAny_notOrdered_dict dd.typeIs ?_)
   show wpAny _ _ (pure (a,u,some r)) _ _ _
   refine wpAny_pure ?_
   show wpAny _ _ (if(a==sysModules)=true then _ else(dictSetDefault a u r>>=_)) _ _ _
   rw[if_neg (by rw[hd];exact Bool.false_ne_true)]
   exact wpAny_bind (x0q (u0m ry) dd hz (fun x hx=>wpAny_pure ⟨x,rfl,h1 x hx⟩) fun hn h' hm' hs'=>wpAny_pure ⟨r,rfl,h2 hn h' hm' hs'⟩)
 have rl:=rel.val k
 refine call_meetsIn PySem.F.slot_dict_setdefault dd.typeIs PySem.F.entry_dict_setdefault (PySem.F.args_dict_setdefault_3 _ _ _) mt ⟨rfl,fun x hx=>?_,fun hx h' dd' hs=>?_⟩
 ·rw[hx]at rl
  cases hv:valV kvs k with
  | none=>rw[hv]at rl;exact rl.elim
  | some y=>rw[hv]at rl;exact old y _ _ hv (I.tok _) rl
 ·rw[hx]at rl
  cases hv:valV kvs k with
  | some y=>rw[hv]at rl;exact rl.elim
  | none =>
   refine new hv _ ?_
   have he:∃q,h'.get? a=some q:=let ⟨q,_,_,hq,_⟩:=dd';⟨q,hq⟩
   exact q0f I (by rw[e];exact True.intro) hs he (x0a hl' hd (rel.put k rv) dd')
def g1j (td ty tx:TE):TE:=fun σ H Q=>td σ H fun x H1=>∃a,x = .ref a/\IsD H1 a/\ty σ H1 fun y H2=>tx σ H2 fun z H3=>∃kvs k,y=kV k/\H3 a=some (.dK kvs)/\kvs.length<sizeLine /\
 (∀v,valV kvs k=some v->Q v H3)/\(valV kvs k=none->Q z (upd H3 a (.dK (putK kvs k z))))
theorem e1p {o e f:Expr}{apos cpos:Pos}{td ty tx:TE}(ho:PE X o td)(he:PE X e ty)(hf:PE X f tx)(m:M2 X o "setdefault" apos e f cpos):PE X (.Call (.Attribute o "setdefault" apos) [e,f] [] cpos) (g1j td ty tx):=by
 intro pins s σ H Q I h
 refine wpAny_Call_method m.base m.few m.line PySem.F.plainAttrs_dict PySem.F.slot_dict_setdefault PySem.F.type_dict_setdefault (thn (ho pins s σ H _ I h) fun u s1 ⟨x,H1,I1,rx,a,ex,d,q1⟩=>?_)
 subst ex
 obtain rfl:u=Value.ref a:=rx
 obtain⟨t1,t2,_⟩:=m1o I1 d
 refine⟨t1,t2,?_⟩
 rw[m.trees]
 refine Calls.callWith_builtin rfl (Calls.evalArgs_plain (Calls.spliced_cons (thn (he pins s1 σ H1 _ I1 q1) fun iv s2 ⟨y,H2,I2,ry,q2⟩ =>
  Calls.spliced_cons (thn (hf pins s2 σ H2 _ I2 q2) fun fv s3 ⟨z,H3,I3,rz,kvs,k,ey,hk,hl,qo,qn⟩=>Calls.spliced_nil ?_))))
 subst ey
 exact n1d I3 hk hl ry rz (fun x w' s' hv I' rx=>⟨x,H3,I',rx,qo x hv⟩) fun hn s' I'=>⟨z,_,I',rz,qn hn⟩
end
def dKey:D->Option Key
 | .int i=>some (.inl i)
 | .str x=>some (.inr x)
 | _=>none
section
variable {κ:Type} [DecidableEq κ]
def valD (kvs:List (κ×D))(k:κ):Option D:=(kvs.find? fun kv=>decide (kv.1=k)).map (·.2)
def putD (kvs:List (κ×D))(k:κ)(d:D):List (κ×D) :=
 if(kvs.any fun kv=>decide (kv.1=k))=true then kvs.map (fun kv=>if kv.1=k then(kv.1,d)else kv)else kvs++[(k,d)]
variable {K:PySem.W.Frag}{H:Hp}
theorem t0g (k:κ):∀ {ks:List (κ×V)} {kvs:List (κ×D)},ks.map Prod.fst=kvs.map Prod.fst->RepDs K H (ks.map Prod.snd) (kvs.map Prod.snd) ->
  (∀d,valD kvs k=some d->∃v,valV ks k=some v/\RepD K H v d)/\(valD kvs k=none->valV ks k=none)
 | [],[],_,_=>⟨(fun _ h=>nomatch h),fun _=>rfl⟩
 | p::ks,q::kvs,e,r=>by
  simp only[List.map_cons,List.cons.injEq]at e
  rw[List.map_cons,List.map_cons]at r
  unfold RepDs at r
  obtain⟨i1,i2⟩:=t0g k e.2 r.2
  by_cases z:q.1=k
  ·have e1:valD (q::kvs) k=some q.2:=by simp[valD,List.find?_cons,z]
   rw[e1,l0l (e.1.trans z)]
   exact⟨fun d h=>⟨_,rfl,by cases h;exact r.1⟩,fun h=>by cases h⟩
  ·have e1:valD (q::kvs) k=valD kvs k:=by simp[valD,List.find?_cons,z]
   rw[e1,l0m (fun h=>z (e.1▸h))]
   exact⟨i1,i2⟩
 | [],q::kvs,e,_=>by simp at e
 | p::ks,[],e,_=>by simp at e
theorem k1b (k:κ){ks:List (κ×V)}{kvs:List (κ×D)}(e:ks.map Prod.fst=kvs.map Prod.fst):(ks.any fun kv=>decide (kv.1=k))=kvs.any fun kv=>decide (kv.1=k):=by
 have h1:(ks.any fun kv=>decide (kv.1=k))=(ks.map Prod.fst).any fun x=>decide (x=k):=by rw[List.any_map];rfl
 have h2:(kvs.any fun kv=>decide (kv.1=k))=(kvs.map Prod.fst).any fun x=>decide (x=k):=by rw[List.any_map];rfl
 rw[h1,h2,e]
theorem w0b (k:κ){v:V}{d:D}(rv:RepD K H v d):∀ {ks:List (κ×V)} {kvs:List (κ×D)},ks.map Prod.fst=kvs.map Prod.fst->RepDs K H (ks.map Prod.snd) (kvs.map Prod.snd) ->
  (ks.map fun kv=>if kv.1=k then(kv.1,v)else kv).map Prod.fst=(kvs.map fun kv=>if kv.1=k then(kv.1,d)else kv).map Prod.fst/\RepDs K H ((ks.map fun kv=>if kv.1=k then(kv.1,v)else kv).map Prod.snd) ((kvs.map fun kv=>if kv.1=k then(kv.1,d)else kv).map Prod.snd)
 | [],[],_,_=>⟨rfl,.nil⟩
 | p::ks,q::kvs,e,r=>by
  simp only[List.map_cons,List.cons.injEq]at e
  rw[List.map_cons,List.map_cons]at r
  unfold RepDs at r
  obtain⟨i1,i2⟩:=w0b k rv e.2 r.2
  simp only[List.map_cons,e.1]
  by_cases z:q.1=k
  ·simp only[z,if_true]
   exact⟨by rw[i1],.cons rv i2⟩
  ·simp only[z,if_false]
   exact⟨by rw[i1,e.1],.cons r.1 i2⟩
 | [],q::kvs,e,_=>by simp at e
 | p::ks,[],e,_=>by simp at e
theorem t0r (k:κ){v:V}{d:D}(rv:RepD K H v d){ks:List (κ×V)}{kvs:List (κ×D)}(e:ks.map Prod.fst=kvs.map Prod.fst)(r:RepDs K H (ks.map Prod.snd) (kvs.map Prod.snd)) :
  (putK ks k v).map Prod.fst=(putD kvs k d).map Prod.fst/\RepDs K H ((putK ks k v).map Prod.snd) ((putD kvs k d).map Prod.snd):=by
 unfold putK putD
 rw[k1b k e]
 split
 ·exact w0b k rv e r
 ·refine⟨by rw[List.map_append,List.map_append,e];rfl,?_⟩
  rw[List.map_append,List.map_append]
  exact r.append (.one rv)
theorem p0q {ks:List (κ×V)}{kvs:List (κ×D)}(e:ks.map Prod.fst=kvs.map Prod.fst):ks.length=kvs.length:=by
 have:=congrArg List.length e
 simpa using this
end
section
variable {K:PySem.W.Frag}{F:Fr}{σ:St}{ρ ρ':En}{H H':Hp}{td ty tx:TE}{ad ay ax:AE}
theorem f1c {v:V}{d:D}{k:Key}(h:RepD K H v d)(e:dKey d=some k):v=kV k:=by
 cases d with
 | int i=>unfold RepD at h;injection e with e;subst e;exact h
 | str i=>unfold RepD at h;injection e with e;subst e;exact h
 | non=>cases e
 | bl _=>cases e
 | tup _=>cases e
 | lst _=>cases e
def aDNew:AE:=fun ρ q=>q (.n (.dk [])) ρ
theorem d1z:TEok K tDNewK aDNew:=fun F σ ρ H q Q r h k p hp=>k (.n (.dk [])) ρ _ _ h ⟨H,p,_,r,.refl,rfl,⟨p,[],rfl,b0l,rfl,.nil⟩,hp,rfl,rfl⟩
theorem f1o {i:Nat}{x:V}{kvs:List (Key×D)}(r:Rel K F σ ρ H)(ei:σ[i]? = some (some x))(hg:gt ρ i = .dk kvs):∃t ks,x = .ref t/\H t=some (.dK ks)/\ks.map Prod.fst=kvs.map Prod.fst/\RepDs K (hid H (hs F σ ρ)) (ks.map Prod.snd) (kvs.map Prod.snd):=by
 have s:=r.sl i
 rw[hg,ei]at s
 obtain⟨t,ks,e,h1,h2,h3⟩:=s
 injection e with e;injection e with e
 exact⟨t,ks,e,h1,h2,h3⟩
def aDIn (neg:Bool)(i a:AE):AE:=fun ρ q=>i ρ fun r ρ1=>a ρ1 fun r2 ρ2=>match r,r2 with
 | .d d,.o j=>(match gt ρ2 j,dKey d with
  | .dk kvs,some k=>q (.d (.bl (if neg then !(valD kvs k).isSome else(valD kvs k).isSome))) ρ2
  | _,_=>False)
 | _,_=>False
theorem y0g {kvs:List (Key×D)}{ks:List (Key×V)}{k:Key}(e1:ks.map Prod.fst=kvs.map Prod.fst)(e2:RepDs K H (ks.map Prod.snd) (kvs.map Prod.snd)):(valV ks k).isSome=(valD kvs k).isSome:=by
 obtain⟨a,b⟩:=t0g k e1 e2
 cases h:valD kvs k with
 | none=>rw[b h];rfl
 | some d=>obtain⟨v,e,_⟩:=a d h;rw[e];rfl
theorem z0g (hi:TEok K ty ay)(ha:TEok K td ad):TEok K (tDIn ty td) (aDIn false ay ad):=by
 intro F σ ρ H q Q r h k
 refine hi F σ ρ H _ _ r h fun r1 ρ1 y H1 h1 o1=>?_
 obtain⟨r1',k1,i1⟩:=o1.inF
 refine ha F σ ρ1 H1 _ _ r1' h1 fun r2 ρ2 x H2 h2 o2=>?_
 obtain⟨r2',k2,i2⟩:=o2.inF
 split at h2
 ·rename_i d j
  have ej:σ[j]? = some (some x):=i2
  split at h2
  ·rename_i kvs kk hg ek
   obtain⟨t,ks,rfl,ht,e1,e2⟩:=f1o r2' ej hg
   refine⟨t,valV ks kk,rfl,?_,?_⟩
   ·rw[f1c i1 ek];exact DGet.k ht
   ·rw[y0g e1 e2]
    exact((k.after k1).after k2).bl r2' h2
  ·exact h2.elim
 ·exact h2.elim
def o1s (x o i:AE):AS:=fun e ρ=>x ρ fun r ρ1=>sto [r.frz] ρ1 fun ds ρ2=>o ρ2 fun r2 ρ3=>match r2 with
 | .o j=>i ρ3 fun r3 ρ4=>(match r3,gt ρ4 j,ds with
  | .d kd,.dk kvs,[d]=>(match dKey kd with | some k=>kvs.length<=1000000/\e.nx (pt ρ4 j (.dk (putD kvs k d))) | none=>False)
  | _,_,_=>False)
 | _=>False
theorem v0y {pr:Nat->Bool}{tv:TE}{av:AE}(h:TEok K tv av)(ho:TEok K td ad)(hi:TEok K ty ay):TSok K pr (l1f td ty tv) (o1s av ad ay):=by
 intro F σ ρ H D e hp r ha k
 refine h F σ ρ H _ _ r ha fun r1 ρ1 v H1 h1 o=>?_
 obtain⟨r',k1,i1⟩:=o.inF
 obtain⟨ds,ρ2,h2,r2,k2,rd⟩:=j0h r' (.cons i1 .nil) h1
 refine ho F σ ρ2 H1 _ _ r2 h2 fun r3 ρ3 x H3 h3 o3=>?_
 obtain⟨r3',k3,i3⟩:=o3.inF
 split at h3
 ·rename_i j
  have ej:σ[j]? = some (some x):=i3
  refine hi F σ ρ3 H3 _ _ r3' h3 fun r4 ρ4 y H4 h4 o4=>?_
  obtain⟨r4',k4,i4⟩:=o4.inF
  split at h4
  ·rename_i kd kvs d hg
   split at h4
   ·rename_i kk ek
    obtain⟨t,ks,rfl,ht,e1,e2⟩:=f1o r4' ej hg
    unfold RepDs at rd
    have rd4:=(RepD.same rd.1 (k3.trans k4).vis)
    obtain⟨p1,p2⟩:=t0r kk rd4 e1 e2
    have hw:=r4'.write (i:=j) (l:=t) (o:=.dK (putK ks kk v)) (s:=.dk (putD kvs kk d)) (by rw[hg];rfl) ej rfl ⟨t,_,rfl,b0l,p1,p2⟩
    refine⟨t,_,rfl,?_,k.nx _ _ _ h4.2 hw.1⟩
    rw[f1c i4 ek]
    exact DPut.k ht (o0f (by rw[p0q e1];exact h4.1))
   ·exact h4.elim
  ·exact h4.elim
 ·exact h3.elim
@[irreducible] def c1c (kvs:List (Key×D))(kd d:D)(q:D->List (Key×D)->Prop):Prop:=match dKey kd with
 | some k=>kvs.length<=1000000/\(match valD kvs k with | some x=>q x kvs | none=>q d (putD kvs k d))
 | none=>False
theorem c1b {kvs:List (Key×D)}{kd d:D}{q:D->List (Key×D)->Prop}(h:c1c kvs kd d q):∃k,dKey kd=some k/\kvs.length<=1000000/\(∀x,valD kvs k=some x->q x kvs)/\(valD kvs k=none->q d (putD kvs k d)):=by
 unfold c1c at h
 split at h
 ·rename_i k e
  refine⟨k,e,h.1,fun x hx=>?_,fun hx=>?_⟩
  ·have:=h.2;rw[hx]at this;exact this
  ·have:=h.2;rw[hx]at this;exact this
 ·exact h.elim
theorem f1h {kvs:List (Key×D)}{kd d:D}{k:Key}{q:D->List (Key×D)->Prop}(e:dKey kd=some k)(hz:kvs.length<=1000000)(h1:∀x,valD kvs k=some x->q x kvs)(h2:valD kvs k=none->q d (putD kvs k d)):c1c kvs kd d q:=by
 unfold c1c
 simp only[e]
 refine⟨hz,?_⟩
 cases hv:valD kvs k with
 | none=>exact h2 hv
 | some x=>exact h1 x hv
def n1k (a i x:AE):AE:=fun ρ q=>a ρ fun r ρ1=>match r with
 | .o j=>(match gt ρ1 j with
  | .dk _=>i ρ1 fun r2 ρ2=>x ρ2 fun r3 ρ3=>(match r2,r3,gt ρ3 j with
   | .d kd,.d d,.dk kvs=>c1c kvs kd d fun z kvs'=>q (.d z) (pt ρ3 j (.dk kvs'))
   | _,_,_=>False)
  | _=>False)
 | _=>False
theorem l1o:∀ {ρ:En} {i:Nat} {s:Sv},gt ρ i=s->s.own=true->pt ρ i s=ρ
 | [],_,_,h,ho=>by cases h;cases ho
 | x::r,0,s,h,_=>by cases h;rfl
 | x::r,i+1,s,h,ho=>by show x::pt r i s=x::r;rw[l1o (ρ:=r) h ho]
theorem z0f (ha:TEok K td ad)(hi:TEok K ty ay)(hx:TEok K tx ax):TEok K (g1j td ty tx) (n1k ad ay ax):=by
 intro F σ ρ H q Q r h k
 refine ha F σ ρ H _ _ r h fun r1 ρ1 x H1 h1 o1=>?_
 obtain⟨r1',k1,i1⟩:=o1.inF
 split at h1
 ·rename_i j
  have ej:σ[j]? = some (some x):=i1
  split at h1
  ·rename_i kvs0 hg0
   obtain⟨t,ks0,rfl,ht0,_,_⟩:=f1o r1' ej hg0
   refine⟨t,rfl,.inl ⟨ks0,.inl ht0⟩,?_⟩
   refine hi F σ ρ1 H1 _ _ r1' h1 fun r2 ρ2 y H2 h2 o2=>?_
   obtain⟨r2',k2,i2⟩:=o2.inF
   refine hx F σ ρ2 H2 _ _ r2' h2 fun r3 ρ3 z H3 h3 o3=>?_
   obtain⟨r3',k3,i3⟩:=o3.inF
   have kk:=((k.after k1).after k2).after k3
   split at h3
   ·rename_i kd d kvs hg
    obtain⟨key,ek,hz,h4,h5⟩:=c1b h3
    obtain⟨t',ks,et,ht,e1,e2⟩:=f1o r3' ej hg
    cases et
    obtain⟨v1,v2⟩:=t0g key e1 e2
    refine⟨ks,key,f1c i2 ek,ht,o0f (by rw[p0q e1];exact hz),fun v hv=>?_,fun hv=>?_⟩
    ·cases hd:valD kvs key with
     | none=>rw[v2 hd]at hv;cases hv
     | some x =>
      obtain⟨v',ev,rv⟩:=v1 x hd
      rw[ev]at hv;cases hv
      have:=h4 x hd
      rw[l1o hg rfl]at this
      exact kk.dat r3' this rv
    ·cases hd:valD kvs key with
     | some x=>obtain⟨v',ev,_⟩:=v1 x hd;rw[ev]at hv;cases hv
     | none =>
      obtain⟨p1,p2⟩:=t0r key i3 e1 e2
      have hw:=r3'.write (i:=j) (l:=t) (o:=.dK (putK ks key z)) (s:=.dk (putD kvs key d)) (by rw[hg];rfl) ej rfl ⟨t,_,rfl,b0l,p1,p2⟩
      exact(kk.after hw.2).dat hw.1 (h5 hd) (RepD.same i3 hw.2.vis)
   ·exact h3.elim
  ·exact h1.elim
 ·exact h1.elim
end
section
variable {X:Cx}{pins:List (Addr×Obj)}{σ:St}{H:Hp}{s:Shared}{h':Heap}
theorem Inv.turns {t':Nat}{ch:List Addr}(I:Inv X pins σ H s)(k:∀b o,b∉ch->s.heap.get? b=some o->h'.get? b=some o)(hf:∀b∈ch,FpOk X pins H b):Inv X pins σ H {s with heap:=h',toks:=t'}:=by
 have nit:∀b u,H b=some u->b∉ch:=fun b u e z=>by rw[(hf b z).1]at e;cases e
 refine I.step (g':=s.gens) (d':=s.drawn) (ch:=ch) (fun b hb=>?_) (fun b o _ _ hc e _=>k b o hc e) (fun b o _ _ hc e _=>⟨o.slots,k b o hc e⟩) (fun _ _ _ _ n=>n)
  (fun b o hc e=>⟨o,k b o hc e⟩) (fun _ _ e=>e) (fun _ _ _ e=>e) (fun b ps e=>⟨#[],by rw[e];simp⟩) (fun m hm=>?_) (fun b u e=>?_) I.bare
 ·obtain⟨_,h2,_,h4,h5,h6⟩:=hf b hb
  exact⟨h4,h2,h5,h6⟩
 ·obtain⟨o,es,ep,ho,r⟩:=hm
  exact⟨o,es,ep,k _ o (fun z=>(hf _ z).2.1 rfl) ho,r⟩
 ·refine(I.hok b u e).stay (fun c v hc q=>k c v ?_ q) (fun _ q=>q) fun _ _ q=>q
  rcases hc with z | z
  ·rw[z];exact nit b u e
  ·exact nit c _ z
theorem Inv.trackO {p:Addr}{o:HO}(I:Inv X pins σ H s)(hf:FpOk X pins H p)(new:d0y X.prog X.w (upd H p o) s.heap p o):Inv X pins σ (upd H p o) s:=by
 have hn:=hf.1
 refine I.call' (ch:=[p]) rfl ⟨fun b u e _ _ _=>e,fun b u e _ _ _=>⟨u.slots,e⟩,fun b u e n hx=>?_,fun b u e _=>⟨u,e⟩,fun b xs e=>?_,fun b u v e=>?_,fun b ps e=>⟨#[],?_⟩⟩ (fun b u e=>?_) I.bare (fun b hb=>?_)
 ·rw[a0x (fun z=>hx (by simp[z]))];exact n
 ·rw[a0x (b0k e hn)];exact e
 ·rw[a0x (b0k e hn)];exact e
 ·rw[a0x (b0k e hn),e];simp
 ·by_cases hb:b=p
  ·subst hb;rw[b0l]at e;cases e;exact new
  ·rw[a0x hb]at e
   exact(I.hok b u e).stay (fun c v _ q=>q) (fun c q=>by rw[a0x (b0k q hn)];exact q) fun c xs q=>by rw[a0x (b0k q hn)];exact q
 ·rw[List.mem_singleton.mp hb]
  obtain⟨_,h2,_,h4,h5,h6⟩:=hf
  exact⟨h4,h2,h5,h6⟩
end
section
variable {K:PySem.W.Frag}{ts:TA}{as:AA}
def q0u (pin:Nat->Bool)(ρ:En):R->Option (List D×(En->Prop))
 | .d (.lst ds)=>some (ds,fun _=>True)
 | .o i=>(match gt ρ i with
  | .ow ds=>if pin i=true then some (ds,fun ρ2=>gt ρ2 i = .ow ds)else none
  | _=>none)
 | _=>none
theorem v0r {pin:Nat->Bool}{F:Fr}{σ:St}{ρ:En}{H:Hp}{v:V}{r:R}{ds:List D}{c:En->Prop}(a:Rel K F σ ρ H)(i:InF K F σ ρ H v r)(e:q0u pin ρ r=some (ds,c)) :
  ∃l vs,v = .ref l/\SqL K H l vs/\∀ σ2 ρ2 H2,Same (hid H (hs F σ ρ)) (hid H2 (hs F σ2 ρ2))->(∀i,SvOk K (hid H2 (hs F σ2 ρ2)) H2 σ2[i]? (gt ρ2 i))->(∀j a,pin j=true->σ[j]? = some (some (.ref a))->σ2[j]? = some (some (.ref a)))->c ρ2->∃vs2,SqL K H2 l vs2/\RepDs K (hid H2 (hs F σ2 ρ2)) vs2 ds:=by
 cases r with
 | n s=>cases e
 | t n=>cases e
 | x s=>cases e
 | d d =>
  cases d with
  | lst es =>
   simp only[q0u,Option.some.injEq,Prod.mk.injEq]at e
   obtain⟨rfl,rfl⟩:=e
   have rd:RepD K _ v (.lst es):=i
   unfold RepD at rd
   obtain⟨l,vs,rfl,sq,rr⟩:=rd
   exact⟨l,vs,rfl,c0e.seq (StL.sq sq),fun σ2 ρ2 H2 sm _ _ _=>⟨vs,c0e.seq (sm.seq (StL.sq sq)),rr.same sm⟩⟩
  | non=>cases e
  | bl _=>cases e
  | int _=>cases e
  | str _=>cases e
  | tup _=>cases e
 | o j =>
  have ej:σ[j]? = some (some v):=i
  unfold q0u at e
  cases hg:gt ρ j with
  | ow es =>
   simp only[hg]at e
   split at e
   ·rename_i hp
    simp only[Option.some.injEq,Prod.mk.injEq]at e
    obtain⟨rfl,rfl⟩:=e
    have s:=a.sl j
    rw[hg,ej]at s
    obtain⟨l,vs,e1,hl,rd⟩:=s
    injection e1 with e1;injection e1 with e1;subst e1
    refine⟨l,vs,rfl,SqL.of hl,fun σ2 ρ2 H2 sm sv pn hc=>?_⟩
    have s2:=sv j
    rw[hc,pn j l hp ej]at s2
    obtain⟨l',vs',e2,hl',rd'⟩:=s2
    injection e2 with e2;injection e2 with e2;injection e2 with e2;subst e2
    exact⟨vs',SqL.of hl',rd'⟩
   ·cases e
  | un=>simp[hg]at e
  | vl _=>simp[hg]at e
  | tp _=>simp[hg]at e
  | dk _=>simp[hg]at e
  | dt _=>simp[hg]at e
  | ex _ _=>simp[hg]at e
  | sc _=>simp[hg]at e
  | px _ _ _=>simp[hg]at e
  | xl _=>simp[hg]at e
end
section
variable {K:PySem.W.Frag}{ta te:TE}{a ae:AE}{ts:TA}{as:AA}
def o1w (a:AE):AE:=fun ρ q=>a ρ fun r ρ1=>match r with
 | .d (.int i)=>q (.d (.int (Builtin.Int.intBits i:Nat))) ρ1
 | _=>False
theorem e1a (ha:TEok K ta a):TEok K (tBM0 K "int" (fun x xs H Q=>∃i,x = .int i/\xs=[]/\Q (.int (Builtin.Int.intBits i:Nat)) H) ta) (o1w a):=by
 intro F σ ρ H q Q r h k
 refine ha F σ ρ H _ _ r h fun r1 ρ1 x H1 h1 o1=>?_
 obtain⟨r1',k1,i1⟩:=o1.inF
 split at h1
 ·rename_i i
  have ex:x = .int i:=i1.int
  subst ex
  exact⟨by first | rfl | exact .inl rfl | trivial | simp[tyV],i,rfl,rfl,(k.after k1).int r1' h1⟩
 ·exact h1.elim
end
def Ite (K:PySem.W.Frag)(l:Addr):It :=
 ⟨fun i H=>∃xs x,SqL K H l xs/\xs[i]? = some x,fun i H v H'=>∃p x,v = .ref p/\H p=none/\H'=upd H p (.tup [.int (i:Nat),x])/\∀xs,SqL K H l xs->xs[i]? = some x,
  fun i H=>∃xs,SqL K H l xs/\xs.length<=i⟩
theorem z0c {P:Program}{w:World}{K:PySem.W.Frag}{elts:List Expr}{x1}{tpos:Pos}{e it l:Addr}(ne:e≠it) :
  Turn P w K (.Tuple elts x1 tpos) (Ite K l) [e,it] e (fun i h=>(∃old,IsEnum h e it (i:Nat) old)/\h.IsListIter it l i) where
 mem:=by simp
 obj:=fun i h st b hb=>by
  obtain⟨⟨old,he⟩,⟨o1,e1,c1,d1⟩⟩:=st
  simp only[List.mem_cons,List.not_mem_nil,or_false]at hb
  rcases hb with rfl | rfl
  ·exact⟨_,he,fun v q=>by cases q⟩
  ·exact⟨o1,e1,fun v q=>by rw[d1]at q;cases q⟩
 keep:=fun i h h' st k=>by
  obtain⟨⟨old,he⟩,h1⟩:=st
  exact⟨⟨old,k e (by simp) _ he⟩,h1.at fun o q=>k it (by simp) o q⟩
 item:=by
  intro X hP hw hK hc i pins s σ H E I hf st hg
  subst hP hw hK
  obtain⟨xs,x,q1,hx⟩:=hg
  obtain⟨⟨old,he⟩,h1⟩:=st
  obtain⟨its,rv,p1,_⟩:=I.list q1
  obtain⟨u,hu,ru⟩:=rv.get hx
  refine wpAny_pyNext_enum_item he h1 p1.isList (x:=u) (by simpa using hu) ne fun h' a1 a2 a3 a4 hk=>?_
  refine⟨_,rfl,wpAny_letOwnedTupleGo_enum (s:={s with heap:=h',toks:=s.toks+1}) a1 fun h2' he' hs'=>?_⟩
  have hs2:Heap.SameBut e h' h2':=hs'
  have ls:∀ {b o},s.heap.get? b=some o->b≠s.heap.objs.size:=fun e=>Nat.ne_of_lt (Heap.lt_size e)
  have es:e≠s.heap.objs.size:=ls he
  have up:∀b o,b∉[e,it]->s.heap.get? b=some o->h2'.get? b=some o:=fun b o hb q=>by
   simp only[List.mem_cons,List.not_mem_nil,or_false,not_or]at hb
   exact(hs2.2 b hb.1).trans (hk b o hb.1 hb.2 q)
  have I1:Inv X pins σ H {s with heap:=h2',toks:=s.toks+1}:=I.turns (t':=s.toks+1) up hf
  have fp:FpOk X pins H s.heap.objs.size:=I.fpOk (Nat.le_refl _) (I.hok.fresh (Nat.le_refl _))
  have g:h2'.get? s.heap.objs.size=some {cls:=.type "tuple",data:=.seq #[.int i s.toks,u]}:=(hs2.2 _ (Ne.symm es)).trans a3
  have I2:=I1.trackO (o:=.tup [.int (i:Nat),x]) fp ⟨by show 2<=sizeLine;decide,[.int i s.toks,u],.cons ⟨_,rfl⟩ (.cons ru .nil),_,g,rfl,_,rfl⟩
  refine⟨.ref s.heap.objs.size,upd H s.heap.objs.size (.tup [.int (i:Nat),x]),I2,rfl,⟨_,x,rfl,fp.1,rfl,fun zs hz=>by rw[I.list_inj hz q1];exact hx⟩,?_,fun b hb=>?_⟩
  ·refine⟨⟨u,by simpa using he'⟩,?_⟩
   obtain⟨o,q,r⟩:=a2;exact⟨o,(hs2.2 it (Ne.symm ne)).trans q,r⟩
  ·have hb':=(hf b hb).1
   have ne':b≠s.heap.objs.size:=by
    obtain⟨o1,e1,_⟩:=h1
    simp only[List.mem_cons,List.not_mem_nil,or_false]at hb
    rcases hb with rfl | rfl
    ·exact ls he
    ·exact ls e1
   rw[a0x ne'];exact hb'
 done:=by
  intro X hP hw hK hc i pins s σ H E I hf st hg
  subst hP hw hK
  obtain⟨xs,q1,hl⟩:=hg
  obtain⟨⟨old,he⟩,h1⟩:=st
  obtain⟨its,rv,p1,_⟩:=I.list q1
  have l1:=rv.length
  refine wpAny_pyNext_enum_end (I.ok.hd hc) he h1 p1.isList (by simp;omega) fun h' hk=>⟨rfl,I.turns (ch:=[e,it]) (t':=s.toks) (fun b o hb q=>?_) hf⟩
  simp only[List.mem_cons,List.not_mem_nil,or_false,not_or]at hb
  exact hk b o hb.2 q
 self:=fun _ _ _ _ _ st h=>by obtain⟨⟨old,he⟩,_⟩:=st;exact wpAny_pyIter_enum he h
def m1r (K:PySem.W.Frag)(t:TA):TI:=fun σ H R=>t σ H fun vs H1=>∃l xs,vs=[.ref l]/\SqL K H1 l xs/\R (Ite K l) H1
theorem a1q (K:PySem.W.Frag){X:Cx}{elts:List Expr}{x1}{tpos:Pos}{a:Expr}{ta:TA}{p pos:Pos}(hg:Gl X "enumerate")(hm:X.mg "enumerate" = none)(ha:PA X [a] ta)(hK:X.K=K:=by rfl)(hs:starEach [a] X.env=[(false,eval a X.env)]:=by rfl) :
  PI X (.Tuple elts x1 tpos) (.Call (.Name "enumerate" p) [a] [] pos) (m1r K ta):=by
 subst hK
 intro pins s σ H R I h
 refine Call_ (g0m I hg hm i0c (PyProof.Rows.callWith_type1 (thn (ha pos pins s σ H _ I h) fun us s1 ⟨vs,H1,I1,r1,q1⟩=>?_) hs rfl))
 obtain⟨l,xs,rfl,h1,q⟩:=q1
 obtain⟨u,rfl,ru⟩:=i0q r1
 cases ru
 obtain⟨its,_,p1,_⟩:=I1.list h1
 refine call_enumerate_list p1.isList fun h' he hi hsz hk=>?_
 refine wpAny_pyIter_enum he ?_
 refine⟨_,_,_,_,H1,rfl,I1.kept (t':=s1.toks) hk,z0c (show s1.heap.objs.size+1≠s1.heap.objs.size by omega),⟨⟨_,he⟩,hi⟩,fun b hb=>?_,q⟩
 have le:s1.heap.objs.size<=b:=by
  simp only[List.mem_cons,List.not_mem_nil,or_false]at hb
  rcases hb with rfl | rfl <;> omega
 exact I1.fpOk le (I1.hok.fresh le)
section
variable {K:PySem.W.Frag}{ts:TA}{as:AA}
def g0q (k:Nat):List D->List D
 | []=>[]
 | d::ds=>.tup [.int (k:Nat),d]::g0q (k+1) ds
theorem e0g:∀ {ds:List D} {b k:Nat} {d:D},(g0q b ds)[k]? = some d->∃x,ds[k]? = some x/\d = .tup [.int ((b+k:Nat):Int),x]
 | [],b,k,d,h=>by simp[g0q]at h
 | x::ds,b,0,d,h=>by
  simp only[g0q,List.getElem?_cons_zero,Option.some.injEq]at h
  exact⟨x,rfl,h.symm⟩
 | x::ds,b,k+1,d,h=>by
  simp only[g0q,List.getElem?_cons_succ]at h
  obtain⟨a,e1,e2⟩:=e0g (ds:=ds) (b:=b+1) (k:=k) h
  exact⟨a,by simpa using e1,by rw[e2,show b+1+k=b+(k+1)by omega]⟩
theorem c0p:∀(ds:List D) (b:Nat),(g0q b ds).length=ds.length
 | [],b=>rfl
 | x::ds,b=>by simp only[g0q,List.length_cons,c0p ds]
theorem h1m {S:Addr->Prop}{H:Hp}{l:Addr}{vs:List V}{ds:List D}(al:∀a,S a->H a≠none)(h1:SqL K H l vs)(r1:RepDs K (hid H S) vs ds):WkAt K S H (Ite K l) (g0q 0 ds):=by
 intro k
 constructor
 ·intro d e
  obtain⟨x,ex,rfl⟩:=e0g e
  rw[Nat.zero_add]
  obtain⟨v,e1,rv⟩:=r1.get ex
  refine⟨⟨vs,v,h1,e1⟩,fun z H' ⟨p,a,ez,hp,eH,ha⟩=>?_⟩
  have a1:=ha vs h1
  rw[e1]at a1
  cases a1
  subst eH ez
  have sm:Same H (upd H p (.tup [.int (k:Nat),v])):=(Same.refl H).new hp
  have sm':Same (hid H S) (hid (upd H p (.tup [.int (k:Nat),v])) S):=b0o fun a o e n=>⟨sm a o e,n⟩
  refine⟨sm,?_⟩
  unfold RepD
  exact⟨p,[.int (k:Nat),v],rfl,(j0y (fun z=>al p z hp) b0l),.cons (by unfold RepD;rfl) (.cons (rv.same sm') .nil)⟩
 ·intro z
  rw[c0p]at z
  exact⟨vs,h1,by rw[r1.length];exact z⟩
def o1q (pin:Nat->Bool)(as:AA):AI:=fun ρ q=>as ρ fun rs ρ1=>match rs with
 | [r1]=>(match q0u pin ρ1 r1 with
  | some (ds,c)=>q (g0q 0 ds) c ρ1
  | _=>False)
 | _=>False
theorem q0x {pin:Nat->Bool}(h:TAok K ts as):TIok K pin (m1r K ts) (o1q pin as):=by
 intro F σ ρ H q Rk r ha k
 refine h F σ ρ H _ _ r ha fun rs ρ1 vs H1 h1 r1 i1 k1=>?_
 split at h1
 ·obtain⟨x,rfl,ix⟩:=i1.one
  split at h1
  ·rename_i ds c e1
   obtain⟨l1,us1,rfl,s1,w1⟩:=v0r r1 ix e1
   refine⟨l1,us1,rfl,s1,k _ _ _ _ _ h1 r1 k1 fun σ2 ρ2 H2 sm sv pn al hc=>?_⟩
   obtain⟨v1,z1,rd1⟩:=w1 σ2 ρ2 H2 sm sv pn hc
   exact h1m (fun a z=>(al a z).1) z1 rd1
  ·exact h1.elim
 ·exact h1.elim
end
open Builtin.SmallTypes (nextOf)
structure Feed (prog:Program)(w:World)(it:Addr)(dep:List Addr)(St:Nat->Heap->Prop)(gv:Nat->Option Value):Prop where
 mem:it∈dep
 obj:∀i h,St i h->∃o vs n,h.get? it=some o/\o.data = .fields vs/\o.cls = .type n/\n ≠ "zip"
 keep:∀i h h',St i h->(∀b o,b∈dep->h.get? b=some o->h'.get? b=some o)->St i h'
 item:∀(A:Around) i (s:Shared) x (Q:Value->Shared->Prop) E,St i s.heap->gv i=some x->(∀h',St (i+1) h'->Heap.SameBut it s.heap h'->Q x {s with heap:=h'})->wpAny (model prog w) A (nextOf (.ref it)) Q E s
 fin:∀(A:Around) i (s:Shared) (Q:Value->Shared->Prop) E,A.handled=none->St i s.heap->gv i=none->(∀h' e,Heap.ExtBut it s.heap h'->(∃o,h'.get? e=some o/\o.cls = .type "StopIteration")->E (.ref e) {s with heap:=h'})->wpAny (model prog w) A (nextOf (.ref it)) Q E s
section
variable {prog:Program}{w:World}
theorem q0b {it l:Addr}{xs:Array Value}(hne:l≠it):Feed prog w it [it,l] (fun i h=>h.IsTupleIter it l i/\h.IsTuple l xs) (fun i=>xs[i]?) where
 mem:=by simp
 obj:=fun i h ⟨⟨o,e,c,d⟩,_⟩=>⟨o,_,_,e,d,c,by decide⟩
 keep:=fun i h h' ⟨a,b⟩ k=>⟨a.at fun o e=>k it o (by simp) e,by obtain⟨o,e,r⟩:=b;exact⟨o,k l o (by simp) e,r⟩⟩
 item:=fun A i s x Q E ⟨a,b⟩ hx k=>by
  obtain⟨o,ho,hc,hd⟩:=id a
  obtain⟨ol,hol,rr,nl,hdl⟩:=id b
  unfold nextOf
  refine wpAny_bind (wpAny_callSpecial?_slot (name:=Str.ofString "__next__") a.typeIs F.slot_tuple_iterator_next (wpAny_call_entry F.slot_tuple_iterator_next a.typeIs F.entry_tuple_iterator_next ?_ (F.args_tuple_iterator_next_1 _)))
  show wpAny _ _ (field (.ref it) 0>>=_) _ _ s
  refine wpAny_bind (wpAny_field ho hd (x:=.ref l) rfl ?_)
  show wpAny _ _ (if(Value.ref l==Value.none)=true then _ else _) _ _ s
  rw[if_neg (fun z=>by cases z)]
  show wpAny _ _ (field (.ref it) 1>>=_) _ _ s
  refine wpAny_bind (wpAny_field ho hd (x:=.int i 0) rfl ?_)
  show wpAny _ _ (seqItems? (.ref l)>>=_) _ _ s
  refine wpAny_bind (wpAny_seqItems hol hdl ?_)
  simp only[Int.toNat_natCast,hx]
  refine wpAny_bind (wpAny_setField ho hd (by simp) (wpAny_pure ⟨x,rfl,wpAny_pure ?_⟩))
  refine k _ ⟨⟨_,Heap.get?_update_self _ ho (Obj.isFreed_of_fields (Obj.data_mapFields hd _)),(Obj.cls_mapFields ..).trans hc,by rw[Obj.data_mapFields hd];simp[rawInt]⟩,ol,?_,rr,nl,hdl⟩ (Heap.SameBut.update ..)
  exact((Heap.SameBut.update ..).2 l hne).trans hol
 fin:=fun A i s Q E hh ⟨a,b⟩ hx k=>by
  obtain⟨o,ho,hc,hd⟩:=id a
  obtain⟨ol,hol,rr,nl,hdl⟩:=id b
  unfold nextOf
  refine wpAny_bind (wpAny_callSpecial?_slot (name:=Str.ofString "__next__") a.typeIs F.slot_tuple_iterator_next (wpAny_call_entry F.slot_tuple_iterator_next a.typeIs F.entry_tuple_iterator_next ?_ (F.args_tuple_iterator_next_1 _)))
  show wpAny _ _ (field (.ref it) 0>>=_) _ _ s
  refine wpAny_bind (wpAny_field ho hd (x:=.ref l) rfl ?_)
  show wpAny _ _ (if(Value.ref l==Value.none)=true then _ else _) _ _ s
  rw[if_neg (fun z=>by cases z)]
  show wpAny _ _ (field (.ref it) 1>>=_) _ _ s
  refine wpAny_bind (wpAny_field ho hd (x:=.int i 0) rfl ?_)
  show wpAny _ _ (seqItems? (.ref l)>>=_) _ _ s
  refine wpAny_bind (wpAny_seqItems hol hdl ?_)
  simp only[Int.toNat_natCast,hx]
  refine wpAny_bind (wpAny_rule (wpAny_bind (wpAny_setField ho hd (by simp) ?_)))
  show wpAny _ _ (newExc (.type "StopIteration") []>>=_) _ _ _
  refine wpAny_bind ?_
  simp only[newExc,newTuple]
  refine wpAny_bind (wpAny_newObj_type ?_ (by size_fits))
  refine wpAny_bind (m:=firstArgMember _ _) (wpAny_of_eq (a:=Value.none) (by first | rfl | (simp only[firstArgMember];rfl)) ?_)
  refine wpAny_newObj_type ?_ (by size_fits)
  simp only[raiseNew]
  refine wpAny_bind (wpAny_handled ?_)
  first | rw[show A.in1.handled=none from hh] | rw[hh]
  refine wpAny_bind (wpAny_pure (wpAny_throw ?_))
  exact k _ _ (((Heap.SameBut.update ..).extBut.push _).push _) ⟨_,Heap.get?_push_size _ rfl,rfl⟩
variable {A:Around}{E:Value->Shared->Prop}{s:Shared}{z TI TO i1 i2:Addr}{d1 d2:List Addr}{S1 S2:Nat->Heap->Prop}{g1 g2:Nat->Option Value}
end
section
variable {X:Cx}(K:PySem.W.Frag)
theorem v0a {P:Program}{w:World}{A:Around}{its:List Value}{ns:List Int}(rv:Vals (ns.map V.int) its):CmpOf P w A .Lt (fun i v=>its.toArray[i]? = some v) (fun i j=>decide (ns.getD i 0<ns.getD j 0)):=by
 have go:∀ {i:Nat} {v:Value},its.toArray[i]? = some v->∃t,v = .int (ns.getD i 0) t:=fun{i v} hv=>by
  have hv':its[i]? = some v:=by simpa using hv
  have hi:i<its.length:=(List.getElem?_eq_some_iff.mp hv').1
  have hl:its.length=ns.length:=by have:=rv.length;rw[List.length_map]at this;omega
  obtain⟨u,e1,e2⟩:=rv.get (i:=i) (x:=V.int ns[i]) (by rw[List.getElem?_map,List.getElem?_eq_getElem (by omega)];rfl)
  rw[hv']at e1;cases e1
  obtain⟨t,rfl⟩:=e2
  exact⟨t,by rw[List.getD_eq_getElem?_getD,List.getElem?_eq_getElem (by omega)];rfl⟩
 exact CmpOf.ints_lt (fun i=>ns.getD i 0) (fun _ _=>go)
def l1m (K:PySem.W.Frag):List V->Hp->VK->Prop:=fun xs H Q=>∃(p:Addr) (ns:List Int),xs=[.ref p]/\SqL K H p (ns.map V.int)/\ns≠[]/\∀M,M∈ns->(∀a∈ns,M<=a)->Q (.int M) H
theorem d1b (hc:X.calm=true)(hK:X.K=K:=by rfl):h0n X (.builtin "min") (l1m K):=by
 subst hK
 intro pins s σ H xs us Q I r h
 obtain⟨a,ns,rfl,hq,hn0,q1⟩:=h
 obtain⟨u1,rfl,ru⟩:=i0q r
 cases ru
 obtain⟨its,rv,pl,hz⟩:=I.list hq
 have hl:its.length=ns.length:=by have:=rv.length;rw[List.length_map]at this;omega
 have hpos:0<ns.length:=List.length_pos_iff.mpr hn0
 have hne:a≠s.heap.objs.size:=Nat.ne_of_lt (by obtain⟨o,n,e,_⟩:=pl;exact Heap.lt_size e)
 refine call_min_walk (wpAny_pyIter_list pl.isList ?_)
 refine⟨s.heap.objs.size,_,_,_,_,_,_,rfl,Walks.list (A:=X.A.in1) (show X.A.in1.handled=none from I.ok.hd hc) s.heap.objs.size a hne its.toArray,⟨⟨_,Heap.get?_push_size _ rfl,rfl,rfl⟩,pl.isList.at fun o e=>Heap.get?_push_of_some _ e⟩,fun b hb=>?_,by rw[List.size_toArray,hl];exact hpos,v0a rv,fun v g z hv kp=>?_⟩
 ·rw[Heap.size_push]
  rcases List.mem_cons.mp hb with rfl | hb
  ·exact Nat.lt_succ_self _
  ·rw[List.mem_singleton.mp hb]
   obtain⟨o,n,e,_⟩:=pl
   exact Nat.lt_succ_of_lt (Heap.lt_size e)
 ·rw[List.size_toArray,hl]at hv
  obtain⟨m1,m2⟩:=argBest_lt (fun i=>ns.getD i 0) (ns.length - 1)
  have hlt:argBest (fun i j=>decide (ns.getD i 0<ns.getD j 0)) (ns.length - 1)<ns.length:=by omega
  have hv':its[argBest (fun i j=>decide (ns.getD i 0<ns.getD j 0)) (ns.length - 1)]? = some v:=by simpa using hv
  obtain⟨x,e1,e2⟩:=rv.get (i:=argBest (fun i j=>decide (ns.getD i 0<ns.getD j 0)) (ns.length - 1)) (x:=V.int (ns.getD (argBest (fun i j=>decide (ns.getD i 0<ns.getD j 0)) (ns.length - 1)) 0)) (by
   rw[List.getElem?_map,List.getElem?_eq_getElem hlt,List.getD_eq_getElem?_getD,List.getElem?_eq_getElem hlt];rfl)
  rw[hv']at e1;cases e1
  refine⟨_,H,I.kept fun b o e=>?_,e2,q1 _ (getD_mem hlt) fun y hy=>?_⟩
  ·refine kp b o (fun z=>?_) (Heap.get?_push_of_some _ e)
   rw[List.mem_singleton.mp z]at e
   exact absurd (Heap.lt_size e) (Nat.lt_irrefl _)
  ·obtain⟨j,hj,rfl⟩:=mem_getD hy
   exact m2 j (by omega)
end
section
variable {K:PySem.W.Frag}{ta:TE}{a:AE}{ts:TA}{as:AA}
@[irreducible] def gMin1:List R->AE:=fun rs ρ q=>match rs with
 | [r]=>(match view ρ r with
  | some (.lst ds)=>(match e0y ds with | some ns=>ns≠[]/\(∀M,M∈ns->(∀a∈ns,M<=a)->q (.d (.int M)) ρ) | none=>False)
  | _=>False)
 | _=>False
theorem c1z:CbOk K (l1m K) gMin1:=by
 intro F σ ρ H vs rs q Q a i h b
 unfold gMin1 at h
 split at h
 ·obtain⟨y,rfl,iy⟩:=i.one
  split at h
  ·rename_i ds e
   split at h
   ·rename_i ns e'
    obtain⟨l,us,rfl,sq,rd⟩:=c0m a iy e
    rw[g0o e',g0b]at rd
    rw[rd]at sq
    exact⟨l,ns,rfl,sq,h.1,fun M hM hle=>b.int a (h.2 M hM hle)⟩
   ·exact h.elim
  ·exact h.elim
 ·exact h.elim
theorem w0w {r:R}{ρ:En}{q:Ko}{ns:List Int}(hv:view ρ r=some (.lst (ns.map D.int)))(h0:ns≠[])(h1:∀M,M∈ns->(∀a∈ns,M<=a)->q (.d (.int M)) ρ):gMin1 [r] ρ q:=by
 unfold gMin1
 simp only[hv,g0n]
 exact⟨h0,h1⟩
end
section
variable {X:Cx}(K:PySem.W.Frag)
def a1h (K:PySem.W.Frag):List V->Hp->VK->Prop:=fun xs H Q=>∃(p:Addr) (ns:List Int),xs=[.ref p]/\SqL K H p (ns.map V.int)/\ns.length<64/\∀ns':List Int,ns'.Perm ns->ns'.Pairwise (· <= ·)->∀l,H l=none->Q (.ref l) (upd H l (.lst (ns'.map V.int)))
theorem n0f (hK:X.K=K:=by rfl):h0n X (.builtin "sorted") (a1h K):=by
 subst hK
 intro pins s σ H xs us Q I r h
 obtain⟨a,ns,rfl,hq,h64,q1⟩:=h
 obtain⟨u1,rfl,ru⟩:=i0q r
 cases ru
 obtain⟨its,rv,pl,hz⟩:=I.list hq
 have hl:its.length=ns.length:=by have:=rv.length;rw[List.length_map]at this;omega
 refine sorted_ints pl.isList (i0m rv) (by omega) fun out ns' a1 a2 a3=>?_
 obtain⟨e,he⟩:=sortedAll_at s.heap its out
 have hlen:=a2.length_eq
 refine⟨.ref (s.heap.objs.size+1),_,I.laid (t':=s.toks) (o:=.lst (ns'.map V.int)) (fun b o q=>sortedAll_old q) (Nat.le_succ _) ⟨?_,out.toList,e,j0g a1,?_⟩,rfl,q1 ns' a2 a3 _ (I.hok.fresh (Nat.le_succ _))⟩
 ·rw[List.length_map];exact Nat.le_of_lt (g0d (n:=ns'.length) (by omega))
 ·rw[he]
end
section
variable {K:PySem.W.Frag}
@[irreducible] def gSorted:List R->AE:=fun rs ρ q=>match rs with
 | [r]=>(match view ρ r with
  | some (.lst ds)=>(match e0y ds with | some ns=>ns.length<64/\(∀ns':List Int,ns'.Perm ns->ns'.Pairwise (· <= ·)->q (.f (ns'.map D.int)) ρ) | none=>False)
  | _=>False)
 | _=>False
theorem n0e:CbOk K (a1h K) gSorted:=by
 intro F σ ρ H vs rs q Q a i h b
 unfold gSorted at h
 split at h
 ·obtain⟨y,rfl,iy⟩:=i.one
  split at h
  ·rename_i ds e
   split at h
   ·rename_i ns e'
    obtain⟨l,us,rfl,sq,rd⟩:=c0m a iy e
    rw[g0o e',g0b]at rd
    rw[rd]at sq
    exact⟨l,ns,rfl,sq,h.1,fun ns' h1 h2 p hp=>b.new a (h.2 ns' h1 h2) (g0b.mpr rfl) hp⟩
   ·exact h.elim
  ·exact h.elim
 ·exact h.elim
theorem i0n {r:R}{ρ:En}{q:Ko}{ns:List Int}(hv:view ρ r=some (.lst (ns.map D.int)))(h64:ns.length<64)(h1:∀ns':List Int,ns'.Perm ns->ns'.Pairwise (· <= ·)->q (.f (ns'.map D.int)) ρ):gSorted [r] ρ q:=by
 unfold gSorted
 simp only[hv,g0n]
 exact⟨h64,h1⟩
end
section
variable {M:Model}{A:Around}{E:Value->Shared->Prop}{s:Shared}{κ:SortKind}{r:Keyed->Int}{P:Keyed->Prop}
structure Cm (M:Model)(A:Around)(E:Value->Shared->Prop)(s:Shared)(κ:SortKind)(r:Keyed->Int)(P:Keyed->Prop):Prop where
 lt:∀x y,P x->P y->∀(st:SortSt) (Q:Option Bool->SortSt->Prop),kindOf st=κ->Q (some (decide (r x<r y))) st->wpS M A E s (lt' x y) Q st
theorem y0x {xs:Array Keyed}{i:Nat}{x:Keyed}{st:SortSt}{Q:Keyed->SortSt->Prop}(hx:xs[i]? = some x)(h:Q x st):wpS M A E s (elem' xs i) Q st:=by
 rw[elem'_eq,hx];exact wpS_pure h
end
def Srt (r:Keyed->Int)(l:List Keyed):Prop:=l.Pairwise fun x y=>r x<=r y
theorem n1i {a:Array Keyed}{u v w:List Keyed}(h:a.toList=u++v++w){i:Nat}(hi:i<v.length):∃q:u.length+i<a.size,a[u.length+i]=v[i]:=by
 have hs:a.size=(u++v++w).length:=by rw[<- h];simp
 have q:u.length+i<a.size:=by rw[hs];simp;omega
 refine⟨q,?_⟩
 rw[<- Array.getElem_toList]
 simp only[h]
 rw[List.getElem_append_left (by simp;omega),List.getElem_append_right (by omega)]
 simp
def kr (r:Keyed->Int)(xs:Array Keyed)(i:Nat):Int:=(xs[i]?.map r).getD 0
theorem b1q {r:Keyed->Int}{xs ys:Array Keyed}{i j:Nat}(h:xs[i]? = ys[j]?):kr r xs i=kr r ys j:=by unfold kr;rw[h]
theorem g1x {r:Keyed->Int}{xs:Array Keyed}{c d:Nat}(hs:c<xs.size)(hd:d<=c)(k:Nat) :
  kr r (bubble xs c d) k=if k=c - d then kr r xs c else if c - d<k/\k<=c then kr r xs (k - 1)else kr r xs k:=by
 have e:=getElem?_bubble hs d hd k
 split
 ·rename_i g;rw[if_pos g]at e;exact b1q e
 ·rename_i g;rw[if_neg g]at e
  split
  ·rename_i g';rw[if_pos g']at e;exact b1q e
  ·rename_i g';rw[if_neg g']at e;exact b1q e
theorem b1p {r:Keyed->Int}{xs:Array Keyed}{i j:Nat}(hj:j<=xs.size)(k:Nat):kr r (mirror xs i j ((j - i) / 2)) k=if i<=k/\k<j then kr r xs (i+j - 1 - k)else kr r xs k:=by
 have e:=getElem?_mirror_all (i:=i) hj k
 split
 ·rename_i g;rw[if_pos g]at e;exact b1q e
 ·rename_i g;rw[if_neg g]at e;exact b1q e
theorem j0b {r:Keyed->Int}{xs:Array Keyed}{i j:Nat}(hj:j<=xs.size){v:Int}(hv:∀k,i<=k->k<j->kr r xs k=v)(k:Nat):kr r (mirror xs i j ((j - i) / 2)) k=kr r xs k:=by
 rw[b1p hj]
 split
 ·rename_i g;rw[hv _ (by omega) (by omega),hv k g.1 g.2]
 ·rfl
structure Bs (st0:SortSt)(lo:Nat)(st:SortSt):Prop where
 eq:st=setArr st0 (arrOf st)
 pm:(arrOf st).Perm (arrOf st0)
 ah:∀i,i<lo->(arrOf st)[i]? = (arrOf st0)[i]?
theorem Bs.sz {st0 st:SortSt}{lo:Nat}(b:Bs st0 lo st):(arrOf st).size=(arrOf st0).size:=b.pm.size_eq
theorem Bs.start (st:SortSt)(lo:Nat):Bs st lo st:=⟨rfl,Array.Perm.refl _,fun _ _=>rfl⟩
theorem Bs.mir {st0 st:SortSt}{lo i j:Nat}(b:Bs st0 lo st)(hi:lo<=i)(hj:j<=(arrOf st0).size):Bs st0 lo (setArr st (mirror (arrOf st) i j ((j - i) / 2))):=by
 refine⟨by rw[b.eq],(mirror_perm _ _ _ _).trans b.pm,fun k hk=>?_⟩
 show(mirror (arrOf st) i j ((j - i) / 2))[k]? = _
 rw[getElem?_mirror_all (by rw[b.sz];exact hj),if_neg (by omega)]
 exact b.ah k hk
theorem Bs.bub {st0 st:SortSt}{lo c d:Nat}(b:Bs st0 lo st)(hc:c<(arrOf st0).size)(hd:d<=c)(hl:lo<=c - d):Bs st0 lo (setArr st (bubble (arrOf st) c d)):=by
 refine⟨by rw[b.eq],(bubble_perm _ _ _).trans b.pm,fun k hk=>?_⟩
 show(bubble (arrOf st) c d)[k]? = _
 rw[getElem?_bubble (by rw[b.sz];exact hc) d hd,if_neg (by omega),if_neg (by omega)]
 exact b.ah k hk
def Up (r:Keyed->Int)(xs:Array Keyed)(lo n:Nat):Prop:=∀i j,i<=j->j<n->kr r xs (lo+i)<=kr r xs (lo+j)
def Dw (r:Keyed->Int)(xs:Array Keyed)(lo n:Nat):Prop:=∀i j,i<=j->j<n->kr r xs (lo+j)<=kr r xs (lo+i)
theorem Up.one {r:Keyed->Int}{xs:Array Keyed}{lo:Nat}:Up r xs lo 1:=fun i j h1 h2=>by
 have:i=j:=by omega
 subst this;exact Int.le_refl _
theorem Up.more {r:Keyed->Int}{xs:Array Keyed}{lo n:Nat}(u:Up r xs lo n)(h1:1<=n)(h:kr r xs (lo+(n - 1))<=kr r xs (lo+n)):Up r xs lo (n+1):=fun i j a b=>by
 rcases Nat.lt_or_ge j n with q | q
 ·exact u i j a q
 ·have e:j=n:=by omega
  subst e
  rcases Nat.lt_or_ge i j with z | z
  ·exact Int.le_trans (u i (j - 1) (by omega) (by omega)) h
  ·have:i=j:=by omega
   subst this;exact Int.le_refl _
theorem Dw.more {r:Keyed->Int}{xs:Array Keyed}{lo n:Nat}(u:Dw r xs lo n)(h1:1<=n)(h:kr r xs (lo+n)<=kr r xs (lo+(n - 1))):Dw r xs lo (n+1):=fun i j a b=>by
 rcases Nat.lt_or_ge j n with q | q
 ·exact u i j a q
 ·have e:j=n:=by omega
  subst e
  rcases Nat.lt_or_ge i j with z | z
  ·exact Int.le_trans h (u i (j - 1) (by omega) (by omega))
  ·have:i=j:=by omega
   subst this;exact Int.le_refl _
theorem Dw.cg {r:Keyed->Int}{xs ys:Array Keyed}{lo n:Nat}(u:Dw r xs lo n)(h:∀k,kr r ys k=kr r xs k):Dw r ys lo n:=fun i j a b=>by rw[h,h];exact u i j a b
section
variable {M:Model}{A:Around}{E:Value->Shared->Prop}{s:Shared}{κ:SortKind}{r:Keyed->Int}{P:Keyed->Prop}{st0:SortSt}
theorem q0t (C:Cm M A E s κ r P)(hk:kindOf st0=κ)(hP:∀x∈(arrOf st0).toList,P x){st:SortSt}{lo i j:Nat}(b:Bs st0 lo st)(hi:i<(arrOf st0).size)(hj:j<(arrOf st0).size){Q:Option Bool->SortSt->Prop}
  (h:Q (some (decide (kr r (arrOf st) i<kr r (arrOf st) j))) st):wpS M A E s (ltAt' i j) Q st:=by
 have zi:i<(arrOf st).size:=by rw[b.sz];exact hi
 have zj:j<(arrOf st).size:=by rw[b.sz];exact hj
 have pp:∀(k:Nat) (z:k<(arrOf st).size),P (arrOf st)[k]:=fun k z=>hP _ ((Array.perm_iff_toList_perm.mp b.pm).mem_iff.mp (by simp))
 rw[ltAt'_eq]
 refine wpS_bind (wpS_get (wpS_bind (y0x (Array.getElem?_eq_getElem zi) (wpS_bind (y0x (Array.getElem?_eq_getElem zj) ?_)))))
 refine C.lt _ _ (pp i zi) (pp j zj) _ _ (by rw[b.eq];exact hk) ?_
 unfold kr at h
 rw[Array.getElem?_eq_getElem zi,Array.getElem?_eq_getElem zj]at h
 exact h
theorem k1k (C:Cm M A E s κ r P)(hk:kindOf st0=κ)(hP:∀x∈(arrOf st0).toList,P x){st:SortSt}{lo n ok:Nat}{Q:Bool->SortSt->Prop}(hn:lo+n<=(arrOf st0).size)(ho:ok<=n)(h1:1<=n)(b:Bs st0 lo st)(u:Up r (arrOf st) lo ok)
  (h:∀st',Bs st0 lo st'->Up r (arrOf st') lo n->Q true st'):wpS M A E s (binarySort' lo n ok) Q st:=by
 rw[binarySort'_eq]
 refine wpS_bind (wpS_mono (wpS_forRange (I:=fun k c st'=>c=(none,())/\Bs st0 lo st'/\Up r (arrOf st') lo k) (Q:=fun c st'=>c=(none,())/\Bs st0 lo st'/\Up r (arrOf st') lo n) ?_ ?_ ⟨rfl,b,?_⟩) ?_)
 ·rintro k c st2 a1 a2 ⟨rfl,b2,u2⟩
  refine wpS_bind (wpS_mono (wpS_forRange (I:=fun x c st3=>st3=st2/\∃p q,c=(none,p,q)/\p<=q/\q<=k/\q - p<=k - x/\(∀i,i<p->kr r (arrOf st2) (lo+i)<=kr r (arrOf st2) (lo+k))/\(∀i,q<=i->i<k->kr r (arrOf st2) (lo+k)<kr r (arrOf st2) (lo+i)))
   (Q:=fun c st3=>st3=st2/\∃p,c=(none,p,p)/\p<=k/\(∀i,i<p->kr r (arrOf st2) (lo+i)<=kr r (arrOf st2) (lo+k))/\(∀i,p<=i->i<k->kr r (arrOf st2) (lo+k)<kr r (arrOf st2) (lo+i))) ?_ ?_ ⟨rfl,0,k,rfl,by omega,by omega,by omega,fun i hi=>by omega,fun i c d=>by omega⟩) ?_)
  ·rintro x c st3 _ hx ⟨rfl,p,q,rfl,e1,e2,e3,e4,e5⟩
   dsimp only
   by_cases g:p>=q
   ·rw[if_pos g]
    have:p=q:=by omega
    subst this
    exact wpS_pure ⟨rfl,p,rfl,e2,e4,e5⟩
   ·rw[if_neg g]
    refine wpS_bind (q0t C hk hP b2 (by omega) (by omega) ?_)
    by_cases z:kr r (arrOf st3) (lo+k)<kr r (arrOf st3) (lo+(p+q) / 2)
    ·simp only[z,decide_true,if_true]
     exact wpS_pure ⟨rfl,p,(p+q) / 2,rfl,by omega,by omega,by omega,e4,fun i c d=>Int.lt_of_lt_of_le z (u2 _ _ c d)⟩
    ·simp only[z,decide_false,Bool.false_eq_true,if_false]
     exact wpS_pure ⟨rfl,(p+q) / 2+1,q,rfl,by omega,by omega,by omega,fun i c=>Int.le_trans (u2 i ((p+q) / 2) (by omega) (by omega)) (by omega),e5⟩
  ·rintro c st3 ⟨rfl,p,q,rfl,e1,e2,e3,e4,e5⟩
   have:p=q:=by omega
   subst this
   exact⟨rfl,p,rfl,e2,e4,e5⟩
  ·rintro c st3 ⟨rfl,p,rfl,e2,e4,e5⟩
   dsimp only
   rw[moveDown'_eq]
   have hks:lo+k<(arrOf st3).size:=by rw[b2.sz];omega
   refine wpS_bind (wpS_modify (wpS_pure ⟨rfl,b2.bub (by omega) (by omega) (by omega),?_⟩))
   intro i j ij hj
   show kr r (bubble (arrOf st3) (lo+k) (lo+k - (lo+p))) (lo+i)<=kr r (bubble (arrOf st3) (lo+k) (lo+k - (lo+p))) (lo+j)
   rw[g1x hks (by omega),g1x hks (by omega)]
   have s1:∀x,lo+x - 1=lo+(x - 1)∨x=0:=fun x=>by omega
   have lt1:∀x,x<p->kr r (arrOf st3) (lo+x)<=kr r (arrOf st3) (lo+k):=e4
   have em:∀x,1<=x->kr r (arrOf st3) (lo+x - 1)=kr r (arrOf st3) (lo+(x - 1)):=fun x hx=>by rw[show lo+x - 1=lo+(x - 1)by omega]
   repeat' split
   all_goals first
    | (exfalso;omega)
    | exact Int.le_refl _
    | exact e4 _ (by omega)
    | (rw[em _ (by omega)];exact Int.le_of_lt (e5 _ (by omega) (by omega)))
    | (rw[em _ (by omega),em _ (by omega)];exact u2 _ _ (by omega) (by omega))
    | (rw[em _ (by omega)];exact u2 _ _ (by omega) (by omega))
    | exact u2 _ _ (by omega) (by omega)
 ·rintro c st2 ⟨hc,b2,u2⟩
  refine⟨hc,b2,fun i j a c=>u2 i j a (by omega)⟩
 ·intro i j a c
  rcases Nat.lt_or_ge j ok with q | q
  ·exact u i j a q
  ·have:i=j:=by omega
   subst this;exact Int.le_refl _
 ·rintro c st2 ⟨rfl,b2,u2⟩
  exact wpS_pure (h _ b2 u2)
def asc (lo a m:Nat):StateT SortSt Sem AscSt :=
 forIn [a:m] ((none,a):AscSt) fun _ c=>do
  let z <- ltAt' (lo+c.2) (lo+c.2 - 1)
  match z with
  | some y=>if y=true then pure (.done (none,c.2))else pure (.yield (none,c.2+1))
  | _=>pure (.done (some none,c.2))
def tl3 (lo n m:Nat):StateT SortSt Sem (Option Nat):=do
 reverseSlice' lo (lo+n)
 let c <- asc lo n m
 match c.1 with
 | some q=>pure q
 | none=>pure (some c.2)
def dsc (lo n m:Nat):StateT SortSt Sem DescSt :=
 forIn [n:m] ((none,n,0):DescSt) fun _ c=>do
  let z <- ltAt' (lo+c.2.1) (lo+c.2.1 - 1)
  match z with
  | some y =>
   if y=true then
    if c.2.2 > 0 then do
     reverseSlice' (lo+c.2.1 - (c.2.2+1)) (lo+c.2.1)
     pure (.yield (none,c.2.1+1,0))
    else pure (.yield (none,c.2.1+1,0))
   else do
    let z <- ltAt' (lo+c.2.1 - 1) (lo+c.2.1)
    match z with
    | some y=>if y=true then pure (.done (none,c.2.1,c.2.2))else pure (.yield (none,c.2.1+1,c.2.2+1))
    | _=>pure (.done (some none,c.2.1,c.2.2))
  | _=>pure (.done (some none,c.2.1,c.2.2))
def dpt (lo n m:Nat):StateT SortSt Sem (Option Nat):=do
 liftM (rule "list.sort.descending-run")
 let c <- dsc lo (n+1) m
 match c.1 with
 | some q=>pure q
 | none =>
  if c.2.2 > 0 then do
   reverseSlice' (lo+c.2.1 - (c.2.2+1)) (lo+c.2.1)
   tl3 lo c.2.1 m
  else tl3 lo c.2.1 m
theorem o1j (lo m:Nat):countRun' lo m=(do
  let c <- asc lo 1 m
  match c.1 with
  | some q=>pure q
  | none =>
   if(c.2==m)=true then pure (some c.2)
   else if c.2 > 1 then do
    let z <- ltAt' lo (lo+c.2 - 1)
    match z with
    | some y=>if y=true then pure (some c.2)else do
      reverseSlice' lo (lo+c.2)
      dpt lo c.2 m
    | _=>pure none
   else dpt lo c.2 m):=by
 rw[countRun'_eq]
 dsimp only
 unfold dpt tl3 dsc asc
 congr 1
 funext c
 obtain⟨q,n⟩:=c
 cases q with
 | some q=>rfl
 | none =>
  dsimp only
  split
  ·rfl
  ·split
   ·congr 1
    funext x
    cases x with
    | none=>rfl
    | some y =>
     dsimp only
     split
     ·rfl
     ·congr 1
      funext _
      congr 1;funext _;congr 1;congr 1;funext c;obtain⟨q,n,k⟩:=c
      cases q with
      | some q=>rfl
      | none =>
       dsimp only
       split
       ·congr 1;funext _;congr 1;funext _;congr 1;funext c;obtain⟨q,n⟩:=c;cases q <;> rfl
       ·congr 1;funext _;congr 1;funext c;obtain⟨q,n⟩:=c;cases q <;> rfl
   ·congr 1;funext _;congr 1;congr 1;funext c;obtain⟨q,n,k⟩:=c
    cases q with
    | some q=>rfl
    | none =>
     dsimp only
     split
     ·congr 1;funext _;congr 1;funext _;congr 1;funext c;obtain⟨q,n⟩:=c;cases q <;> rfl
     ·congr 1;funext _;congr 1;funext c;obtain⟨q,n⟩:=c;cases q <;> rfl
theorem g1f (C:Cm M A E s κ r P)(hk:kindOf st0=κ)(hP:∀x∈(arrOf st0).toList,P x){st:SortSt}{lo a m:Nat}{Q:AscSt->SortSt->Prop}(hm:lo+m<=(arrOf st0).size)(ha:1<=a)(am:a<=m)(b:Bs st0 lo st)(u:Up r (arrOf st) lo a)
  (h:∀n,a<=n->n<=m->Up r (arrOf st) lo n->(n=m∨kr r (arrOf st) (lo+n)<kr r (arrOf st) (lo+n - 1))->Q (none,n) st):wpS M A E s (asc lo a m) Q st:=by
 unfold asc
 refine wpS_forRange (I:=fun x c st'=>st'=st/\c=(none,x)/\Up r (arrOf st) lo x) ?_ ?_ ⟨rfl,rfl,u⟩
 ·rintro x c st2 a1 a2 ⟨rfl,rfl,u2⟩
  dsimp only
  refine wpS_bind (q0t C hk hP b (by omega) (by omega) ?_)
  by_cases z:kr r (arrOf st2) (lo+x)<kr r (arrOf st2) (lo+x - 1)
  ·simp only[z,decide_true,if_true]
   exact wpS_pure (h x a1 (by omega) u2 (.inr z))
  ·simp only[z,decide_false,Bool.false_eq_true,if_false]
   refine wpS_pure ⟨rfl,rfl,u2.more (by omega) ?_⟩
   rw[show lo+(x - 1)=lo+x - 1 by omega];omega
 ·rintro c st2 ⟨rfl,rfl,u2⟩
  rw[show max a m=m by omega]at u2 ⊢
  exact h m am (Nat.le_refl _) u2 (.inl rfl)
theorem g1d (C:Cm M A E s κ r P)(hk:kindOf st0=κ)(hP:∀x∈(arrOf st0).toList,P x){st:SortSt}{lo n m:Nat}{Q:Option Nat->SortSt->Prop}(hm:lo+m<=(arrOf st0).size)(h1:1<=n)(nm:n<=m)(b:Bs st0 lo st)(u:Dw r (arrOf st) lo n)
  (h:∀k st',Bs st0 lo st'->1<=k->k<=m->Up r (arrOf st') lo k->Q (some k) st'):wpS M A E s (tl3 lo n m) Q st:=by
 unfold tl3
 rw[reverseSlice'_eq]
 have b2:=b.mir (i:=lo) (j:=lo+n) (Nat.le_refl _) (by omega)
 refine wpS_bind (wpS_modify (wpS_bind (g1f C hk hP hm h1 nm b2 (fun i j ij hj=>?_) fun k k1 k2 k3 _=>wpS_pure (h k _ b2 (by omega) k2 k3))))
 show kr r (mirror (arrOf st) lo (lo+n) ((lo+n - lo) / 2)) (lo+i)<=kr r (mirror (arrOf st) lo (lo+n) ((lo+n - lo) / 2)) (lo+j)
 have hz:lo+n<=(arrOf st).size:=by rw[b.sz];omega
 rw[b1p hz,b1p hz,if_pos (by omega),if_pos (by omega),show lo+(lo+n) - 1 - (lo+i)=lo+(n - 1 - i)by omega,show lo+(lo+n) - 1 - (lo+j)=lo+(n - 1 - j)by omega]
 exact u _ _ (by omega) (by omega)
theorem k1j (C:Cm M A E s κ r P)(hk:kindOf st0=κ)(hP:∀x∈(arrOf st0).toList,P x){st:SortSt}{lo n m:Nat}{Q:DescSt->SortSt->Prop}(hm:lo+m<=(arrOf st0).size)(h1:1<=n)(nm:n<=m)(b:Bs st0 lo st)(u:Dw r (arrOf st) lo n)
  (h:∀k e st',Bs st0 lo st'->n<=k->k<=m->Dw r (arrOf st') lo k->e+1<=k->(∀i,k - (e+1)<=i->i<k->kr r (arrOf st') (lo+i)=kr r (arrOf st') (lo+k - 1))->Q (none,k,e) st'):wpS M A E s (dsc lo n m) Q st:=by
 unfold dsc
 refine wpS_forRange (I:=fun x c st'=>∃e,c=(none,x,e)/\Bs st0 lo st'/\Dw r (arrOf st') lo x/\e+1<=x/\(∀i,x - (e+1)<=i->i<x->kr r (arrOf st') (lo+i)=kr r (arrOf st') (lo+x - 1))) ?_ ?_ ⟨0,rfl,b,u,by omega,fun i a c=>by congr 1;omega⟩
 ·rintro x c st2 a1 a2 ⟨e,rfl,b2,u2,e1,e2⟩
  dsimp only
  have hz:lo+x<=(arrOf st2).size:=by rw[b2.sz];omega
  refine wpS_bind (q0t C hk hP b2 (by omega) (by omega) ?_)
  have e3:∀k,lo+x - (e+1)<=k->k<lo+x->kr r (arrOf st2) k=kr r (arrOf st2) (lo+x - 1):=fun k p q=>by
   have:=e2 (k - lo) (by omega) (by omega)
   rwa [show lo+(k - lo)=k by omega]at this
  by_cases z:kr r (arrOf st2) (lo+x)<kr r (arrOf st2) (lo+x - 1)
  ·simp only[z,decide_true,if_true]
   have u3:Dw r (arrOf st2) lo (x+1):=u2.more (by omega) (by rw[show lo+(x - 1)=lo+x - 1 by omega];omega)
   by_cases g:e > 0
   ·rw[if_pos g,reverseSlice'_eq]
    exact wpS_bind (wpS_modify (wpS_pure ⟨0,rfl,b2.mir (by omega) (by omega),u3.cg (j0b hz e3),by omega,fun i p q=>by congr 1;omega⟩))
   ·rw[if_neg g]
    exact wpS_pure ⟨0,rfl,b2,u3,by omega,fun i p q=>by congr 1;omega⟩
  ·simp only[z,decide_false,Bool.false_eq_true,if_false]
   refine wpS_bind (q0t C hk hP b2 (by omega) (by omega) ?_)
   by_cases y:kr r (arrOf st2) (lo+x - 1)<kr r (arrOf st2) (lo+x)
   ·simp only[y,decide_true,if_true]
    exact wpS_pure (h x e st2 b2 a1 (by omega) u2 e1 e2)
   ·simp only[y,decide_false,Bool.false_eq_true,if_false]
    refine wpS_pure ⟨e+1,rfl,b2,u2.more (by omega) (by rw[show lo+(x - 1)=lo+x - 1 by omega];omega),by omega,fun i p q=>?_⟩
    rw[show lo+(x+1) - 1=lo+x by omega]
    rcases Nat.lt_or_ge i x with w | w
    ·have:=e2 i (by omega) w
     omega
    ·have:i=x:=by omega
     subst this;rfl
 ·rintro c st2 ⟨e,rfl,b2,u2,e1,e2⟩
  rw[show max n m=m by omega]at u2 e1 e2 ⊢
  exact h m e st2 b2 nm (Nat.le_refl _) u2 e1 e2
theorem g1e (C:Cm M A E s κ r P)(hk:kindOf st0=κ)(hP:∀x∈(arrOf st0).toList,P x){st:SortSt}{lo n m:Nat}{Q:Option Nat->SortSt->Prop}(hm:lo+m<=(arrOf st0).size)(nm:n+1<=m)(b:Bs st0 lo st)(u:Dw r (arrOf st) lo (n+1))
  (h:∀k st',Bs st0 lo st'->1<=k->k<=m->Up r (arrOf st') lo k->Q (some k) st'):wpS M A E s (dpt lo n m) Q st:=by
 unfold dpt
 refine wpS_bind (wpS_lift (wpAny_rule ⟨rfl,?_⟩))
 refine wpS_bind (k1j C hk hP hm (by omega) nm b u fun k e st2 b2 k1 k2 u2 e1 e2=>?_)
 dsimp only
 have hz:lo+k<=(arrOf st2).size:=by rw[b2.sz];omega
 have e3:∀i,lo+k - (e+1)<=i->i<lo+k->kr r (arrOf st2) i=kr r (arrOf st2) (lo+k - 1):=fun i p q=>by
  have:=e2 (i - lo) (by omega) (by omega)
  rwa [show lo+(i - lo)=i by omega]at this
 by_cases g:e > 0
 ·rw[if_pos g,reverseSlice'_eq]
  exact wpS_bind (wpS_modify (g1d C hk hP hm (by omega) k2 (b2.mir (by omega) (by omega)) (u2.cg (j0b hz e3)) h))
 ·rw[if_neg g]
  exact g1d C hk hP hm (by omega) k2 b2 u2 h
theorem n1r (C:Cm M A E s κ r P)(hk:kindOf st0=κ)(hP:∀x∈(arrOf st0).toList,P x){st:SortSt}{lo m:Nat}{Q:Option Nat->SortSt->Prop}(hm:lo+m<=(arrOf st0).size)(h1:1<=m)(b:Bs st0 lo st)
  (h:∀k st',Bs st0 lo st'->1<=k->k<=m->Up r (arrOf st') lo k->Q (some k) st'):wpS M A E s (countRun' lo m) Q st:=by
 rw[o1j]
 refine wpS_bind (g1f C hk hP hm (Nat.le_refl 1) h1 b Up.one fun n n1 n2 u hor=>?_)
 dsimp only
 by_cases g:n=m
 ·rw[if_pos (by simpa using g)]
  exact wpS_pure (h n st b n1 n2 u)
 ·rw[if_neg (by simpa using g)]
  have hlt:=hor.resolve_left g
  have hz:lo+n<=(arrOf st).size:=by rw[b.sz];omega
  by_cases g2:n > 1
  ·rw[if_pos g2]
   refine wpS_bind (q0t C hk hP b (by omega) (by omega) ?_)
   by_cases z:kr r (arrOf st) lo<kr r (arrOf st) (lo+n - 1)
   ·simp only[z,decide_true,if_true]
    exact wpS_pure (h n st b n1 n2 u)
   ·simp only[z,decide_false,Bool.false_eq_true,if_false]
    have all:∀k,lo<=k->k<lo+n->kr r (arrOf st) k=kr r (arrOf st) lo:=fun k p q=>by
     have e1:=u 0 (k - lo) (by omega) (by omega)
     have e2:=u (k - lo) (n - 1) (by omega) (by omega)
     rw[show lo+(k - lo)=k by omega]at e1 e2
     rw[show lo+(n - 1)=lo+n - 1 by omega]at e2
     rw[Nat.add_zero]at e1
     omega
    have d:Dw r (arrOf st) lo n:=fun i j ij hj=>by rw[all _ (by omega) (by omega),all (lo+i) (by omega) (by omega)];exact Int.le_refl _
    rw[reverseSlice'_eq]
    refine wpS_bind (wpS_modify (g1e C hk hP hm (by omega) (b.mir (by omega) (by omega)) ((d.more (by omega) ?_).cg (j0b hz all)) h))
    rw[show lo+(n - 1)=lo+n - 1 by omega];omega
  ·rw[if_neg g2]
   have:n=1:=by omega
   subst this
   refine g1e C hk hP hm (by omega) b (Dw.more (fun i j ij hj=>?_) (by omega) ?_) h
   ·have:i=j:=by omega
    subst this;exact Int.le_refl _
   ·rw[show lo+(1 - 1)=lo+1 - 1 by omega];omega
end
theorem l1b {r:Keyed->Int}{xs:Array Keyed}{lo n:Nat}{pre Y post:List Keyed}(u:Up r xs lo n)(e:xs.toList=pre++Y++post)(hp:pre.length=lo)(hy:Y.length=n):Srt r Y:=by
 refine List.pairwise_iff_getElem.mpr fun i j hi hj ij=>?_
 have g:∀k (h:k<Y.length),kr r xs (lo+k)=r Y[k]:=fun k h=>by
  subst hp
  obtain⟨q,e1⟩:=n1i e h
  unfold kr
  rw[Array.getElem?_eq_getElem q,e1];rfl
 have:=u i j (by omega) (by omega)
 rw[g i hi,g j hj]at this
 exact this
section
variable {prog:Program}{w:World}{A:Around}{E:Value->Shared->Prop}{s:Shared}{κ:SortKind}{r:Keyed->Int}{P:Keyed->Prop}
def k1d (M:Model)(A:Around)(E:Value->Shared->Prop)(s:Shared)(κ:SortKind)(r:Keyed->Int)(P:Keyed->Prop)(z:Nat):Prop:=∀(st:SortSt) (Q:Unit->SortSt->Prop),(∀x∈(arrOf st).toList,P x)->kindOf st=κ->failedOf st=none->pendingOf st = #[]->(arrOf st).size=z ->
 (∀st',(arrOf st').toList.Perm (arrOf st).toList->failedOf st'=none->Srt r (arrOf st').toList->Q () st')->wpS M A E s sortRuns' Q st
theorem i1c {M:Model}{z:Nat}(hz:z<64)(C:Cm M A E s κ r P):k1d M A E s κ r P z:=by
 intro st Q hP hk hf hp hs h
 rw[sortRuns'_eq]
 refine wpS_bind (wpS_get ?_)
 dsimp only
 rw[hs]
 have hm:1<=z->minRun' z z 0=z:=fun g=>by
  obtain⟨y,rfl⟩:∃y,z=y+1:=⟨z - 1,by omega⟩
  rw[minRun'_succ,if_pos hz]
 refine wpS_bind (wpS_mono (wpS_forRange (I:=fun x c st'=>(x=0/\c=(none,0)/\st'=st)∨(c=(none,z)/\Bs st 0 (setPending st' #[])/\(pendingOf st').size<=1/\Up r (arrOf st') 0 z))
  (Q:=fun c st'=>c=(none,z)/\Bs st 0 (setPending st' #[])/\(pendingOf st').size<=1/\Up r (arrOf st') 0 z) ?_ ?_ (.inl ⟨rfl,rfl,rfl⟩)) ?_)
 ·rintro x c st2 _ hx (⟨rfl,rfl,rfl⟩ | ⟨rfl,j⟩)
  ·dsimp only
   by_cases g:0>=z
   ·exfalso;omega
   rw[if_neg g,hm (by omega)]
   have stay:∀ {st3},Bs st2 0 st3->setPending st3 #[]=st3:=fun{st3} b=>by
    have:pendingOf st3 = #[]:=by rw[b.eq];exact hp
    rw[<- this]
   refine wpS_bind (n1r C hk hP (by omega) (by omega) (Bs.start st2 0) fun n st3 b3 h1 hn u3=>?_)
   dsimp only
   have fin:∀ {st4:SortSt} {n:Nat},n=z->Bs st2 0 st4->Up r (arrOf st4) 0 n->(none,0+n)=((none:Option Unit),z)/\Bs st2 0 (setPending (setPending st4 ((pendingOf st4).push (0,n,0))) #[])/\((pendingOf st4).push (0,n,0)).size<=1/\Up r (arrOf st4) 0 z:=fun{st4 n} e b u=>by
    subst e
    have pe:pendingOf st4 = #[]:=by rw[b.eq];exact hp
    refine⟨by rw[Nat.zero_add],?_,by rw[pe];simp,u⟩
    have:=stay b
    exact(show setPending (setPending st4 ((pendingOf st4).push (0,n,0))) #[]=st4 from this).symm▸b
   by_cases g2:n<z
   ·rw[if_pos g2]
    refine wpS_bind (wpS_lift (wpAny_rule ⟨rfl,?_⟩))
    refine wpS_bind (k1k C hk hP (by omega) (by omega) (by omega) b3 u3 fun st4 b4 u4=>?_)
    simp only[Bool.not_true,Bool.false_eq_true,if_false]
    refine wpS_bind (wpS_get ?_)
    have pe:pendingOf st4 = #[]:=by rw[b4.eq];exact hp
    rw[show(pendingOf st4).back? = none by rw[pe];rfl]
    dsimp only
    obtain⟨f1,f2⟩:=fin (n:=min (z - 0) z) (by omega) b4 u4
    exact wpS_bind (wpS_modify (wpS_pure (.inr ⟨by rw[show 0+min (z - 0) z=z by omega],f2⟩)))
   ·rw[if_neg g2]
    refine wpS_bind (wpS_get ?_)
    have pe:pendingOf st3 = #[]:=by rw[b3.eq];exact hp
    rw[show(pendingOf st3).back? = none by rw[pe];rfl]
    dsimp only
    obtain⟨f1,f2⟩:=fin (n:=n) (by omega) b3 u3
    exact wpS_bind (wpS_modify (wpS_pure (.inr ⟨by rw[show 0+n=z by omega],f2⟩)))
  ·dsimp only
   rw[if_pos (Nat.le_refl _)]
   exact wpS_pure ⟨rfl,j⟩
 ·rintro c st2 (⟨e,rfl,rfl⟩ | j)
  ·have:z=0:=by omega
   subst this
   refine⟨rfl,?_,by rw[hp];simp,fun i j a b=>by omega⟩
   have:setPending st2 #[]=st2:=by rw[<- hp]
   rw[this];exact Bs.start _ _
  ·exact j
 ·rintro c st2 ⟨rfl,b,k1,u⟩
  dsimp only
  refine wpS_bind (wpS_mono (wpS_forRange (I:=fun x c st'=>c=(none,())/\st'=st2) (Q:=fun c st'=>c=(none,())/\st'=st2) ?_ (fun _ _ q=>q) ⟨rfl,rfl⟩) ?_)
  ·rintro x c st3 _ hx ⟨rfl,rfl⟩
   refine wpS_bind (wpS_get ?_)
   rw[if_pos k1];exact wpS_pure ⟨rfl,rfl⟩
  ·rintro c st3 ⟨rfl,rfl⟩
   have pm:(arrOf st3).Perm (arrOf st):=b.pm
   refine wpS_pure (h st3 (Array.perm_iff_toList_perm.mp pm) ((congrArg failedOf b.eq).trans hf) ?_)
   exact l1b (pre:=[]) (post:=[]) u (by simp) rfl (by rw[Array.length_toList,pm.size_eq,hs])
theorem e1e {a:Addr}{vs:List Value}{n:Nat}{R:Fin->Shared->Prop}(ho:s.heap.get? a=some (seqObj "list" vs.toArray n))(hl:vs.length<=16777216)
  (hP:∀v∈vs,P (v,v))
  (hk:∀h':Heap,(∀b o,b≠a->s.heap.get? b=some o->h'.get? b=some o)->∀Q:SortKind->Shared->Prop,Q κ {s with heap:=h'}->2<=vs.length->wpAny (model prog w) A (keyKind' vs.toArray) Q E {s with heap:=h'})
  (hC:∀h':Heap,(∀b o,b≠a->s.heap.get? b=some o->h'.get? b=some o)->k1d (model prog w) A E {s with heap:=h'} κ r P vs.length)
  (h:∀ks:List Keyed,ks.Perm (vs.map fun v=>(v,v))->Srt r ks->R (.done (.ret .none)) {s with heap:=sortedHeap s.heap a vs (ks.map (·.2)).toArray}) :
  wpAny (model prog w) A (Builtin.«list.sort» ⟨[.ref a],[]⟩) R E s:=by
 rw[list_sort_plain]
 have la:a<s.heap.objs.size:=Heap.lt_size ho
 have hz:vs.toArray.size=vs.length:=by simp
 have zp:vs.toArray.zip vs.toArray=(vs.map fun v=>(v,v)).toArray:=by
  apply Array.toList_inj.mp
  simp
  clear ho hl hP hk hC h hz
  induction vs with
  | nil=>rfl
  | cons v vs ih=>simp[ih]
 obtain⟨e1,o1⟩:∃e1,(s.heap.update a (Obj.mapSeq fun _=>#[])).get? a=some (seqObj "list" #[] e1):=⟨_,get?_update_seq ho (fun _=>#[])⟩
 refine wpAny_bind (listItems_at ho rfl (wpAny_bind (listUpdate_at ho rfl ?_ (hsz:=by rw[hz,sizeLine_eq];exact hl))))
 refine wpAny_bind (seqEpoch_at o1 rfl (wpAny_bind (wpAny_newTuple (wpAny_bind (wpAny_newList (wpAny_holding ?_))) (by rw[sizeLine_eq];simpa using hl))))
 generalize hh:((s.heap.update a (Obj.mapSeq fun _=>#[])).push (seqObj "tuple" vs.toArray 0)).push (seqObj "list" #[] 0)=h6
 have o6:h6.get? a=some (seqObj "list" #[] e1):=by
  subst hh
  rw[Heap.get?_push_ne _ _ _ (by rw[size_push',Heap.size_update];exact Nat.ne_of_lt (Nat.lt_succ_of_lt la)),Heap.get?_push_ne _ _ _ (by rw[Heap.size_update];exact Nat.ne_of_lt la),o1]
 have kp:∀b o,b≠a->s.heap.get? b=some o->h6.get? b=some o:=fun b o hb q=>by
  have lb:=Heap.lt_size q
  subst hh
  rw[Heap.get?_push_ne _ _ _ (by rw[size_push',Heap.size_update];exact Nat.ne_of_lt (Nat.lt_succ_of_lt lb)),Heap.get?_push_ne _ _ _ (by rw[Heap.size_update];exact Nat.ne_of_lt lb),Heap.get?_update_ne _ _ _ _ hb,q]
 have hf:∀out:Array Value,h6.update a (Obj.mapSeq fun _=>out)=sortedHeap s.heap a vs out:=fun out=>by subst hh;rfl
 refine(show wpAny (model prog w) A _ R E {s with heap:=h6}from ?_)
 dsimp only
 rw[zp]
 by_cases g:vs.toArray.size<2
 ·rw[if_pos g,if_pos g]
  refine wpAny_bind (wpAny_pure ?_)
  rw[StateT.run_pure]
  refine wpAny_bind (wpAny_pure (wpAny_bind (seqEpoch_at o6 rfl (wpAny_bind (listUpdate_at o6 rfl ?_ (hsz2:=?_))))))
  ·simp only[bne_self_eq_false,Bool.false_eq_true,if_false]
   have:=h (vs.map fun v=>(v,v)) (List.Perm.refl _) (by
    match vs,g with
    | [],_=>exact List.Pairwise.nil
    | [v],_=>exact List.pairwise_singleton _ _
    | _::_::_,g=>simp at g;omega)
   rw[<- hf]at this
   refine wpAny_pure ?_
   rw[List.map_toArray]
   exact this
  ·rw[Array.size_map,sizeLine_eq]
   show(vs.map fun v=>(v,v)).toArray.size<=_
   simp;omega
 ·rw[if_neg g,if_neg g]
  refine wpAny_bind (hk h6 kp _ ?_ (by omega))
  refine wpAny_bind (wpAny_mono (hC h6 kp (SortSt.mk' κ (vs.map fun v=>(v,v)).toArray #[] 7 none) (fun _ st'=>(arrOf st').toList.Perm (vs.map fun v=>(v,v))/\failedOf st'=none/\Srt r (arrOf st').toList)
   (fun x hx=>?_) rfl rfl rfl (by show(vs.map fun v=>(v,v)).toArray.size=_;simp) fun st' a1 a2 a3=>⟨a1,a2,a3⟩) ?_ fun _ _ e=>e)
  ·obtain⟨v,hv,rfl⟩:=List.mem_map.mp (show x∈vs.map fun v=>(v,v)by simpa using hx)
   exact hP v hv
  ·rintro⟨⟨⟩,st'⟩ s' ⟨rfl,p1,p2,p3⟩
   have lz:(arrOf st').size=vs.length:=by rw[<- Array.length_toList,p1.length_eq,List.length_map]
   refine wpAny_bind (seqEpoch_at o6 rfl (wpAny_bind (listUpdate_at o6 rfl ?_ (hsz2:=?_))))
   ·rw[p2]
    simp only[bne_self_eq_false,Bool.false_eq_true,if_false]
    have:=h _ p1 p3
    rw[<- hf]at this
    refine wpAny_pure ?_
    have e:(arrOf st').map (·.2)=(List.map (·.2) (arrOf st').toList).toArray:=by
     apply Array.toList_inj.mp;simp
    rw[e];exact this
   ·rw[Array.size_map,sizeLine_eq,lz];omega
theorem x0p {l:Addr}{vs:List Value}{Q:Value->Shared->Prop}(hl:s.heap.IsList l vs.toArray)(hn:vs.length<=16777216)
  (hP:∀v∈vs,P (v,v))
  (hk:∀h':Heap,(∀b o,s.heap.get? b=some o->h'.get? b=some o)->∀Q:SortKind->Shared->Prop,Q κ {s with heap:=h'}->2<=vs.length->wpAny (model prog w) A.in1.in1 (keyKind' vs.toArray) Q E {s with heap:=h'})
  (hC:∀h':Heap,(∀b o,s.heap.get? b=some o->h'.get? b=some o)->k1d (model prog w) A.in1.in1 E {s with heap:=h'} κ r P vs.length)
  (h:∀ks:List Keyed,ks.Perm (vs.map fun v=>(v,v))->Srt r ks->Q (.ref (s.heap.objs.size+1)) {s with heap:=sortedAll s.heap vs (ks.map (·.2)).toArray}) :
  wpAny (model prog w) A (call (.builtin "sorted") [.ref l]) Q E s:=by
 refine Calls.call_function_entry kind_sorted plain_sorted entry_sorted (args_sorted1 _) ?_
 unfold Builtin.«sorted»
 refine wpAny_bind (m:=checkCount "sorted" 1 1 _) (wpAny_pure (wpAny_bind (collect_list hl (wpAny_bind (wpAny_newList ?_ (by rw[sizeLine_eq];exact hn))) (by rw[sizeLine_eq];exact hn))))
 have hz:((s.heap.push (seqObj "list" #[] 0)).update s.heap.objs.size (Obj.mapSeq (· ++ vs.toArray))).objs.size=s.heap.objs.size+1:=by rw[Heap.size_update,size_push']
 generalize hh:((s.heap.push (seqObj "list" #[] 0)).update s.heap.objs.size (Obj.mapSeq (· ++ vs.toArray))).push (seqObj "list" vs.toArray 0)=h4
 have oL:h4.get? (s.heap.objs.size+1)=some (seqObj "list" vs.toArray 0):=by subst hh;rw[<- hz];exact Heap.get?_push_size _ rfl
 have kp:∀b o,s.heap.get? b=some o->b≠s.heap.objs.size+1/\h4.get? b=some o:=fun b o q=>by
  have lb:=Heap.lt_size q
  refine⟨Nat.ne_of_lt (Nat.lt_succ_of_lt lb),?_⟩
  subst hh
  rw[Heap.get?_push_ne _ _ _ (by rw[hz];exact Nat.ne_of_lt (Nat.lt_succ_of_lt lb)),Heap.get?_update_ne _ _ _ _ (Nat.ne_of_lt lb),Heap.get?_push_ne _ _ _ (Nat.ne_of_lt lb),q]
 refine(show wpAny _ _ _ _ _ {s with heap:=h4}from ?_)
 rw[hz]
 refine wpAny_bind (wpAny_holding (wpAny_call_entry slot_list_sort ⟨_,oL,rfl⟩ entry_list_sort (e1e (κ:=κ) (r:=r) (P:=P) oL hn hP (fun h' q=>hk h' fun b o e=>q b o (kp b o e).1 (kp b o e).2) (fun h' q=>hC h' fun b o e=>q b o (kp b o e).1 (kp b o e).2) fun ks k1 k2=>⟨_,rfl,?_⟩) (args_list_sort _)))
 refine wpAny_pure ⟨_,rfl,?_⟩
 have:=h ks k1 k2
 subst hh
 exact this
end
section
variable {prog:Program}{w:World}{A:Around}{E:Value->Shared->Prop}{s:Shared}
theorem k1i {κ:SortKind}{M:Model}{x y:Keyed}{b:Bool}(hk:∀(E':Value->Shared->Prop) (Q:Bool->Shared->Prop),Q b s->wpAny M A (keyLt' κ x.1 y.1) Q E' s){st:SortSt}{Q:Option Bool->SortSt->Prop}(e:kindOf st=κ)(h:Q (some b) st):wpS M A E s (lt' x y) Q st:=by
 rw[lt'_eq]
 refine wpS_bind (wpS_get ?_)
 rw[e]
 refine wpS_bind (wpS_lift (wpAny_attempt (hk _ _ ?_)))
 exact⟨rfl,wpS_pure h⟩
end
end L2
set_option maxHeartbeats 1000000
namespace L2
open PySem PySem.Spec PyProof.Rows
open PySem.MeetsSeq PySem.MeetsSeq2 PySem.MeetsSeq3
open PySem.AutoSeq1 (wpAny_loadPart')
theorem u0n:∀ {vs:List Value} {ns:List Int} {i:Nat},IntsAre vs ns->i<vs.length->∃t,vs[i]? = some (.int (ns.getD i 0) t)/\ns.drop i=ns.getD i 0::ns.drop (i+1)
 | _,_,i,.nil,h=>by simp at h
 | _,_,0,.cons n t h,_=>⟨t,rfl,rfl⟩
 | _,_,i+1,.cons n t h,hl=>by
  obtain⟨u,h1,h2⟩:=u0n (i:=i) h (by simpa using hl)
  exact⟨u,by simpa using h1,by simpa using h2⟩
theorem j1a (l b:Addr)(items items2:Array Value)(n n2:Nat)(ns ms:List Int)(hi:IntsAre items.toList ns)(hj:IntsAre items2.toList ms)(k:Nat) :
  ∀i:Nat,items.size - i=k->i<=items.size->i<=items2.size->Meets (Builtin.«list.__eq__.loop» ⟨[.ref l,.ref b,rawInt i,rawInt 0],[]⟩)
   (fun _ R s=>s.heap.get? l=some {cls:=.type "list",dict:=none,data:=.seq items n,slots:=#[]}/\s.heap.get? b=some {cls:=.type "list",dict:=none,data:=.seq items2 n2,slots:=#[]} /\
    R (.ok (.ret (.bool (HT.lexLt (ns.drop i) (ms.drop i))))) s):=by
 have z1:items.size=ns.length:=by rw[<- hi.length];simp
 have z2:items2.size=ms.length:=by rw[<- hj.length];simp
 induction k with
 | zero =>
  intro i hk q1 q2 prog w A R s h
  obtain⟨hp,g,d,tk,os⟩:=s;obtain⟨hl,hb,h⟩:=h
  wp_walk using wpAny_loadPart' hl,wpAny_loadPart' hb
  have hi1:items[((i:Nat):Int).toNat]? = none:=by simp;omega
  have hd:ns.drop i=[]:=by simp;omega
  rw[hd]at h
  have fin:HT.lexLt [] (ms.drop i)=decide (items.size<items2.size):=by
   cases hm:ms.drop i with
   | nil =>
    have:ms.length<=i:=by simpa using hm
    rw[HT.lexLt_nil_nil];exact(decide_eq_false (by omega)).symm
   | cons a r =>
    have:i<ms.length:=by
     have:=congrArg List.length hm
     simp at this;omega
    rw[HT.lexLt_nil_cons];exact(decide_eq_true (by omega)).symm
  rw[fin]at h
  rw[hi1]
  cases items2[((i:Nat):Int).toNat]? with
  | none =>
   wp_walk using wpAny_loadPart' hl,wpAny_loadPart' hb
   exact h
  | some x =>
   wp_walk using wpAny_loadPart' hl,wpAny_loadPart' hb
   exact h
 | succ k ih =>
  intro i hk q1 q2 prog w A R s h
  obtain⟨hp,g,d,tk,os⟩:=s;obtain⟨hl,hb,h⟩:=h
  wp_walk using wpAny_loadPart' hl,wpAny_loadPart' hb
  have hlt:i<items.size:=by omega
  obtain⟨t,e1,d1⟩:=u0n (i:=i) hi (by simpa using hlt)
  have hi1:items[((i:Nat):Int).toNat]? = some (.int (ns.getD i 0) t):=by rw[Int.toNat_natCast,<- Array.getElem?_toList];exact e1
  by_cases g2:i<items2.size
  ·obtain⟨u,e2,d2⟩:=u0n (i:=i) hj (by simpa using g2)
   have hi2:items2[((i:Nat):Int).toNat]? = some (.int (ms.getD i 0) u):=by rw[Int.toNat_natCast,<- Array.getElem?_toList];exact e2
   have hc:((i:Int)+1)=((i+1:Nat):Int):=by push_cast;rfl
   rw[d1,d2,HT.lexLt_cons]at h
   rw[hi1,hi2]
   refine wpAny_bind (wpAny_eqBool_int ?_)
   by_cases e:ns.getD i 0=ms.getD i 0
   ·rw[if_pos e]at h
    rw[show(ns.getD i 0==ms.getD i 0)=true by simpa using e]
    wp_walk
    rw[hc]
    exact⟨plainId_quiet plain_eq_loop _,codeAny_builtin entry_eq_loop (by
     rw[Around.under_plainId plain_eq_loop _]
     exact ih (i+1) (by omega) (by omega) (by omega) prog w A R _ ⟨hl,hb,h⟩)⟩
   ·rw[if_neg e]at h
    rw[show(ns.getD i 0==ms.getD i 0)=false by simpa using e]
    wp_walk using wpAny_loadPart' hl,wpAny_loadPart' hb
    rw[hi1,hi2]
    refine wpAny_bind (wpAny_richCompare_same (op:=.Lt) (typeIs_int _ _ t) (typeIs_int _ _ u) slot_int_lt (call_int_lt ⟨(fun x=>nomatch x),?_⟩))
    wp_walk
    exact h
  ·have hi2:items2[((i:Nat):Int).toNat]? = none:=by simp;omega
   have d2:ms.drop i=[]:=by simp;omega
   rw[d1,d2,HT.lexLt_cons_nil]at h
   rw[hi1,hi2]
   wp_walk using wpAny_loadPart' hl,wpAny_loadPart' hb
   have:decide (items.size<items2.size)=false:=decide_eq_false (by omega)
   show R (.ok (.ret (.bool (decide (items.size<items2.size))))) _
   rw[this];exact h
theorem r0v (l b:Addr)(items items2:Array Value)(n n2:Nat)(ns ms:List Int)(hi:IntsAre items.toList ns)(hj:IntsAre items2.toList ms) :
  Meets (Builtin.«list.__lt__» ⟨[.ref l,.ref b],[]⟩)
   (fun _ R s=>s.heap.get? l=some {cls:=.type "list",dict:=none,data:=.seq items n,slots:=#[]}/\s.heap.get? b=some {cls:=.type "list",dict:=none,data:=.seq items2 n2,slots:=#[]} /\
    R (.ok (.ret (.bool (HT.lexLt ns ms)))) s):=by
 intro prog w A R s h
 obtain⟨hp,g,d,tk,os⟩:=s;obtain⟨hl,hb,h⟩:=h
 have f3:=AutoSeq1.sub_list_list
 wp_walk using wpAny_loadPart' hl,wpAny_loadPart' hb
 exact⟨plainId_quiet plain_eq_loop _,codeAny_builtin entry_eq_loop (by
  rw[Around.under_plainId plain_eq_loop _]
  exact j1a l b items items2 n n2 ns ms hi hj _ 0 rfl (Nat.zero_le _) (Nat.zero_le _) prog w A R _ ⟨hl,hb,by simpa using h⟩)⟩
def rkL:Nat->List Int->Int
 | 0,_=>0
 | _+1,[]=>0
 | k+1,x::xs=>(x+1)*1000^k+rkL k xs
def okL (ns:List Int):Prop:=∀x∈ns,0<=x/\x<998
theorem r0b:∀(k:Nat) (xs:List Int),okL xs->0<=rkL k xs/\rkL k xs<1000^k
 | 0,xs,_=>⟨Int.le_refl _,by show(0:Int)<1000^0;decide⟩
 | k+1,[],_=>⟨Int.le_refl _,Int.pow_pos (by decide)⟩
 | k+1,x::xs,h=>by
  have ih:=r0b k xs fun y hy=>h y (List.mem_cons_of_mem _ hy)
  obtain⟨h1,h2⟩:=h x (List.mem_cons_self ..)
  have hp:(0:Int)<1000^k:=Int.pow_pos (by decide)
  have m1:0<=(x+1)*1000^k:=Int.mul_nonneg (by omega) (by omega)
  have m2:(x+1)*1000^k<=998*1000^k:=Int.mul_le_mul_of_nonneg_right (by omega) (by omega)
  show 0<=(x+1)*1000^k+rkL k xs/\(x+1)*1000^k+rkL k xs<1000^(k+1)
  rw[Int.pow_succ]
  omega
theorem a1f:∀(k:Nat) (xs ys:List Int),xs.length<=k->ys.length<=k->okL xs->okL ys->HT.lexLt xs ys=decide (rkL k xs<rkL k ys)
 | 0,[],[],_,_,_,_=>rfl
 | 0,_::_,_,h,_,_,_=>by simp at h
 | 0,[],_::_,_,h,_,_=>by simp at h
 | k+1,[],[],_,_,_,_=>by rw[HT.lexLt_nil_nil];exact(decide_eq_false (by simp[rkL])).symm
 | k+1,[],y::ys,_,_,_,hy=>by
  have ih:=r0b k ys fun z hz=>hy z (List.mem_cons_of_mem _ hz)
  obtain⟨h1,h2⟩:=hy y (List.mem_cons_self ..)
  have hp:(0:Int)<1000^k:=Int.pow_pos (by decide)
  have m1:1*1000^k<=(y+1)*1000^k:=Int.mul_le_mul_of_nonneg_right (by omega) (by omega)
  rw[HT.lexLt_nil_cons]
  refine(decide_eq_true ?_).symm
  show(0:Int)<(y+1)*1000^k+rkL k ys
  omega
 | k+1,x::xs,[],_,_,hx,_=>by
  have ih:=r0b k xs fun z hz=>hx z (List.mem_cons_of_mem _ hz)
  obtain⟨h1,h2⟩:=hx x (List.mem_cons_self ..)
  have hp:(0:Int)<1000^k:=Int.pow_pos (by decide)
  have m1:0<=(x+1)*1000^k:=Int.mul_nonneg (by omega) (by omega)
  rw[HT.lexLt_cons_nil]
  refine(decide_eq_false ?_).symm
  show ¬(x+1)*1000^k+rkL k xs<0
  omega
 | k+1,x::xs,y::ys,lx,ly,hx,hy=>by
  have ih:=a1f k xs ys (by simpa using lx) (by simpa using ly) (fun z hz=>hx z (List.mem_cons_of_mem _ hz)) (fun z hz=>hy z (List.mem_cons_of_mem _ hz))
  have b1:=r0b k xs fun z hz=>hx z (List.mem_cons_of_mem _ hz)
  have b2:=r0b k ys fun z hz=>hy z (List.mem_cons_of_mem _ hz)
  have hp:(0:Int)<1000^k:=Int.pow_pos (by decide)
  rw[HT.lexLt_cons]
  show _=decide ((x+1)*1000^k+rkL k xs<(y+1)*1000^k+rkL k ys)
  by_cases e:x=y
  ·subst e
   rw[if_pos rfl,ih,decide_eq_decide]
   omega
  ·rw[if_neg e,decide_eq_decide]
   constructor
   ·intro g
    have:=Int.mul_le_mul_of_nonneg_right (c:=1000^k) (show x+1+1<=y+1 by omega) (by omega)
    rw[Int.add_mul (x+1)]at this
    omega
   ·intro g
    rcases Int.lt_or_gt_of_ne e with z | z
    ·exact z
    ·have:=Int.mul_le_mul_of_nonneg_right (c:=1000^k) (show y+1+1<=x+1 by omega) (by omega)
     rw[Int.add_mul (y+1)]at this
     omega
def LsAt (h:Heap)(a:Addr)(ns:List Int):Prop:=∃vs n,IntsAre vs ns/\h.get? a=some (seqObj "list" vs.toArray n)
theorem LsAt.kept {h h':Heap}{a:Addr}{ns:List Int}(x:LsAt h a ns)(k:∀b o,h.get? b=some o->h'.get? b=some o):LsAt h' a ns:=by
 obtain⟨vs,n,i,e⟩:=x
 exact⟨vs,n,i,k _ _ e⟩
theorem l0b:∀ {vs:List Value} {ns ms:List Int},IntsAre vs ns->IntsAre vs ms->ns=ms
 | _,_,_,.nil,.nil=>rfl
 | _,_,_,.cons n t h,.cons _ _ h'=>by rw[l0b h h']
theorem LsAt.uniq {h:Heap}{a:Addr}{ns ms:List Int}(x:LsAt h a ns)(y:LsAt h a ms):ns=ms:=by
 obtain⟨vs,n,i,e⟩:=x
 obtain⟨vs',n',i',e'⟩:=y
 rw[e]at e'
 have hd:(Data.seq vs.toArray n) = .seq vs'.toArray n':=congrArg Obj.data (Option.some.inj e')
 injection hd with h1 h2
 have:vs=vs':=by simpa using congrArg Array.toList h1
 subst this
 exact l0b i i'
open Classical in
noncomputable def lsOf (h:Heap)(v:Value):List Int:=match v with
 | .ref a=>if x:∃ns,LsAt h a ns then x.choose else[]
 | _=>[]
theorem m0q {h:Heap}{a:Addr}{ns:List Int}(x:LsAt h a ns):lsOf h (.ref a)=ns:=by
 unfold lsOf
 have e:∃p,LsAt h a p:=⟨ns,x⟩
 dsimp only
 rw[dif_pos e]
 exact e.choose_spec.uniq x
section
variable {prog:Program}{w:World}{A:Around}{E:Value->Shared->Prop}{s:Shared}
theorem x0v {a b:Addr}{ns ms:List Int}{Q:Bool->Shared->Prop}(hu:A.units<cLine)(x:LsAt s.heap a ns)(y:LsAt s.heap b ms)(h:Q (HT.lexLt ns ms) s):wpAny (model prog w) A (oneLt' true (.ref a) (.ref b)) Q E s:=by
 obtain⟨vs,n,i,e⟩:=x
 obtain⟨vs',n',i',e'⟩:=y
 rw[oneLt'_eq]
 simp only[if_true]
 refine wpAny_bind (wpAny_cRoomFor hu ?_)
 refine wpAny_bind (wpAny_callSpecialIfBound?_slot ⟨_,e,rfl⟩ PySem.F.slot_list_lt (call_meets PySem.F.slot_list_lt ⟨_,e,rfl⟩ PySem.F.entry_list_lt (PySem.F.args_list_lt_2 _ _) (r0v a b _ _ n n' ns ms (by simpa using i) (by simpa using i')) ⟨e,e',?_⟩))
 exact wpAny_truthy_bool h
theorem j1w (hu:A.units<cLine){h0:Heap}(k:∀b o,h0.get? b=some o->s.heap.get? b=some o):Cm (model prog w) A E s oneType' (fun z=>rkL 100 (lsOf h0 z.1)) (fun z=>∃a ns,z.1 = .ref a/\LsAt h0 a ns/\ns.length<=100/\okL ns):=by
 refine⟨fun x y hx hy st Q e h=>?_⟩
 obtain⟨a,p,ea,pa,lp,kp⟩:=hx
 obtain⟨b,q,eb,pb,lq,kq⟩:=hy
 rw[ea,eb,m0q pa,m0q pb]at h
 refine k1i (κ:=oneType') (b:=HT.lexLt p q) (fun E' Q q'=>?_) e ?_
 ·rw[ea,eb,keyLt'_oneType]
  exact x0v hu (pa.kept k) (pb.kept k) q'
 ·rw[a1f 100 p q lp lq kp kq];exact h
theorem r0z {vs:List Value}{Q:SortKind->Shared->Prop}(hv:∀v∈vs,∃a ns,v = .ref a/\LsAt s.heap a ns)(h2:1<=vs.length)(h:Q oneType' s):wpAny (model prog w) A (keyKind' vs.toArray) Q E s:=by
 have ty:∀v∈vs,s.TypeIs v "list" := fun v hv'=>by
  obtain⟨a,ns,rfl,us,n,_,e⟩:=hv v hv'
  exact⟨_,e,rfl⟩
 have firsts:∀(vs:List Value),(∀v∈vs,s.TypeIs v "list")->∀Q:List (Option Value)->Shared->Prop,Q (vs.map fun _=>none) s->wpAny (model prog w) A (vs.mapM firstOfTuple') Q E s:=by
  intro vs
  induction vs with
  | nil=>intro _ Q q;rw[List.mapM_nil];exact wpAny_pure q
  | cons v vs ih =>
   intro hv Q q
   rw[List.mapM_cons]
   refine wpAny_bind ?_
   show wpAny (model prog w) A (do
    if(<- typeOf v) != .type "tuple" then return none
    return (<- Builtin.List.listItems v)[0]?) _ E s
   refine wpAny_bind (wpAny_typeOf (T := "list") (hv v (List.mem_cons_self ..)) ?_)
   rw[if_pos (by decide)]
   exact wpAny_pure (wpAny_bind (ih (fun v' z=>hv v' (List.mem_cons_of_mem _ z)) _ (wpAny_pure q)))
 have types:∀(vs:List Value),(∀v∈vs,s.TypeIs v "list")->∀Q:List Value->Shared->Prop,Q (vs.map fun _=>Value.type "list") s->wpAny (model prog w) A (vs.mapM typeOf) Q E s:=by
  intro vs
  induction vs with
  | nil=>intro _ Q q;rw[List.mapM_nil];exact wpAny_pure q
  | cons v vs ih =>
   intro hv Q q
   rw[List.mapM_cons]
   exact wpAny_bind (wpAny_typeOf (T := "list") (hv v (List.mem_cons_self ..)) (wpAny_bind (ih (fun v' z=>hv v' (List.mem_cons_of_mem _ z)) _ (wpAny_pure q))))
 obtain⟨v0,vs',rfl⟩:∃v vs',vs=v::vs':=by
  cases vs with
  | nil=>simp at h2
  | cons v vs=>exact⟨v,vs,rfl⟩
 rw[keyKind'_eq,List.mapM_toArray]
 refine wpAny_bind (wpAny_bind (firsts _ ty _ (wpAny_pure ?_)))
 rw[if_neg (by simp),if_neg (by simp),oneTypeOnly'_eq,List.mapM_toArray]
 refine wpAny_bind (wpAny_bind (wpAny_bind (types _ ty _ (wpAny_pure ?_))))
 have hall:((List.map (fun _=>Value.type "list") (v0::vs')).toArray.all fun x=>x==Value.type "list")=true:=by
  simp only[List.all_toArray,List.all_map,List.all_eq_true]
  intro _ _
  rfl
 have h0:(List.map (fun _=>Value.type "list") (v0::vs')).toArray[0]? = some (Value.type "list"):=by simp
 rw[h0]
 simp only[hall,if_true]
 exact wpAny_pure (wpAny_pure h)
end
def vOf:Value->V
 | .ref a=>.ref a
 | _=>.non
def lstI (ns:List Int):D:=.lst (ns.map D.int)
def leL (ns ms:List Int):Prop:=HT.lexLt ms ns=false
section
variable {X:Cx}(K:PySem.W.Frag)
def a1i (K:PySem.W.Frag):List V->Hp->VK->Prop:=fun xs H Q=>∃(p:Addr) (us:List V) (nss:List (List Int)),xs=[.ref p]/\SqL K H p us/\RepDs K H us (nss.map lstI)/\nss.length<64/\(∀ns∈nss,ns.length<=100/\okL ns) /\
 ∀(us':List V) (nss':List (List Int)),us'.length=nss'.length->(us'.zip nss').Perm (us.zip nss)->nss'.Pairwise leL->∀l,H l=none->Q (.ref l) (upd H l (.lst us'))
theorem j1b {pins:List (Addr×Obj)}{σ:St}{H:Hp}{s:Shared}(I:Inv X pins σ H s){v:V}{u:Value}{ns:List Int}(rv:RelV v u)(h:RepD X.K H v (lstI ns)):∃a,v = .ref a/\u = .ref a/\LsAt s.heap a ns:=by
 unfold lstI RepD at h
 obtain⟨a,vs,rfl,st,rd⟩:=h
 rw[g0b]at rd
 subst rd
 obtain⟨_,its,n,r,e⟩:=(show d0y X.prog X.w H s.heap a (.lst (ns.map V.int))from I.hok a _ st)
 exact⟨a,rfl,rv,its,n,i0m r,e⟩
theorem v0c (hu:X.A.units+64<cLine)(hK:X.K=K:=by rfl):h0n X (.builtin "sorted") (a1i K):=by
 subst hK
 intro pins s σ H xs us Q I r h
 obtain⟨a,vs,nss,rfl,hq,rd,hl,hb,q1⟩:=h
 obtain⟨u1,rfl,ru⟩:=i0q r
 cases ru
 obtain⟨its,rv,pl,hz⟩:=I.list hq
 have l1:its.length=vs.length:=by have:=rv.length;omega
 have l2:vs.length=nss.length:=by have:=rd.length;rw[List.length_map]at this;omega
 have at':∀i (hi:i<its.length),∃b,its[i] = .ref b/\vs[i]'(by omega) = .ref b/\LsAt s.heap b (nss[i]'(by omega)):=fun i hi=>by
  obtain⟨z,e1,e2⟩:=rv.get (i:=i) (x:=vs[i]'(by omega)) (List.getElem?_eq_getElem _)
  rw[List.getElem?_eq_getElem hi]at e1
  cases e1
  obtain⟨t,g1,g2⟩:=rd.get (i:=i) (d:=lstI (nss[i]'(by omega))) (by rw[List.getElem?_map,List.getElem?_eq_getElem (by omega)];rfl)
  rw[List.getElem?_eq_getElem (by omega)]at g1
  cases g1
  obtain⟨b,h1,h2,h3⟩:=j1b I e2 g2
  exact⟨b,h2,h1,h3⟩
 have hv:∀v∈its,∃b ns,v = .ref b/\LsAt s.heap b ns/\ns.length<=100/\okL ns:=fun v hv=>by
  obtain⟨i,hi,rfl⟩:=List.getElem_of_mem hv
  obtain⟨b,h1,_,h3⟩:=at' i hi
  have:=hb _ (List.getElem_mem (by omega:i<nss.length))
  exact⟨b,_,h1,h3,this.1,this.2⟩
 have hu1:X.A.in1.in1.units<cLine:=by rw[f0q,f0q];omega
 refine x0p (κ:=oneType') (r:=fun z=>rkL 100 (lsOf s.heap z.1)) (P:=fun z=>∃a ns,z.1 = .ref a/\LsAt s.heap a ns/\ns.length<=100/\okL ns) pl.isList (by omega) hv (fun h' kp Q q g=>?_) (fun h' kp=>i1c (by omega) (j1w hu1 kp)) fun ks k2 k3=>?_
 ·refine r0z (s:={s with heap:=h'}) (fun v hv'=>?_) (by omega) q
  obtain⟨b,ns,e1,e2,_⟩:=hv v hv'
  exact⟨b,ns,e1,e2.kept kp⟩
 ·obtain⟨e,he⟩:=sortedAll_at s.heap its (ks.map (·.2)).toArray
  have k4:∀k∈ks,k.1=k.2/\k.2∈its:=fun k hk=>by
   obtain⟨v,h1,h2⟩:=List.mem_map.mp (k2.mem_iff.mp hk)
   subst h2;exact⟨rfl,h1⟩
  have pm:(ks.map (·.2)).Perm its:=by
   have:=k2.map (·.2)
   rw[List.map_map]at this
   exact this.trans (List.Perm.of_eq (List.map_id' _))
  have back:∀v∈its,RelV (vOf v) v:=fun v hv'=>by
   obtain⟨b,ns,rfl,_⟩:=hv v hv'
   exact rfl
  have klen:ks.length=its.length:=by rw[<- List.length_map (f:=(·.2)),pm.length_eq]
  have hfr:=I.hok.fresh (P:=X.prog) (w:=X.w) (h:=s.heap) (a:=s.heap.objs.size+1) (Nat.le_succ _)
  refine⟨.ref (s.heap.objs.size+1),_,I.laid (t':=s.toks) (o:=.lst ((ks.map (·.2)).map vOf)) (fun b o q=>sortedAll_old q) (Nat.le_succ _) ⟨?_,ks.map (·.2),e,?_,?_⟩,rfl,q1 ((ks.map (·.2)).map vOf) ((ks.map (·.2)).map (lsOf s.heap)) (by simp) ?_ ?_ _ hfr⟩
  ·rw[List.length_map,List.length_map,klen]
   exact Nat.le_trans (show its.length<=16777216 by omega) (Nat.le_of_eq sizeLine_eq.symm)
  ·have:∀l:List Value,(∀v∈l,RelV (vOf v) v)->Vals (l.map vOf) l:=by
    intro l
    induction l with
    | nil=>intro _;exact .nil
    | cons v l ih=>intro h;exact .cons (h v (List.mem_cons_self ..)) (ih fun v' z=>h v' (List.mem_cons_of_mem _ z))
   exact this _ fun v hv'=>back v (pm.mem_iff.mp hv')
  ·rw[he]
  ·have e1:its.map vOf=vs:=by
    refine List.ext_getElem (by simp;omega) fun i h1 h2=>?_
    rw[List.getElem_map]
    obtain⟨b,g1,g2,_⟩:=at' i (by simpa using h1)
    rw[g1,g2];rfl
   have e2:its.map (lsOf s.heap)=nss:=by
    refine List.ext_getElem (by simp;omega) fun i h1 h2=>?_
    rw[List.getElem_map]
    obtain⟨b,g1,g2,g3⟩:=at' i (by simpa using h1)
    rw[g1,m0q g3]
   have e3:∀l:List Value,(l.map vOf).zip (l.map (lsOf s.heap))=l.map fun v=>(vOf v,lsOf s.heap v):=fun l=>by
    induction l with
    | nil=>rfl
    | cons v l ih=>rw[List.map_cons,List.map_cons,List.map_cons,List.zip_cons_cons,ih]
   rw[<- e1,<- e2,e3,e3]
   exact pm.map _
  ·rw[List.map_map]
   refine List.pairwise_map.mpr (List.Pairwise.imp_of_mem (fun{x y} hx' hy' q=>?_) k3)
   dsimp only at q
   rw[(k4 x hx').1,(k4 y hy').1]at q
   obtain⟨b1,n1,f1,f2,f3,f4⟩:=hv x.2 (k4 x hx').2
   obtain⟨b2,n2,g1,g2,g3,g4⟩:=hv y.2 (k4 y hy').2
   show HT.lexLt (lsOf s.heap y.2) (lsOf s.heap x.2)=false
   rw[f1,g1,m0q f2,m0q g2]at q ⊢
   rw[a1f 100 n2 n1 g3 f3 g4 f4]
   exact decide_eq_false (by omega)
end
section
variable {K:PySem.W.Frag}
@[irreducible] def gSortLL:List R->AE:=fun rs ρ q=>match rs with
 | [r]=>∃nss:List (List Int),view ρ r=some (.lst (nss.map lstI))/\nss.length<64/\(∀ns∈nss,ns.length<=100/\okL ns)/\∀nss':List (List Int),nss'.Perm nss->nss'.Pairwise leL->q (.f (nss'.map lstI)) ρ
 | _=>False
theorem r0d {H:Hp}:∀ {us:List V} {nss:List (List Int)},RepDs K H us (nss.map lstI)->∀z∈us.zip nss,RepD K H z.1 (lstI z.2)
 | [],_,_,z,h=>by simp at h
 | _::_,[],_,z,h=>by simp at h
 | u::us,ns::nss,r,z,h=>by
  rw[List.map_cons]at r
  unfold RepDs at r
  rw[List.zip_cons_cons]at h
  rcases List.mem_cons.mp h with rfl | h
  ·exact r.1
  ·exact r0d r.2 z h
theorem w0d {H:Hp}:∀ {us:List V} {nss:List (List Int)},us.length=nss.length->(∀z∈us.zip nss,RepD K H z.1 (lstI z.2))->RepDs K H us (nss.map lstI)
 | [],[],_,_=>by unfold RepDs;trivial
 | [],_::_,h,_=>by simp at h
 | _::_,[],h,_=>by simp at h
 | u::us,ns::nss,h,r=>by
  rw[List.map_cons]
  unfold RepDs
  exact⟨r (u,ns) (by simp),w0d (by simpa using h) fun z hz=>r z (by simp[hz])⟩
theorem v0b:CbOk K (a1i K) gSortLL:=by
 intro F σ ρ H vs rs q Q a i h b
 unfold gSortLL at h
 split at h
 ·obtain⟨y,rfl,iy⟩:=i.one
  obtain⟨nss,hv,hl,hb,h1⟩:=h
  obtain⟨l,us,rfl,sq,rd⟩:=c0m a iy hv
  refine⟨l,us,nss,rfl,sq,rd.same c0e,hl,hb,fun us' nss' el pm so p hp=>b.new a (h1 nss' ?_ so) (w0d el fun z hz=>r0d rd z (pm.mem_iff.mp hz)) hp⟩
  have e1:=rd.length
  rw[List.length_map]at e1
  have:=pm.map Prod.snd
  rw[List.map_snd_zip (by omega),List.map_snd_zip (by omega)]at this
  exact this
 ·exact h.elim
theorem o0p {r:R}{ρ:En}{q:Ko}{nss:List (List Int)}(hv:view ρ r=some (.lst (nss.map lstI)))(hl:nss.length<64)(hb:∀ns∈nss,ns.length<=100/\okL ns)(h1:∀nss':List (List Int),nss'.Perm nss->nss'.Pairwise leL->q (.f (nss'.map lstI)) ρ):gSortLL [r] ρ q:=by
 unfold gSortLL
 exact⟨nss,hv,hl,hb,h1⟩
theorem w0r:∀ {xs ys:List Int},HT.lexLt xs ys=false->HT.lexLt ys xs=false->xs=ys
 | [],[],_,_=>rfl
 | [],_::_,h,_=>by rw[HT.lexLt_nil_cons]at h;cases h
 | _::_,[],_,h=>by rw[HT.lexLt_nil_cons]at h;cases h
 | x::xs,y::ys,h1,h2=>by
  rw[HT.lexLt_cons]at h1 h2
  by_cases e:x=y
  ·subst e
   rw[if_pos rfl]at h1 h2
   rw[w0r h1 h2]
  ·rw[if_neg e]at h1
   rw[if_neg (Ne.symm e)]at h2
   have:=of_decide_eq_false h1
   have:=of_decide_eq_false h2
   omega
theorem t0l {xs ys:List (List Int)}(p:xs.Perm ys)(h1:xs.Pairwise leL)(h2:ys.Pairwise leL):xs=ys :=
 List.Perm.eq_of_pairwise (le:=leL) (fun a b _ _ q1 q2=>w0r q2 q1) h1 h2 p
end
end L2
namespace L2
open PySem PySem.Spec PyProof.Rows PySem.W
end L2
namespace L2
open PySem PySem.Spec PyProof.Rows Builtin
end L2
namespace L2
open PySem PySem.Spec PyProof.Rows
def Itw (K:PySem.W.Frag)(l:Addr)(n:Nat):It :=
 ⟨fun i H=>∃xs x,SqL K H l xs/\xs.length=n/\i<n/\xs[n - 1 - i]? = some x,fun i H x H'=>H'=H/\∀xs,SqL K H l xs->xs[n - 1 - i]? = some x,fun i H=>n<=i⟩
theorem d1w {P:Program}{w:World}{K:PySem.W.Frag}{tg:Expr}(a it:Addr)(n:Nat):Turn P w K tg (Itw K a n) [it] it (fun i h=>i<=n/\h.IsRevIter it a ((n:Int) - 1 - (i:Int))) where
 mem:=by simp
 obj:=fun i h st b hb=>by
  have e:b=it:=by simpa using hb
  subst e
  obtain⟨_,o,e,c,d⟩:=st
  exact⟨o,e,fun v z=>by rw[d]at z;cases z⟩
 keep:=fun i h h' st k=>⟨st.1,st.2.at fun o e=>k it (by simp) o e⟩
 item:=by
  intro X hP hw hK hc i pins s σ H E I hf st hg
  subst hP hw hK
  obtain⟨xs,x,hq,hn,hi,hx⟩:=hg
  obtain⟨its,rv,p,hz⟩:=I.list hq
  obtain⟨u,hu,ru⟩:=rv.get hx
  obtain⟨f0,f1,f2,f3,f4,f5⟩:=hf it (by simp)
  have st2:=st.2
  rw[show(n:Int) - 1 - (i:Int)=((n - 1 - i:Nat):Int)by omega]at st2
  refine wpAny_pyNext_rev_item st2 p.isList (x:=u) (by simpa using hu) fun h' st' sb=>?_
  have I1:Inv X pins σ H {s with heap:=h'}:=I.turned (t':=s.toks) (fun b o hb e=>(sb.2 b hb).trans e) f0 f1 f3 f4 f5
  rw[show((n - 1 - i:Nat):Int) - 1=(n:Int) - 1 - ((i+1:Nat):Int)by omega]at st'
  obtain⟨o,e,c,d⟩:=id st'
  exact⟨u,rfl,f1g (s:={s with heap:=h'}) e c d (by decide) ⟨x,H,I1,ru,⟨rfl,fun ys hy=>by rw[I.list_inj hy hq];exact hx⟩,⟨by omega,st'⟩,fun b hb=>(hf b hb).1⟩⟩
 done:=by
  intro X hP hw hK hc i pins s σ H E I hf st hg
  subst hP hw hK
  obtain⟨f0,f1,f2,f3,f4,f5⟩:=hf it (by simp)
  have hg':n<=i:=hg
  have st2:=st.2
  have st1:=st.1
  rw[show(n:Int) - 1 - (i:Int) = -1 by omega]at st2
  exact wpAny_pyNext_rev_end (I.ok.hd hc) st2 fun h' eb=>⟨rfl,I.turned (t':=s.toks) (fun b o hb e=>eb b o hb e) f0 f1 f3 f4 f5⟩
 self:=fun _ _ _ _ _ st h=>wpAny_pyIter_revIter st.2 h
def iRev (K:PySem.W.Frag)(t:TA):TI:=fun σ H R=>t σ H fun vs H1=>∃l xs,vs=[.ref l]/\SqL K H1 l xs/\R (Itw K l xs.length) H1
theorem l1q (K:PySem.W.Frag){X:Cx}{tg:Expr}{a:Expr}{ta:TA}{p pos:Pos}(hg:Gl X "reversed")(hm:X.mg "reversed" = none)(ha:PA X [a] ta)(hK:X.K=K:=by rfl)(hs:starEach [a] X.env=[(false,eval a X.env)]:=by rfl) :
  PI X tg (.Call (.Name "reversed" p) [a] [] pos) (iRev K ta):=by
 subst hK
 intro pins s σ H R I h
 refine Call_ (g0m I hg hm v0e (PyProof.Rows.callWith_type1 (thn (ha pos pins s σ H _ I h) fun us s1 ⟨vs,H1,I1,r1,q1⟩=>?_) hs rfl))
 obtain⟨l,xs,rfl,h1,q⟩:=q1
 obtain⟨u,rfl,ru⟩:=i0q r1
 cases ru
 obtain⟨its,rv,p1,_⟩:=I1.list h1
 have hl:=rv.length
 refine call_reversed_list p1.isList ?_
 have it:Heap.IsRevIter (s1.heap.push (revObj l ((its.toArray.size:Int) - 1))) s1.heap.objs.size l ((xs.length:Int) - 1 - ((0:Nat):Int)):=⟨_,Heap.get?_push_size _ rfl,rfl,by rw[List.size_toArray,<- hl];simp[revObj]⟩
 refine wpAny_pyIter_revIter it ?_
 refine⟨s1.heap.objs.size,[s1.heap.objs.size],_,_,H1,rfl,I1.kept (t':=s1.toks) fun b o e=>Heap.get?_push_of_some _ e,d1w l _ xs.length,⟨Nat.zero_le _,it⟩,fun b hb=>?_,q⟩
 have e:b=s1.heap.objs.size:=by simpa using hb
 subst e
 exact I1.fpOk (Nat.le_refl _) (I1.hok.fresh (Nat.le_refl _))
section
variable {K:PySem.W.Frag}{ts:TA}{as:AA}
theorem k1n {S:Addr->Prop}{H:Hp}{a:Addr}{vs:List V}{ds:List D}(h:SqL K H a vs)(rd:RepDs K (hid H S) vs ds):WkAt K S H (Itw K a vs.length) ds.reverse:=by
 have hl:=rd.length
 intro k
 constructor
 ·intro d e
  have hk:k<ds.length:=by
   have:=(List.getElem?_eq_some_iff.mp e).1
   rwa [List.length_reverse]at this
  rw[List.getElem?_reverse hk]at e
  obtain⟨v,e1,rv⟩:=rd.get e
  rw[<- hl]at e1
  refine⟨⟨vs,v,h,rfl,by omega,e1⟩,fun x H' z=>⟨z.1▸Same.refl H,?_⟩⟩
  have:=z.2 vs h
  rw[e1]at this;cases this;rw[z.1];exact rv
 ·intro z
  rw[List.length_reverse]at z
  show vs.length<=k
  omega
theorem z0a {pin:Nat->Bool}{ρ:En}{r:R}{ds:List D}{c:En->Prop}(e:q0u pin ρ r=some (ds,c)):c ρ:=by
 cases r with
 | n s=>cases e
 | t n=>cases e
 | x n=>cases e
 | d d =>
  cases d with
  | lst es=>simp only[q0u,Option.some.injEq,Prod.mk.injEq]at e;rw[<- e.2];trivial
  | _=>cases e
 | o i =>
  unfold q0u at e
  cases hg:gt ρ i with
  | ow es =>
   simp only[hg]at e
   split at e
   ·simp only[Option.some.injEq,Prod.mk.injEq]at e
    rw[<- e.2];exact hg
   ·cases e
  | _=>simp[hg]at e
def aRvd (pin:Nat->Bool)(as:AA):AI:=fun ρ q=>as ρ fun rs ρ1=>match rs with
 | [r1]=>(match q0u pin ρ1 r1 with
  | some (ds,c)=>q ds.reverse c ρ1
  | _=>False)
 | _=>False
theorem e1b {pin:Nat->Bool}(h:TAok K ts as):TIok K pin (iRev K ts) (aRvd pin as):=by
 intro F σ ρ H q Rk r ha k
 refine h F σ ρ H _ _ r ha fun rs ρ1 vs H1 h1 r1 i1 k1=>?_
 split at h1
 ·obtain⟨x,rfl,ix⟩:=i1.one
  split at h1
  ·rename_i ds c e1
   obtain⟨l1,us1,rfl,s1,w1⟩:=v0r r1 ix e1
   obtain⟨v0,z0,rd0⟩:=w1 σ ρ1 H1 (Same.refl _) r1.sl (fun _ _ _ e=>e) (z0a e1)
   refine⟨l1,v0,rfl,z0,k _ _ _ _ _ h1 r1 k1 fun σ2 ρ2 H2 sm sv pn al hc=>?_⟩
   obtain⟨v1,z1,rd1⟩:=w1 σ2 ρ2 H2 sm sv pn hc
   have:=k1n z1 rd1
   rw[rd1.length,<- rd0.length]at this
   exact this
  ·exact h1.elim
 ·exact h1.elim
end
theorem m0x {prog:Program}{w:World}{A:Around}(hh:A.handled=none)(it l:Addr)(hne:l≠it)(xs:Array Value) :
  Draws prog w A it [it,l] xs.size (fun i v=>xs[i]? = some v) (fun i h=>h.IsTupleIter it l i/\h.IsTuple l xs) where
 live:=fun _ _ st=>let ⟨o,ho,_⟩:=st.1;⟨o,ho⟩
 frame:=fun _ _ _ st hk=>(q0b (prog:=prog) (w:=w) hne).keep _ _ _ st fun b o hb e=>hk b hb o e
 item:=fun i s Q E hi st hQ=>(q0b hne).item A i s xs[i] Q E st (by simp[hi]) fun h' st' sb=>hQ _ h' s.toks (by simp[hi]) st' sb
 done:=fun s Q E st hE=>(q0b hne).fin A xs.size s Q E hh st (by simp) hE
open AutoSeq1 (wpAny_loadPart') in
theorem u0i (l:Addr)(xs:Array Value) :
  Meets (Builtin.«enumerate.__new__» ⟨[.type "enumerate",.ref l],[]⟩) (fun _ R s=>s.heap.IsTuple l xs /\
   R (.ok (.ret (.ref (s.heap.push {cls:=.type "tuple_iterator",data:=.fields #[.ref l,.int 0 0]}).objs.size)))
    {s with heap:=(s.heap.push {cls:=.type "tuple_iterator",data:=.fields #[.ref l,.int 0 0]}).push {cls:=.type "enumerate",data:=.fields #[.none,.bool false,.ref s.heap.objs.size,rawInt 0,.none,.none]}}) :=
 .of_wp fun prog w A R s h=>by
  obtain⟨hp,g,d,tk,os⟩:=s;obtain⟨hl,h⟩:=h
  have hsub:=sub_enumerate
  have hL:Heap.IsTuple (Shared.heap ⟨hp,g,d,tk,os⟩) l xs:=hl
  wp_walk
  refine wpAny_stack_any fun st=>wpAny_pure ?_
  split
  ·rename_i c _ _ _ _ _
   cases (c==Value.type "enumerate")
   ·wp_walk using wpAny_pyIter_tuple hL
    exact⟨_,rfl,h⟩
   ·wp_walk using wpAny_pyIter_tuple hL
    exact⟨_,rfl,h⟩
  ·wp_walk using wpAny_pyIter_tuple hL
   exact⟨_,rfl,h⟩
theorem o0y {prog:Program}{w:World}{A:Around}{E:Value->Shared->Prop}{s:Shared}{l:Addr}{xs:Array Value}{Q:Value->Shared->Prop}(hL:s.heap.IsTuple l xs)
  (h:∀h',IsEnum h' (s.heap.objs.size+1) s.heap.objs.size 0 .none->h'.IsTupleIter s.heap.objs.size l 0->h'.objs.size=s.heap.objs.size+2 ->
   (∀b o,s.heap.get? b=some o->h'.get? b=some o)->Q (.ref (s.heap.objs.size+1)) {s with heap:=h'}) :
  wpAny (model prog w) A (call (.type "enumerate") [.ref l]) Q E s:=by
 refine callType_new F.called_enumerate (by decide) (F.typeCall_enumerate_1 _) (F.newCall_enumerate_1 _) (fun obj=>F.args_object_init_2 obj _) F.entry_enumerate_new
  (u0i l xs) ⟨hL,?_⟩
 have hz:(s.heap.push {cls:=.type "tuple_iterator",data:=.fields #[.ref l,.int 0 0]}).objs.size=s.heap.objs.size+1:=Heap.size_push ..
 show _/\_
 rw[hz]
 have he:IsEnum ((s.heap.push {cls:=.type "tuple_iterator",data:=.fields #[.ref l,.int 0 0]}).push
   {cls:=.type "enumerate",data:=.fields #[.none,.bool false,.ref s.heap.objs.size,rawInt 0,.none,.none]}) (s.heap.objs.size+1) s.heap.objs.size 0 .none:=by
  have:=Heap.get?_push_size (s.heap.push {cls:=.type "tuple_iterator",data:=.fields #[.ref l,.int 0 0]})
   (o:={cls:=.type "enumerate",data:=.fields #[.none,.bool false,.ref s.heap.objs.size,rawInt 0,.none,.none]}) rfl
  rw[hz]at this;exact this
 refine⟨⟨_,he,rfl⟩,h _ he ⟨_,Heap.get?_push_of_some _ (Heap.get?_push_size _ rfl),rfl,rfl⟩ (by rw[Heap.size_push,hz]) fun b o x=>Heap.get?_push_of_some _ (Heap.get?_push_of_some _ x)⟩
def Itf (K:PySem.W.Frag)(l:Addr)(n:Nat):It :=
 ⟨fun i H=>∃xs x,SqT K H l xs/\xs.length=n/\xs[i]? = some x,fun i H v H'=>∃p x,v = .ref p/\H p=none/\H'=upd H p (.tup [.int (i:Nat),x])/\∀xs,SqT K H l xs->xs[i]? = some x,
  fun i H=>n<=i/\∃xs,SqT K H l xs/\xs.length=n⟩
theorem x0n {P:Program}{w:World}{K:PySem.W.Frag}{elts:List Expr}{x1}{tpos:Pos}{e it l:Addr}{n:Nat}(ne:e≠it)(nl:l≠it)(nel:e≠l) :
  Turn P w K (.Tuple elts x1 tpos) (Itf K l n) [e,it] e (fun i h=>((∃old,IsEnum h e it (i:Nat) old)/\h.IsTupleIter it l i)/\i<=n) where
 mem:=by simp
 obj:=fun i h st b hb=>by
  obtain⟨⟨⟨old,he⟩,⟨o1,e1,c1,d1⟩⟩,_⟩:=st
  simp only[List.mem_cons,List.not_mem_nil,or_false]at hb
  rcases hb with rfl | rfl
  ·exact⟨_,he,fun v q=>by cases q⟩
  ·exact⟨o1,e1,fun v q=>by rw[d1]at q;cases q⟩
 keep:=fun i h h' st k=>by
  obtain⟨⟨⟨old,he⟩,h1⟩,hi⟩:=st
  exact⟨⟨⟨old,k e (by simp) _ he⟩,h1.at fun o q=>k it (by simp) o q⟩,hi⟩
 item:=by
  intro X hP hw hK hc i pins s σ H E I hf st hg
  subst hP hw hK
  obtain⟨xs,x,q1,hln,hx⟩:=hg
  obtain⟨⟨⟨old,he⟩,h1⟩,hin⟩:=st
  obtain⟨its,rv,p1,_⟩:=I.tuple q1
  have hxi:=(List.getElem?_eq_some_iff.mp hx).1
  obtain⟨u,hu,ru⟩:=rv.get hx
  have hlt:i<its.toArray.size:=by rw[List.size_toArray];exact(List.getElem?_eq_some_iff.mp hu).1
  refine wpAny_pyNext_enum_itemD (m0x (show X.A.in1.handled=none from I.ok.hd hc) it l nl its.toArray) he ⟨h1,p1⟩ hlt ne (by simp[ne,nel]) fun y h' tk hy a1 a2 a3 a4 hk=>?_
  have ey:y=u:=by
   have hy':its[i]? = some y:=by simpa using hy
   rw[hu]at hy';cases hy';rfl
  subst ey
  refine⟨_,rfl,wpAny_letOwnedTupleGo_enum (s:={s with heap:=h',toks:=tk+1}) a1 fun h2' he' hs'=>?_⟩
  have hs2:Heap.SameBut e h' h2':=hs'
  have ls:∀ {b o},s.heap.get? b=some o->b≠s.heap.objs.size:=fun e=>Nat.ne_of_lt (Heap.lt_size e)
  have es:e≠s.heap.objs.size:=ls he
  have up:∀b o,b∉[e,it]->s.heap.get? b=some o->h2'.get? b=some o:=fun b o hb q=>by
   simp only[List.mem_cons,List.not_mem_nil,or_false,not_or]at hb
   exact(hs2.2 b hb.1).trans (hk b o hb.1 hb.2 q)
  have I1:Inv X pins σ H {s with heap:=h2',toks:=tk+1}:=I.turns (t':=tk+1) up hf
  have fp:FpOk X pins H s.heap.objs.size:=I.fpOk (Nat.le_refl _) (I.hok.fresh (Nat.le_refl _))
  have g:h2'.get? s.heap.objs.size=some {cls:=.type "tuple",data:=.seq #[.int i tk,y]}:=(hs2.2 _ (Ne.symm es)).trans a3
  have I2:=I1.trackO (o:=.tup [.int (i:Nat),x]) fp ⟨by show 2<=sizeLine;decide,[.int i tk,y],.cons ⟨_,rfl⟩ (.cons ru .nil),_,g,rfl,_,rfl⟩
  refine⟨.ref s.heap.objs.size,upd H s.heap.objs.size (.tup [.int (i:Nat),x]),I2,rfl,⟨_,x,rfl,fp.1,rfl,fun zs hz=>by rw[I.tuple_inj hz q1];exact hx⟩,?_,fun b hb=>?_⟩
  ·refine⟨⟨⟨y,by simpa using he'⟩,?_⟩,by omega⟩
   obtain⟨o,q,r⟩:=a2.1;exact⟨o,(hs2.2 it (Ne.symm ne)).trans q,r⟩
  ·have hb':=(hf b hb).1
   have ne':b≠s.heap.objs.size:=by
    obtain⟨o1,e1,_⟩:=h1
    simp only[List.mem_cons,List.not_mem_nil,or_false]at hb
    rcases hb with rfl | rfl
    ·exact ls he
    ·exact ls e1
   rw[a0x ne'];exact hb'
 done:=by
  intro X hP hw hK hc i pins s σ H E I hf st hg
  subst hP hw hK
  obtain⟨hni,xs,q1,hl⟩:=hg
  obtain⟨⟨⟨old,he⟩,h1⟩,hin⟩:=st
  obtain⟨its,rv,p1,_⟩:=I.tuple q1
  have l1:=rv.length
  have ei:i=its.toArray.size:=by rw[List.size_toArray];omega
  subst ei
  refine wpAny_pyNext_enum_endD (m0x (show X.A.in1.handled=none from I.ok.hd hc) it l nl its.toArray) he ⟨h1,p1⟩ fun h' hk=>⟨rfl,I.turns (ch:=[e,it]) (t':=s.toks) (fun b o hb q=>?_) hf⟩
  simp only[List.mem_cons,List.not_mem_nil,or_false,not_or]at hb
  exact hk b o hb.2 q
 self:=fun _ _ _ _ _ st h=>by obtain⟨⟨⟨old,he⟩,_⟩,_⟩:=st;exact wpAny_pyIter_enum he h
def g1z (K:PySem.W.Frag)(t:TA):TI:=fun σ H R=>t σ H fun vs H1=>∃l xs,vs=[.ref l]/\SqT K H1 l xs/\R (Itf K l xs.length) H1
theorem p0h (K:PySem.W.Frag){X:Cx}{elts:List Expr}{x1}{tpos:Pos}{a:Expr}{ta:TA}{p pos:Pos}(hg:Gl X "enumerate")(hm:X.mg "enumerate" = none)(ha:PA X [a] ta)(hK:X.K=K:=by rfl)(hs:starEach [a] X.env=[(false,eval a X.env)]:=by rfl) :
  PI X (.Tuple elts x1 tpos) (.Call (.Name "enumerate" p) [a] [] pos) (g1z K ta):=by
 subst hK
 intro pins s σ H R I h
 refine Call_ (g0m I hg hm i0c (PyProof.Rows.callWith_type1 (thn (ha pos pins s σ H _ I h) fun us s1 ⟨vs,H1,I1,r1,q1⟩=>?_) hs rfl))
 obtain⟨l,xs,rfl,h1,q⟩:=q1
 obtain⟨u,rfl,ru⟩:=i0q r1
 cases ru
 obtain⟨its,_,p1,_⟩:=I1.tuple h1
 have lt:l<s1.heap.objs.size:=by obtain⟨o,e,_⟩:=id p1;exact Heap.lt_size e
 refine o0y p1 fun h' he hi hsz hk=>?_
 refine wpAny_pyIter_enum he ?_
 refine⟨_,_,_,_,H1,rfl,I1.kept (t':=s1.toks) hk,x0n (show s1.heap.objs.size+1≠s1.heap.objs.size by omega) (Nat.ne_of_lt lt) (Ne.symm (Nat.ne_of_lt (Nat.lt_succ_of_lt lt))),⟨⟨⟨_,he⟩,hi⟩,Nat.zero_le _⟩,fun b hb=>?_,q⟩
 have le:s1.heap.objs.size<=b:=by
  simp only[List.mem_cons,List.not_mem_nil,or_false]at hb
  rcases hb with rfl | rfl <;> omega
 exact I1.fpOk le (I1.hok.fresh le)
section
variable {K:PySem.W.Frag}{ts:TA}{as:AA}
theorem d1t {S:Addr->Prop}{H:Hp}{l:Addr}{vs:List V}{ds:List D}(al:∀a,S a->H a≠none)(h1:SqT K H l vs)(r1:RepDs K (hid H S) vs ds):WkAt K S H (Itf K l vs.length) (g0q 0 ds):=by
 intro k
 constructor
 ·intro d e
  obtain⟨x,ex,rfl⟩:=e0g e
  rw[Nat.zero_add]
  obtain⟨v,e1,rv⟩:=r1.get ex
  refine⟨⟨vs,v,h1,rfl,e1⟩,fun z H' ⟨p,a,ez,hp,eH,ha⟩=>?_⟩
  have a1:=ha vs h1
  rw[e1]at a1
  cases a1
  subst eH ez
  have sm:Same H (upd H p (.tup [.int (k:Nat),v])):=(Same.refl H).new hp
  have sm':Same (hid H S) (hid (upd H p (.tup [.int (k:Nat),v])) S):=b0o fun a o e n=>⟨sm a o e,n⟩
  refine⟨sm,?_⟩
  unfold RepD
  exact⟨p,[.int (k:Nat),v],rfl,(j0y (fun z=>al p z hp) b0l),.cons (by unfold RepD;rfl) (.cons (rv.same sm') .nil)⟩
 ·intro z
  rw[c0p]at z
  exact⟨by rw[r1.length];exact z,vs,h1,rfl⟩
def n1j (as:AA):AI:=fun ρ q=>as ρ fun rs ρ1=>match rs with
 | [.d (.tup ds)]=>q (g0q 0 ds) (fun _=>True) ρ1
 | _=>False
theorem k0i {pin:Nat->Bool}(h:TAok K ts as):TIok K pin (g1z K ts) (n1j as):=by
 intro F σ ρ H q Rk r ha k
 refine h F σ ρ H _ _ r ha fun rs ρ1 vs H1 h1 r1 i1 k1=>?_
 split at h1
 ·rename_i ds
  obtain⟨x,rfl,ix⟩:=i1.one
  have rd:RepD K _ x (.tup ds):=ix
  unfold RepD at rd
  obtain⟨a,vs,rfl,sq,rd⟩:=rd
  refine⟨a,vs,rfl,c0e.seqT sq.sq,k _ _ _ _ _ h1 r1 k1 fun σ2 ρ2 H2 sm sv pn al hc=>?_⟩
  exact d1t (fun a z=>(al a z).1) (c0e.seqT (sm.seqT sq.sq)) (rd.same sm)
 ·exact h1.elim
end
end L2
namespace L2
open PySem PySem.Spec PyProof.Rows PySem.W
end L2
namespace L2
open PySem PySem.Spec PyProof.Rows PySem.W Builtin Builtin.ObjectAttr
end L2
namespace L2
open PySem PySem.Spec PyProof.Rows PySem.W
end L2
namespace L2
open PySem PySem.Spec PyProof.Rows
section
variable {P:Program}{w:World}{A:Around}{R:Result->Shared->Prop}{s:Shared}
theorem q0i (elt tg iter tg2 iter2:Expr)(ifs ifs2:List Expr)(scope:Scope)(pos:Pos)(it acc:Value)(env:Env) :
  compTurn (.ListComp elt [⟨tg,iter,ifs,0⟩,⟨tg2,iter2,ifs2,0⟩] scope pos) 0 it acc env=(do
   standAt iter.pos
   match <- pyNext it with
   | none=>pure (.done .next)
   | some v =>
    letOwnedTupleGo tg it v
    assign tg env v
    let mut ok:=true
    for c in ifs do
     if ok then ok <- isTrue c env (eval c env)
    if ok then
     let x <- eval iter2 env
     standAt iter2.pos
     let x <- foldedSetIterable iter2 env x
     let _ <- runOwn (.compStart (.ListComp elt [⟨tg,iter,ifs,0⟩,⟨tg2,iter2,ifs2,0⟩] scope pos) 1 (<- holding [x] (pyIter x)) acc env) env
    again (.compLoop (.ListComp elt [⟨tg,iter,ifs,0⟩,⟨tg2,iter2,ifs2,0⟩] scope pos) 0 it acc env)):=by rfl
theorem q0h (elt tg iter tg2 iter2:Expr)(ifs ifs2:List Expr)(scope:Scope)(pos:Pos)(it acc:Value)(env:Env) :
  compTurn (.ListComp elt [⟨tg,iter,ifs,0⟩,⟨tg2,iter2,ifs2,0⟩] scope pos) 1 it acc env=(do
   standAt iter2.pos
   match <- pyNext it with
   | none=>pure (.done .next)
   | some v =>
    letOwnedTupleGo tg2 it v
    assign tg2 env v
    let mut ok:=true
    for c in ifs2 do
     if ok then ok <- isTrue c env (eval c env)
    if ok then
     (do let _ <- call (.builtin "list.append") [acc,<- eval elt env])
    again (.compLoop (.ListComp elt [⟨tg,iter,ifs,0⟩,⟨tg2,iter2,ifs2,0⟩] scope pos) 1 it acc env)):=by rfl
abbrev k1v (M:Model)(A:Around)(ifs:List Expr)(env:Env)(Q:Bool->Shared->Prop)(s:Shared):Prop :=
 wpAny M A (forIn ifs true fun c r=>if r=true then do let ok <- isTrue c env (eval c env);pure (ForInStep.yield ok)else pure (ForInStep.yield r)) Q (fun _ _=>False) s
theorem c1v {elt tg iter tg2 iter2:Expr}{ifs ifs2:List Expr}{scope:Scope}{pos:Pos}{it acc:Value}{env:Env}(J:Nat->Shared->Prop)
  (turn:∀n s,J n s->wpAny (model P w) A (pyNext it) (fun r s1=>match r with
   | none=>R (.ok .next) s1
   | some v=>wpAny (model P w) A (letOwnedTupleGo tg2 it v) (fun _ s2=>wpAny (model P w) A (assign tg2 env v) (fun _ s3 =>
     k1v (model P w) A ifs2 env (fun ok s4 =>
      if ok=true then wpAny (model P w) A (eval elt env) (fun x s5=>wpAny (model P w) A (call (.builtin "list.append") [acc,x]) (fun _ s6=>∃m,m<n/\J m s6) (fun _ _=>False) s5) (fun _ _=>False) s4
      else ∃m,m<n/\J m s4) s3) (fun _ _=>False) s2) (fun _ _=>False) s1) (fun _ _=>False) s)
  (n:Nat) (h:J n s):codeAny (model P w) A (.compLoop (.ListComp elt [⟨tg,iter,ifs,0⟩,⟨tg2,iter2,ifs2,0⟩] scope pos) 1 it acc env) R s:=by
 have no:∀ {α:Type} {t:Sem α} {Q Q':α->Shared->Prop} {E:Value->Shared->Prop} {s:Shared},wpAny (model P w) A t Q (fun _ _=>False) s->(∀a s,Q a s->Q' a s)->wpAny (model P w) A t Q' E s :=
  fun h hq=>wpAny_mono h hq fun _ _ f=>f.elim
 refine codeAny_loop rfl J (fun n s hJ=>?_) n h
 show wpAny _ A ((compTurn (.ListComp elt [⟨tg,iter,ifs,0⟩,⟨tg2,iter2,ifs2,0⟩] scope pos) 1 it acc env).onRaise (fun x=>do noteFrame x env;theTreesLotGoes x)) _ _ s
 refine wpAny_noted ?_
 rw[q0h]
 refine wpAny_bind (wpAny_standAt (wpAny_bind (no (turn n s hJ) fun r s1 h1=>?_)))
 cases r with
 | none=>exact wpAny_pure h1
 | some v =>
  refine wpAny_bind (no h1 fun _ s2 h2=>wpAny_bind (no h2 fun _ s3 h3=>wpAny_bind (no h3 fun ok s4 h4=>?_)))
  cases ok with
  | false=>exact wpAny_pure ⟨rfl,h4⟩
  | true=>exact wpAny_bind (wpAny_bind (no h4 fun x s5 h5=>wpAny_bind (no h5 fun _ s6 h6=>wpAny_pure (wpAny_pure ⟨rfl,h6⟩))))
theorem c1w {elt tg iter tg2 iter2:Expr}{ifs ifs2:List Expr}{scope:Scope}{pos:Pos}{it acc:Value}{env:Env}(J:Nat->Shared->Prop)(hf:∀x,foldedSetIterable iter2 env x=pure x)
  (turn:∀n s,J n s->wpAny (model P w) A (pyNext it) (fun r s1=>match r with
   | none=>R (.ok .next) s1
   | some v=>wpAny (model P w) A (letOwnedTupleGo tg it v) (fun _ s2=>wpAny (model P w) A (assign tg env v) (fun _ s3 =>
     k1v (model P w) A ifs env (fun ok s4 =>
      if ok=true then wpAny (model P w) A (eval iter2 env) (fun x s5=>wpAny (model P w) A (pyIter x) (fun itv s6 =>
       codeAny (model P w) A (.compStart (.ListComp elt [⟨tg,iter,ifs,0⟩,⟨tg2,iter2,ifs2,0⟩] scope pos) 1 itv acc env) (fun r s7=>r = .ok .next/\∃m,m<n/\J m s7) s6) (fun _ _=>False) s5) (fun _ _=>False) s4
      else ∃m,m<n/\J m s4) s3) (fun _ _=>False) s2) (fun _ _=>False) s1) (fun _ _=>False) s)
  (n:Nat) (h:J n s):codeAny (model P w) A (.compLoop (.ListComp elt [⟨tg,iter,ifs,0⟩,⟨tg2,iter2,ifs2,0⟩] scope pos) 0 it acc env) R s:=by
 have no:∀ {α:Type} {t:Sem α} {Q Q':α->Shared->Prop} {E:Value->Shared->Prop} {s:Shared},wpAny (model P w) A t Q (fun _ _=>False) s->(∀a s,Q a s->Q' a s)->wpAny (model P w) A t Q' E s :=
  fun h hq=>wpAny_mono h hq fun _ _ f=>f.elim
 refine codeAny_loop rfl J (fun n s hJ=>?_) n h
 show wpAny _ A ((compTurn (.ListComp elt [⟨tg,iter,ifs,0⟩,⟨tg2,iter2,ifs2,0⟩] scope pos) 0 it acc env).onRaise (fun x=>do noteFrame x env;theTreesLotGoes x)) _ _ s
 refine wpAny_noted ?_
 rw[q0i]
 refine wpAny_bind (wpAny_standAt (wpAny_bind (no (turn n s hJ) fun r s1 h1=>?_)))
 cases r with
 | none=>exact wpAny_pure h1
 | some v =>
  refine wpAny_bind (no h1 fun _ s2 h2=>wpAny_bind (no h2 fun _ s3 h3=>wpAny_bind (no h3 fun ok s4 h4=>?_)))
  cases ok with
  | false=>exact wpAny_pure ⟨rfl,h4⟩
  | true =>
   refine wpAny_bind (no h4 fun x s5 h5=>wpAny_bind (wpAny_standAt (wpAny_bind (wpAny_of_eq (hf x) (wpAny_bind (wpAny_holding (no h5 fun itv s6 h6=>?_)))))))
   refine wpAny_bind (wpAny_runOwn (codeAny_mono h6 fun r s7 h7=>?_))
   obtain⟨rfl,h7⟩:=h7
   exact wpAny_pure ⟨rfl,h7⟩
theorem o0b {elt tg iter tg2 iter2:Expr}{ifs ifs2:List Expr}{scope:Scope}{pos:Pos}{it acc:Value}{env:Env}
  (h0:codeAny (model P w) A (.compLoop (.ListComp elt [⟨tg,iter,ifs,0⟩,⟨tg2,iter2,ifs2,0⟩] scope pos) 1 it acc env) R s)
  (h:wpAny (model P w) A (pyIter it) (fun it' s'=>codeAny (model P w) A (.compLoop (.ListComp elt [⟨tg,iter,ifs,0⟩,⟨tg2,iter2,ifs2,0⟩] scope pos) 1 it' acc env) R s') (notedBy (model P w) A env fun x s'=>R (.error x) s') s) :
  codeAny (model P w) A (.compStart (.ListComp elt [⟨tg,iter,ifs,0⟩,⟨tg2,iter2,ifs2,0⟩] scope pos) 1 it acc env) R s:=by
 refine codeAny_of_tree ?_
 show wpAny _ _ ((compStart (.ListComp elt [⟨tg,iter,ifs,0⟩,⟨tg2,iter2,ifs2,0⟩] scope pos) 1 it acc env).onRaise (fun x=>do noteFrame x env;standAt theWindowsPlace)) _ _ s
 refine wpAny_notedAt ?_
 unfold compStart
 show wpAny _ _ (ask>>=_) _ _ s
 refine wpAny_bind (wpAny_askSetting (wpAny_ite ?_))
 split
 ·first
   | exact wpAny_bind (wpAny_pure (wpAny_pure (And.intro rfl h0)))
   | exact wpAny_pure (And.intro rfl h0)
 ·first
   | exact wpAny_bind (wpAny_rule (wpAny_bind (wpAny_standAt (wpAny_bind (wpAny_mono h (fun it' s' h'=>wpAny_pure (And.intro rfl h')) fun _ _ x=>x)))))
   | (refine wpAny_bind (wpAny_rule ?_);show wpAny _ _ (standAt iter2.pos>>=_) _ _ s;exact wpAny_bind (wpAny_standAt (wpAny_bind (wpAny_mono h (fun it' s' h'=>wpAny_pure (And.intro rfl h')) fun _ _ x=>x))))
end
def k1g (J:It)(g:TG)(tc:TT)(te:TE)(N:List V->Hp->Prop)(σ:St)(ys0:List V)(H1:Hp):Prop:=∃W:Nat->Nat->List V->Hp->Prop,(∃m,W 0 m ys0 H1)/\∀i m ys H,W i m ys H ->
 (J.stop i H/\N ys H) ∨
 (J.go i H/\ys.length<sizeLine/\∃N2:List V->Hp->Prop,(∀zs H',N2 zs H'->∃m',m'<m/\W (i+1) m' zs H')/\∀x H',J.yld i H x H'->g x σ H' fun σ2 H2=>(σ2.length=σ.length/\∀(j:Nat) v,σ[j]? = some (some v)->σ2[j]? = some (some v))/\tc σ2 H2 fun b H3 =>
  if b=true then te σ2 H3 fun v H4=>N2 (ys++[v]) H4 else N2 ys H3)
def h1k (J:It)(n:Nat)(js:List Nat)(g:TG)(tc:TT)(wi2:TI)(g2:TG)(tc2:TT)(te:TE)(Q:VK)(σ:St)(H1:Hp):Prop:=∃W:Nat->Nat->List V->Hp->Prop,(∃m,W 0 m [] H1)/\∀i m ys H,W i m ys H ->
 (J.stop i H/\ys.length<=sizeLine/\∀l,H l=none->Q (.ref l) (upd H l (.lst ys))) ∨
 (J.go i H/\∃N:List V->Hp->Prop,(∀zs H',N zs H'->∃m',m'<m/\W (i+1) m' zs H')/\∀x H',J.yld i H x H'->g x (bst n σ js) H' fun σ2 H2=>σ2.drop n=capt σ js/\tc σ2 H2 fun b H3 =>
  if b=true then wi2 σ2 H3 fun J2 H4=>k1g J2 g2 tc2 te N σ2 ys H4 else N ys H3)
def g1k (n:Nat)(js:List Nat)(wi:TI)(g:TG)(tc:TT)(wi2:TI)(g2:TG)(tc2:TT)(te:TE):TE:=fun σ H Q=>wi σ H fun J H1=>h1k J n js g tc wi2 g2 tc2 te Q σ H1
section
variable {Y:Cx}
theorem y0i {elt tg iter tg2 iter2:Expr}{ifs ifs2:List Expr}{scope:Scope}{pos:Pos}{g2:TG}{tc2:TT}{te:TE}{N:List V->Hp->Prop}{D:Addr}{pl:List (Addr×Obj)}{σ:St}{itv:Value}{ys:List V}{its:List Value}{k:Nat}{s:Shared}
  {RR:Result->Shared->Prop} (xe:Y.xe=fun _ _=>False) (hc:Y.calm=true) (hg:PG Y tg2 g2) (ht:PTs Y ifs2 tc2) (he:PE Y elt te)
  (szD:Y.s₀.heap.objs.size<=D) (neDL:D≠Y.env.locals) (notFs:D∉Y.fs) (clB:∀x d,Y.env.cells.lookup x=some d->d≠D) (plD:∀p∈Y.pn++pl,p.1≠D)
  (h:PIE Y ((D,{cls:=.type "list",data:=.seq its.toArray k})::pl) σ tg2 (fun J H1=>k1g J g2 tc2 te N σ ys H1) itv s) (r0:Vals ys its)
  (hR:∀zs its' k' H' s',Inv Y pl σ H' s'->Vals zs its'->s'.heap.get? D=some {cls:=.type "list",data:=.seq its'.toArray k'}->H' D=none->N zs H'->RR (.ok .next) s') :
  codeAny (model Y.prog Y.w) Y.A (.compStart (.ListComp elt [⟨tg,iter,ifs,0⟩,⟨tg2,iter2,ifs2,0⟩] scope pos) 1 itv (.ref D) Y.env) RR s:=by
 obtain⟨it,fp,tn,J,H2,rfl,I2,T,st2,f2,W,⟨m0,w0⟩,turn⟩:=h
 have plN:∀p∈pl,p.1≠D:=fun p hp=>plD p (List.mem_append_right _ hp)
 have fpD:∀b∈fp,b≠D:=fun b hb=>((f2 b hb).2.2.2.2.2 (D,{cls:=.type "list",data:=.seq its.toArray k}) (List.mem_append_right _ (List.mem_cons_self ..))).symm
 have p0:=I2.pin (D,{cls:=.type "list",data:=.seq its.toArray k}) (List.mem_append_right _ (List.mem_cons_self ..))
 have f2':∀(its':List Value) (k':Nat) {H':Hp},(∀b∈fp,H' b=none)->∀b∈fp,FpOk Y ((D,{cls:=.type "list",data:=.seq its'.toArray k'})::pl) H' b:=fun its' k' {H'} hn b hb=>by
  obtain⟨f0,f1,f3,f4,f5,f6⟩:=f2 b hb
  refine⟨hn b hb,f1,f3,f4,f5,fun p hp=>?_⟩
  rcases List.mem_append.mp hp with z | z
  ·exact f6 p (List.mem_append_left _ z)
  ·rcases List.mem_cons.mp z with z | z
   ·rw[z];exact(fpD b hb).symm
   ·exact f6 p (List.mem_append_right _ (List.mem_cons_of_mem _ z))
 have loop:codeAny (model Y.prog Y.w) Y.A (.compLoop (.ListComp elt [⟨tg,iter,ifs,0⟩,⟨tg2,iter2,ifs2,0⟩] scope pos) 1 (.ref it) (.ref D) Y.env) RR s:=by
  refine c1v (fun n s'=>∃(i:Nat) (ys:List V) (its:List Value) (k:Nat) (H':Hp),Inv Y pl σ H' s'/\tn i s'.heap/\(∀b∈fp,H' b=none)/\H' D=none/\Vals ys its /\
   s'.heap.get? D=some {cls:=.type "list",data:=.seq its.toArray k}/\W i n ys H') ?_ m0 ⟨0,ys,its,k,H2,I2.pins_of fun p hp=>I2.pin p (List.mem_append_right _ (List.mem_cons_of_mem _ hp)),st2,fun b hb=>(f2 b hb).1,p0.2.1,r0,p0.1,w0⟩
  rintro n s3 ⟨i,ys,its,k,H3,I3,st3,fr3,hD3,r3,g3,w3⟩
  have I3p:Inv Y ((D,{cls:=.type "list",data:=.seq its.toArray k})::pl) σ H3 s3:=I3.pins_of fun p hp=>by
   rcases List.mem_cons.mp hp with z | z
   ·subst z
    exact⟨g3,hD3,neDL,notFs,fun v z=>by cases z⟩
   ·exact I3.pin p (List.mem_append_right _ z)
  have f3:=f2' its k fr3
  rcases turn i n ys H3 w3 with⟨stop,qn⟩ | ⟨go,hz,N2,hN,step⟩
  ·refine thn (T.done Y rfl rfl rfl hc i _ s3 _ H3 (fun _ _=>False) I3p f3 st3 stop) fun r s4 ⟨hr,I4⟩=>?_
   subst hr
   have g4:=I4.pin (D,{cls:=.type "list",data:=.seq its.toArray k}) (List.mem_append_right _ (List.mem_cons_self ..))
   exact hR ys its k H3 s4 (I4.pins_of fun p hp=>I4.pin p (List.mem_append_right _ (List.mem_cons_of_mem _ hp))) r3 g4.1 hD3 qn
  ·refine thn (T.item Y rfl rfl rfl hc i _ s3 _ H3 (fun _ _=>False) I3p f3 st3 go) fun r s4 ⟨u,hr,h4⟩=>?_
   subst hr
   refine thn h4 fun _ s5 ⟨x,H5,I5,r5,y5,st5,fr5⟩=>?_
   have I5':=I5.pinned (f2' its k fr5) (T.obj _ _ st5)
   refine thn (xe▸hg _ s5 _ H5 x u _ I5' r5 (step x H5 y5)) fun _ s6 ⟨σ6,H6,I6,⟨l6,d6⟩,q6⟩=>?_
   refine thn (xe▸ht _ s6 σ6 H6 _ I6 q6) fun ok s7 ⟨H7,I7,q7⟩=>?_
   have after:∀ {s8:Shared} {H8:Hp},Inv Y ((D,{cls:=.type "list",data:=.seq its.toArray k})::pl++h0q fp s5.heap) σ6 H8 s8 ->
     s8.heap.get? D=some {cls:=.type "list",data:=.seq its.toArray k}/\H8 D=none/\tn (i+1) s8.heap/\(∀b∈fp,H8 b=none)/\Inv Y pl σ H8 s8:=fun{s8 H8} I8=>by
    have p8:=I8.pin (D,{cls:=.type "list",data:=.seq its.toArray k}) (List.mem_append_right _ (List.mem_append_left _ (List.mem_cons_self ..)))
    refine⟨p8.1,p8.2.1,T.keep _ _ _ st5 fun b hb o e=>(I8.pin (b,o) (List.mem_append_right _ (List.mem_append_right _ (c0s hb e)))).1,fun b hb=>?_,?_⟩
    ·obtain⟨o,e,_⟩:=T.obj _ _ st5 b hb
     exact(I8.pin (b,o) (List.mem_append_right _ (List.mem_append_right _ (c0s hb e)))).2.1
    ·exact(I8.pins_of (pins':=pl) fun p hp=>I8.pin p (List.mem_append_right _ (List.mem_append_left _ (List.mem_cons_of_mem _ hp)))).weak l6.symm d6
   cases ok with
   | false =>
    rw[if_neg Bool.false_ne_true]at q7 ⊢
    obtain⟨m',hm,w7⟩:=hN _ _ q7
    obtain⟨a1,a2,a3,a4,a5⟩:=after I7
    exact⟨m',hm,i+1,ys,its,k,H7,a5,a3,a4,a2,r3,a1,w7⟩
   | true =>
    rw[if_pos rfl]at q7 ⊢
    refine thn (xe▸he _ s7 σ6 H7 _ I7 q7) fun u8 s8 ⟨v8,H8,I8,r8,n8⟩=>?_
    obtain⟨m',hm,w8⟩:=hN _ _ n8
    obtain⟨a1,a2,a3,a4,a5⟩:=after I8
    have hsz:its.toArray.size<sizeLine:=by rw[List.size_toArray,<- r3.length];exact hz
    refine call_meets F.slot_list_append ⟨_,a1,rfl⟩ F.entry_list_append (F.args_list_append_2 _ _) (PySem.list_append D its.toArray k u8 (Nat.le_of_lt hsz)) ⟨a1,?_⟩
    have q9:=PySem.IsL.update a1 (fun xs=>xs.push u8)
    have sb:Heap.SameBut D s8.heap (s8.heap.update D (Obj.mapSeq fun xs=>xs.push u8)):=Heap.SameBut.update ..
    have I9:=a5.young sb a2 szD neDL clB plD
    have fin:∃k',(s8.heap.update D (Obj.mapSeq fun xs=>xs.push u8)).get? D=some {cls:=.type "list",data:=.seq (its++[u8]).toArray k'}:=⟨_,by
     rw[show(its++[u8]).toArray=its.toArray.push u8 by simp]
     exact q9⟩
    obtain⟨k',fin⟩:=fin
    exact⟨m',hm,i+1,ys++[v8],its++[u8],k',H8,I9,T.keep _ _ _ a3 (fun b hb o e=>(sb.2 b (fpD b hb)).trans e),a4,a2,r3.append (.cons r8 .nil),fin,w8⟩
 exact o0b loop (T.self _ 0 _ _ _ st2 loop)
end
section
variable {X:Cx}
theorem u0y {elt tg iter tg2 iter2:Expr}{ifs ifs2:List Expr}{scope:Scope}{pos:Pos}{own:List Str}{js:List Nat}{g g2:TG}{tc tc2:TT}{wi2:TI}{te:TE}{Q:VK}{pins:List (Addr×Obj)}{σ:St}{s2:Shared}{itv:Value}{E:Value->Shared->Prop}
  {RR:Value->Addr->Result->Shared->Prop} (hc:X.calm=true) (B:Blk X scope own js) (hg:∀s H C fp,(own++capN X.N js).Nodup->PG (blk X scope (own++capN X.N js) s H C fp) tg g) (ht:∀s H C fp,PTs (blk X scope (own++capN X.N js) s H C fp) ifs tc)
  (hi2:∀s H C fp,PI (blk X scope (own++capN X.N js) s H C fp) tg2 iter2 wi2) (hg2:∀s H C fp,(own++capN X.N js).Nodup->PG (blk X scope (own++capN X.N js) s H C fp) tg2 g2) (ht2:∀s H C fp,PTs (blk X scope (own++capN X.N js) s H C fp) ifs2 tc2) (hs2:∀s H C fp x,foldedSetIterable iter2 (blk X scope (own++capN X.N js) s H C fp).env x=pure x)
  (he:∀s H C fp,PE (blk X scope (own++capN X.N js) s H C fp) elt te)
  (h:PIE X pins σ tg (fun J H1=>h1k J own.length js g tc wi2 g2 tc2 te Q σ H1) itv s2)
  (hR:∀C acc s',d1s X pins σ Q C acc s'->RR acc C (.ok .next) s') :
  wpAny (model X.prog X.w) X.A (newList []) (fun acc s3=>wpAny (model X.prog X.w) X.A (newFunctionEnv scope X.env.globals (e0v scope X.env) [] X.env.qual none .none (some X.env)) (fun cenv s4 =>
   codeAny (model X.prog X.w) X.A (.compStart (.ListComp elt [⟨tg,iter,ifs,0⟩,⟨tg2,iter2,ifs2,0⟩] scope pos) 0 itv acc {cenv with scope:=relabel scope X.env}) (RR acc cenv.locals) s4) E s3) E s2:=by
 obtain⟨it,fp,tn,J,H2,rfl,I2,T,st2,f2,W,⟨m0,w0⟩,turn⟩:=h
 refine wpAny_newObj_type (wpAny_newFunctionEnv B.nocell (by intro y hy;simp at hy) (fun h1 hns1 hsb1=>?_) B.kind)
 generalize hPu:s2.heap.push {cls:=.type "list",dict:=none,data:=.seq ([]:List Value).toArray}=Pu at hns1 hsb1 ⊢
 dsimp only at hns1 hsb1 ⊢
 have hDC:Pu.objs.size=s2.heap.objs.size+1:=by rw[<- hPu,Heap.size_push]
 generalize hD:s2.heap.objs.size=D at hDC ⊢
 have gD:Pu.get? D=some {cls:=.type "list",dict:=none,data:=.seq ([]:List Value).toArray}:=by
  rw[<- hPu,<- hD];exact Heap.get?_push_size _ rfl
 generalize hC:Pu.objs.size=C at hns1 hsb1 hDC ⊢
 have ltDC:D<C:=by rw[hDC];exact Nat.lt_succ_self D
 have neDC:D≠C:=Nat.ne_of_lt ltDC
 have keep1:∀b o,s2.heap.get? b=some o->h1.get? b=some o:=fun b o e=>by
  have hb:b<D:=by rw[<- hD];exact Heap.lt_size e
  have hb2:b≠C:=Nat.ne_of_lt (Nat.lt_trans hb ltDC)
  refine(hsb1.2 b hb2).trans (Heap.get?_push_of_some _ ?_)
  rw[<- hPu]
  exact Heap.get?_push_of_some _ e
 have gD1:h1.get? D=some {cls:=.type "list",dict:=none,data:=.seq ([]:List Value).toArray}:=(hsb1.2 D neDC).trans (Heap.get?_push_of_some _ gD)
 have szD:s2.heap.objs.size<=D:=Nat.le_of_eq hD
 have szC:s2.heap.objs.size<=C:=Nat.le_trans szD (Nat.le_of_lt ltDC)
 have old:∀ {b:Addr},b<s2.heap.objs.size->b≠D/\b≠C:=fun hb=>⟨Nat.ne_of_lt (Nat.lt_of_lt_of_le hb szD),Nat.ne_of_lt (Nat.lt_of_lt_of_le hb szC)⟩
 have fpo:∀b∈fp,∃o,s2.heap.get? b=some o:=fun b hb=>let ⟨o,e,_⟩:=T.obj 0 _ st2 b hb;⟨o,e⟩
 have fpD:∀b∈fp,b≠D/\b≠C:=fun b hb=>by
  obtain⟨o,e⟩:=fpo b hb
  exact old (Heap.lt_size e)
 have clD:∀x d,X.env.cells.lookup x=some d->d≠D/\d≠C:=fun x d e=>by
  obtain⟨v,o,ho,_⟩:=I2.cell x d e
  exact old (Heap.lt_size ho)
 have pinD:∀p∈X.pn++pins,p.1≠D/\p.1≠C:=fun p hp=>by
  exact old (Heap.lt_size (I2.pin p hp).1)
 have locD:D≠X.env.locals/\C≠X.env.locals:=by
  exact⟨(old I2.lt).1.symm,(old I2.lt).2.symm⟩
 let Y:=blk X scope (own++capN X.N js) s2 H2 C fp
 have IB:Inv Y [] (bst own.length σ js) H2 {s2 with heap:=h1,toks:=s2.toks+([]:List (Str×Value)).length}:=v0f B I2 f2 fpo szC hns1 keep1
 have fpB:∀ {H':Hp} {pl:List (Addr×Obj)},(∀b∈fp,H' b=none)->(∀p∈pl,p.1=D)->∀b∈fp,FpOk Y pl H' b:=fun{H' pl} hn hp b hb=>by
  obtain⟨f0,f1,f3,f4,f5,f6⟩:=f2 b hb
  refine⟨hn b hb,(fpD b hb).2,fun z=>?_,.inl hb,fun x c e=>f5 x c (d0w e),fun p q=>?_⟩
  ·rcases List.mem_cons.mp (I2.stkSub b z)with z | z
   ·exact f1 z
   ·exact f3 z
  ·have q':p∈pl:=by simpa [Y,blk] using q
   rw[hp p q']
   exact(fpD b hb).1.symm
 have clB:∀x d,Y.env.cells.lookup x=some d->d≠D:=fun x d e=>(clD x d (d0w e)).1
 have notFs:D∉Y.fs:=fun z=>by
  obtain⟨_,o,ho,_⟩:=IB.ok.funs.mem z
  exact(old (Heap.lt_size (show s2.heap.get? D=some o from ho))).1 rfl
 have loop:∀s3:Shared,s3={s2 with heap:=h1,toks:=s2.toks+([]:List (Str×Value)).length} ->
   codeAny (model X.prog X.w) X.A (.compLoop (.ListComp elt [⟨tg,iter,ifs,0⟩,⟨tg2,iter2,ifs2,0⟩] scope pos) 0 (.ref it) (.ref D) (compEnvC scope (e0v scope X.env) C X.env)) (RR (.ref D) C) s3:=by
  rintro s3 rfl
  refine c1w (fun n s'=>∃(i:Nat) (ys:List V) (its:List Value) (k:Nat) (H':Hp),Inv Y [] (bst own.length σ js) H' s'/\tn i s'.heap/\(∀b∈fp,H' b=none)/\H' D=none/\Vals ys its /\
   s'.heap.get? D=some {cls:=.type "list",data:=.seq its.toArray k}/\W i n ys H') (hs2 s2 H2 C fp) ?_ m0 ⟨0,[],[],0,H2,IB,T.keep 0 _ _ st2 (fun b hb o e=>keep1 b o e),fun b hb=>(f2 b hb).1,I2.hok.fresh szD,.nil,gD1,w0⟩
  rintro n s3 ⟨i,ys,its,k,H3,I3,st3,fr3,hD3,r3,g3,w3⟩
  have I3p:Inv Y [(D,{cls:=.type "list",data:=.seq its.toArray k})] (bst own.length σ js) H3 s3:=I3.pins_of fun p hp=>by
   have e:p=(D,{cls:=.type "list",data:=.seq its.toArray k}):=by simpa using hp
   subst e
   exact⟨g3,hD3,neDC,notFs,fun v z=>by cases z⟩
  have f3:∀b∈fp,FpOk Y [(D,{cls:=.type "list",data:=.seq its.toArray k})] H3 b:=fpB fr3 fun p hp=>by
   have e:p=(D,{cls:=.type "list",data:=.seq its.toArray k}):=by simpa using hp
   rw[e]
  rcases turn i n ys H3 w3 with⟨stop,hz,qn⟩ | ⟨go,N,hN,step⟩
  ·refine thn (T.done Y rfl rfl rfl hc i _ s3 _ H3 (fun _ _=>False) I3p f3 st3 stop) fun r s4 ⟨hr,I4⟩=>?_
   subst hr
   refine hR C _ s4 ?_
   have g4:=(I4.pin (D,{cls:=.type "list",data:=.seq its.toArray k}) (by simp[Y,blk])).1
   obtain⟨m,hn4,_⟩:=id I4.loc
   have un:Un (frs X.stack) fp H2 H3 s2.heap s4.heap:=I4.base
   have I5:Inv X pins σ H3 s4:=I2.call' I4.os un I4.hok I4.bare fun b hb=>let ⟨_,b1,_,b3,b4,b5⟩:=f2 b hb;⟨b3,b1,b4,b5⟩
   have I6:=I5.track (ys:=ys) (its:=its) (n:=k) hD3 (Nat.le_trans I2.sz szD) locD.1 (fun x d e=>(clD x d e).1) (fun p hp=>(pinD p hp).1) hz r3 g4
   refine⟨D,_,m,rfl,hn4,I6,?_,Nat.le_trans I2.sz szC,locD.2,fun x d e=>(clD x d e).2,fun p hp=>(pinD p hp).2,qn D hD3⟩
   rw[a0x (Ne.symm neDC)]
   exact I4.free
  ·refine thn (T.item Y rfl rfl rfl hc i _ s3 _ H3 (fun _ _=>False) I3p f3 st3 go) fun r s4 ⟨u,hr,h4⟩=>?_
   subst hr
   refine thn h4 fun _ s5 ⟨x,H5,I5,r5,y5,st5,fr5⟩=>?_
   have f5:∀b∈fp,FpOk Y [(D,{cls:=.type "list",data:=.seq its.toArray k})] H5 b:=fun b hb=>⟨fr5 b hb,(f3 b hb).2⟩
   have I5':=I5.pinned f5 (T.obj _ _ st5)
   refine thn (hg s2 H2 C fp B.nd _ s5 _ H5 x u _ I5' r5 (step x H5 y5)) fun _ s6 ⟨σ6,H6,I6,d6,q6⟩=>?_
   refine thn (ht s2 H2 C fp _ s6 σ6 H6 _ I6 q6) fun ok s7 ⟨H7,I7,q7⟩=>?_
   have after:∀ {s8:Shared} {H8:Hp} {its:List Value} {k:Nat},Inv Y ([(D,{cls:=.type "list",data:=.seq its.toArray k})]++h0q fp s5.heap) σ6 H8 s8 ->
     s8.heap.get? D=some {cls:=.type "list",data:=.seq its.toArray k}/\H8 D=none/\tn (i+1) s8.heap/\(∀b∈fp,H8 b=none)/\Inv Y [] (bst own.length σ js) H8 s8:=fun{s8 H8 its k} I8=>by
    have p8:=I8.pin (D,{cls:=.type "list",data:=.seq its.toArray k}) (by simp[Y,blk])
    refine⟨p8.1,p8.2.1,T.keep _ _ _ st5 fun b hb o e=>(I8.pin (b,o) (List.mem_append_right _ (List.mem_append_right _ (c0s hb e)))).1,fun b hb=>?_,?_⟩
    ·obtain⟨o,e,_⟩:=T.obj _ _ st5 b hb
     exact(I8.pin (b,o) (List.mem_append_right _ (List.mem_append_right _ (c0s hb e)))).2.1
    ·refine(I8.pins_of (pins':=[]) fun p hp=>absurd hp (by simp[Y,blk])).weak ?_ fun j v e=>?_
     ·rw[I8.len,j0d]
      show _=(own++capN X.N js).length
      unfold capN
      simp
     ·rcases Nat.lt_or_ge j own.length with z | z
      ·exfalso
       unfold bst at e
       rw[List.getElem?_append_left (by simpa using z),List.getElem?_replicate]at e
       split at e <;> cases e
      ·unfold bst at e
       rw[List.getElem?_append_right (by simpa using z),List.length_replicate,<- d6,List.getElem?_drop]at e
       rw[<- e]
       congr 1
       omega
   cases ok with
   | false =>
    rw[if_neg Bool.false_ne_true]at q7 ⊢
    obtain⟨m',hm,w7⟩:=hN _ _ q7
    obtain⟨a1,a2,a3,a4,a5⟩:=after I7
    exact⟨m',hm,i+1,ys,its,k,H7,a5,a3,a4,a2,r3,a1,w7⟩
   | true =>
    rw[if_pos rfl]at q7 ⊢
    refine thn (hi2 s2 H2 C fp _ s7 σ6 H7 _ I7 q7) fun v8 s8 h8=>thn h8 fun itv s9 h9=>?_
    refine y0i (Y:=Y) (pl:=h0q fp s5.heap) rfl hc (hg2 s2 H2 C fp B.nd) (ht2 s2 H2 C fp) (he s2 H2 C fp) szD neDC notFs clB (fun p hp=>?_) h9 r3 fun zs its' k' H' s' I' r' g' d' n'=>⟨rfl,?_⟩
    ·have hp':p∈h0q fp s5.heap:=by simpa [Y,blk] using hp
     exact(fpD p.1 (r0r hp').1).1
    ·obtain⟨m',hm,w8⟩:=hN _ _ n'
     have I'p:Inv Y ([(D,{cls:=.type "list",data:=.seq its'.toArray k'})]++h0q fp s5.heap) σ6 H' s':=I'.pins_of fun p hp=>by
      rcases List.mem_append.mp hp with z | z
      ·have e:p=(D,{cls:=.type "list",data:=.seq its'.toArray k'}):=by simpa using z
       subst e
       exact⟨g',d',neDC,notFs,fun v z=>by cases z⟩
      ·exact I'.pin p (List.mem_append_right _ z)
     obtain⟨a1,a2,a3,a4,a5⟩:=after I'p
     exact⟨m',hm,i+1,zs,its',k',H',a5,a3,a4,d',r',g',w8⟩
 exact codeAny_compStart_list (loop _ rfl) (T.self _ 0 _ _ _ (T.keep 0 _ _ st2 fun b hb o e=>keep1 b o e) (loop _ rfl))
theorem e1r {elt tg iter tg2 iter2:Expr}{ifs ifs2:List Expr}{scope:Scope}{pos:Pos}(own:List Str)(js:List Nat){wi wi2:TI}{g g2:TG}{tc tc2:TT}{te:TE}(hc:X.calm=true)(B:Blk X scope own js)(hi:PI X tg iter wi)
  (hg:∀s H C fp,(own++capN X.N js).Nodup->PG (blk X scope (own++capN X.N js) s H C fp) tg g) (ht:∀s H C fp,PTs (blk X scope (own++capN X.N js) s H C fp) ifs tc)
  (hi2:∀s H C fp,PI (blk X scope (own++capN X.N js) s H C fp) tg2 iter2 wi2) (hg2:∀s H C fp,(own++capN X.N js).Nodup->PG (blk X scope (own++capN X.N js) s H C fp) tg2 g2) (ht2:∀s H C fp,PTs (blk X scope (own++capN X.N js) s H C fp) ifs2 tc2) (he:∀s H C fp,PE (blk X scope (own++capN X.N js) s H C fp) elt te)
  (hs:∀x,foldedSetIterable iter X.env x=pure x:=by intro _;rfl) (hs2:∀s H C fp x,foldedSetIterable iter2 (blk X scope (own++capN X.N js) s H C fp).env x=pure x:=by intros;rfl):PE X (.ListComp elt [⟨tg,iter,ifs,0⟩,⟨tg2,iter2,ifs2,0⟩] scope pos) (g1k own.length js wi g tc wi2 g2 tc2 te):=by
 intro pins s σ H Q I h
 have hcl:closureFor scope X.env=pure (e0v scope X.env):=f0j fun x hx hf=>I.ok.has x.1 (B.free x hx hf)
 rw[eval_ListComp]
 refine wpAny_comprehension_free (use:=none) rfl hs hcl B.kind B.names (thn (hi pins s σ H _ I h) fun v s1 h1=>thn h1 fun itv s2 h2=>?_)
 refine u0y (RR:=fun acc C=>compPost (model X.prog X.w) X.A X.xe none (EP X pins σ Q) acc C) hc B hg ht hi2 hg2 ht2 hs2 he h2 fun C acc s' hb=>?_
 obtain⟨D,H',m,rfl,hn,I',c1,c2,c3,c4,c5,q⟩:=hb
 exact⟨m,hn,fun h' hs'=>⟨.ref D,H',I'.young hs' c1 c2 c3 c4 c5,rfl,q⟩⟩
end
def k0e (n2:Nat)(c:En->Prop)(g:AG)(tc:AT)(te:AE)(k:List D->En->Prop):List D->List D->En->Prop
 | [],acc,ρ=>c ρ/\k acc ρ
 | d::ds,acc,ρ=>c ρ/\acc.length<=1000000/\g d ρ fun ρ1=>tc ρ1 fun b ρ2=>if b=true then te ρ2 fun r ρ3=>sto [r.frz] ρ3 fun es ρ4=>k0e n2 c g tc te k ds (acc++es) (List.replicate n2 .un++ρ4.drop n2)else k0e n2 c g tc te k ds acc (List.replicate n2 .un++ρ2.drop n2)
def l0i (n2 n:Nat)(js:List Nat)(c:En->Prop)(g:AG)(tc:AT)(i2:AI)(g2:AG)(tc2:AT)(te:AE)(q:List D->En->Prop):List D->List D->En->Prop
 | [],acc,ρ=>c ρ/\acc.length<=1000000/\q acc ρ
 | d::ds,acc,ρ=>c ρ/\g d (blkE n js ρ) fun ρ1=>tc ρ1 fun b ρ2=>if b=true then i2 ρ2 fun ds2 c2 ρ3=>k0e n2 c2 g2 tc2 te (fun acc' ρ4=>l0i n2 n js c g tc i2 g2 tc2 te q ds acc' (back ρ (js.map R.o) (ρ4.drop n))) ds2 acc ρ3 else l0i n2 n js c g tc i2 g2 tc2 te q ds acc (back ρ (js.map R.o) (ρ2.drop n))
def n1m (n2 n:Nat)(js:List Nat)(i:AI)(g:AG)(tc:AT)(i2:AI)(g2:AG)(tc2:AT)(te:AE):AE:=fun ρ q=>i ρ fun ds c ρ1=>l0i n2 n js c g tc i2 g2 tc2 te (fun acc ρ2=>q (.f acc) ρ2) ds [] ρ1
section
variable {K:PySem.W.Frag}
theorem z0e {n2:Nat}{g2:TG}{tc2:TT}{te:TE}{ag2:AG}{atc2:AT}{ate:AE}(hg:TGok K (fun j=>decide (n2<=j)) g2 ag2)(hc:TTok K tc2 atc2)(he:TEok K te ate)
  {F:Fr} {σ:St} {ρ:En} {H:Hp} {J:It} {ds:List D} {c:En->Prop} {k:List D->En->Prop} {N:List V->Hp->Prop} {ys:List V} {acc:List D}
  (hpin:∀i a,F.pin i a->n2<=i) (hn:n2<=σ.length) (h0:σ=List.replicate n2 none++σ.drop n2) (r:Rel K F σ ρ H)
  (wk:∀ ρ2 H2,Same (hid H (hs F σ ρ)) (hid H2 (hs F σ ρ2))->(∀i,SvOk K (hid H2 (hs F σ ρ2)) H2 σ[i]? (gt ρ2 i))->(∀a,hs F σ ρ2 a->Nt H2 a)->c ρ2->WkAt K (hs F σ ρ2) H2 J ds)
  (rd:RepDs K (hid H (hs F σ ρ)) ys acc) (h:k0e n2 c ag2 atc2 ate k ds acc ρ)
  (kk:∀acc' ρ' ys' H',k acc' ρ'->Rel K F σ ρ' H'->Kp σ ρ ρ' H H'->RepDs K (hid H' (hs F σ ρ')) ys' acc'->N ys' H'):k1g J g2 tc2 te N σ ys H:=by
 refine⟨fun i m ys H'=>∃ ρ' acc,m=ds.length - i/\i<=ds.length/\Rel K F σ ρ' H'/\Kp σ ρ ρ' H H'/\RepDs K (hid H' (hs F σ ρ')) ys acc/\k0e n2 c ag2 atc2 ate k (ds.drop i) acc ρ',⟨ds.length,ρ,acc,rfl,Nat.zero_le _,r,.refl,rd,h⟩,?_⟩
 rintro i m ys H' ⟨ρ',acc,rfl,hl,r',k',rd,h'⟩
 have w:c ρ'->WkAt K (hs F σ ρ') H' J ds:=fun hc=>wk ρ' H' k'.vis r'.sl (fun a z=>b1v r' z) hc
 rcases Nat.lt_or_ge i ds.length with lt | ge
 ·right
  rw[List.drop_eq_getElem_cons lt]at h'
  unfold k0e at h'
  obtain⟨hcc,hz,h'⟩:=h'
  obtain⟨go,yld⟩:=(w hcc i).1 ds[i] (List.getElem?_eq_getElem lt)
  have yl:ys.length=acc.length:=rd.length
  refine⟨go,o0f (by omega),fun zs H2=>∃ ρ2 acc2,Rel K F σ ρ2 H2/\Kp σ ρ ρ2 H H2/\RepDs K (hid H2 (hs F σ ρ2)) zs acc2/\k0e n2 c ag2 atc2 ate k (ds.drop (i+1)) acc2 ρ2,
   fun zs H2 ⟨ρ2,acc2,a1,a2,a3,a5⟩=>⟨ds.length - (i+1),by omega,ρ2,acc2,rfl,lt,a1,a2,a3,a5⟩,fun x H2 hy=>?_⟩
  obtain⟨sm,rx⟩:=yld x H2 hy
  have k':Kp σ ρ ρ' H H2:=k'.trans ⟨fun a o e _=>sm a o e,fun _ h=>h⟩
  have rd:RepDs K (hid H2 (hs F σ ρ')) ys acc:=rd.same (b0o fun a o e n=>⟨sm a o e,n⟩)
  have r':=r'.grow sm
  refine hg F σ ρ' H2 x _ _ _ (fun i a h=>decide_eq_true (hpin i a h)) r' rx h' fun σ3 ρ3 h3 r3 l3 p3 o3=>?_
  have drop3:σ3.drop n2=σ.drop n2:=by
   apply List.ext_getElem?
   intro i
   rw[List.getElem?_drop,List.getElem?_drop]
   exact p3 (n2+i) (decide_eq_true (Nat.le_add_right ..))
  have ret:∀ ρ4 H4,Rel K F σ3 ρ4 H4->Kp σ3 ρ3 ρ4 H2 H4->Rel K F σ (List.replicate n2 .un++ρ4.drop n2) H4/\Kp σ ρ' (List.replicate n2 .un++ρ4.drop n2) H2 H4/\Same (hid H4 (hs F σ3 ρ4)) (hid H4 (hs F σ (List.replicate n2 .un++ρ4.drop n2))):=fun ρ4 H4 r4 k4=>by
   obtain⟨f1,f2⟩:=r4.forget (n:=n2) (by omega) hpin
   rw[drop3,<- h0]at f1 f2
   refine⟨f1,⟨fun a o e n=>k4.st a o e fun⟨j,hj,ej⟩=>?_,fun j hj=>?_⟩,f2⟩
   ·obtain⟨b1,b2⟩:=o3 j hj
    rw[b2]at ej
    exact n ⟨j,b1,ej⟩
   ·rw[o0n]at hj
    split at hj
    ·cases hj
    ·rename_i hnj
     rw[k0n,show n2+(j - n2)=j by omega]at hj
     exact(o3 j (k4.sb j hj)).1
  refine⟨⟨l3,fun j v e=>?_⟩,hc F σ3 ρ3 H2 _ _ r3 h3 fun b ρ4 H4 h4 r4 k4=>?_⟩
  ·rcases Nat.lt_or_ge j n2 with z | z
   ·exfalso
    rw[h0,List.getElem?_append_left (by simpa using z),List.getElem?_replicate]at e
    split at e <;> cases e
   ·rw[p3 j (decide_eq_true z)];exact e
  ·cases b with
   | false =>
    obtain⟨b1,b2,_⟩:=ret ρ4 H4 r4 k4
    exact⟨_,acc,b1,k'.trans b2,rd.same b2.vis,h4⟩
   | true =>
    refine he F σ3 ρ4 H4 _ _ r4 h4 fun r5 ρ5 v H5 h5 o5=>?_
    obtain⟨r5',k5,i5⟩:=o5.inF
    obtain⟨d,ρ6,h6,r6,k6,rv⟩:=t0k r5' i5 h5
    obtain⟨b1,b2,b3⟩:=ret ρ6 H5 r6 (k4.trans (k5.trans k6))
    exact⟨_,acc++[d],b1,k'.trans b2,(rd.same b2.vis).append (.one (rv.same b3)),h6⟩
 ·left
  rw[List.drop_eq_nil_of_le ge]at h'
  unfold k0e at h'
  obtain⟨hcc,h'⟩:=h'
  exact⟨(w hcc i).2 ge,kk acc ρ' ys H' h' r' k' rd⟩
theorem z0i {n2 n:Nat}{js:List Nat}{wi wi2:TI}{g g2:TG}{tc tc2:TT}{te:TE}{ai ai2:AI}{ag ag2:AG}{atc atc2:AT}{ate:AE}(hi:TIok K (fun _=>true) wi ai)(hg:TGok K (fun j=>decide (j<n2)||decide (n<=j)) g ag)(hc:TTok K tc atc)
  (hi2:TIok K (fun _=>true) wi2 ai2) (hg2:TGok K (fun j=>decide (n2<=j)) g2 ag2) (hc2:TTok K tc2 atc2) (he:TEok K te ate)
  (hn:n2<=n:=by decide) (hd:dis (js.map R.o)=true:=by rfl):TEok K (g1k n js wi g tc wi2 g2 tc2 te) (n1m n2 n js ai ag atc ai2 ag2 atc2 ate):=by
 intro F σ ρ H q Q r h k
 refine hi F σ ρ H _ _ r h fun ds c ρ1 J H1 h1 r1 k1 wk=>?_
 have hd':dis (blkR n js)=true:=by rw[l0v];exact hd
 refine⟨fun i m ys H'=>∃ ρ' acc,m=ds.length - i/\i<=ds.length/\Rel K F σ ρ' H'/\Kp σ ρ1 ρ' H1 H'/\RepDs K (hid H' (hs F σ ρ')) ys acc/\l0i n2 n js c ag atc ai2 ag2 atc2 ate (fun acc ρ2=>q (.f acc) ρ2) (ds.drop i) acc ρ',⟨ds.length,ρ1,[],rfl,Nat.zero_le _,r1,.refl,.nil,h1⟩,?_⟩
 rintro i m ys H' ⟨ρ',acc,rfl,hl,r',k',rd,h'⟩
 have w:c ρ'->WkAt K (hs F σ ρ') H' J ds:=fun hc=>wk σ ρ' H' k'.vis r'.sl (fun _ _ _ e=>e) (fun a z=>b1v r' z) hc
 have yl:ys.length=acc.length:=rd.length
 rcases Nat.lt_or_ge i ds.length with lt | ge
 ·right
  rw[List.drop_eq_getElem_cons lt]at h'
  unfold l0i at h'
  obtain⟨hcc,h'⟩:=h'
  obtain⟨go,yld⟩:=(w hcc i).1 ds[i] (List.getElem?_eq_getElem lt)
  refine⟨go,fun zs H2=>∃ ρ2 acc2,Rel K F σ ρ2 H2/\Kp σ ρ1 ρ2 H1 H2/\RepDs K (hid H2 (hs F σ ρ2)) zs acc2/\l0i n2 n js c ag atc ai2 ag2 atc2 ate (fun acc ρ2=>q (.f acc) ρ2) (ds.drop (i+1)) acc2 ρ2,
   fun zs H2 ⟨ρ2,acc2,a1,a2,a3,a5⟩=>⟨ds.length - (i+1),by omega,ρ2,acc2,rfl,lt,a1,a2,a3,a5⟩,fun x H2 hy=>?_⟩
  obtain⟨sm,rx⟩:=yld x H2 hy
  have r0':=r'
  have k':Kp σ ρ1 ρ' H1 H2:=k'.trans ⟨fun a o e _=>sm a o e,fun _ h=>h⟩
  have rd:RepDs K (hid H2 (hs F σ ρ')) ys acc:=rd.same (b0o fun a o e n=>⟨sm a o e,n⟩)
  have r':=r0'.grow sm
  have src:=q0l (K:=K) (F:=F) (σ:=σ) (ρ:=ρ') (H:=H2) n js
  have rb:=r'.sub src hd'
  have hs2:=v0w r' src
  rw[c0g]at rb hs2
  have pin0:∀i a,(g0c F σ ρ' H2 (bst n σ js) (blkE n js ρ')).pin i a->n<=i:=fun i a h=>by
   rcases h with h | h
   ·exact q0m h.1
   ·exact h.elim
  have hlen:(bst n σ js).length=n+js.length:=j0d
  have ret:∀ σ2 ρ2 H3,Rel K (g0c F σ ρ' H2 (bst n σ js) (blkE n js ρ')) σ2 ρ2 H3->σ2.length=(bst n σ js).length->σ2.drop n=capt σ js->(∀i,(gt ρ2 i).own=true->(gt (blkE n js ρ') i).own=true) ->
    Rel K F σ (back ρ' (js.map R.o) (ρ2.drop n)) H3/\Kp σ ρ' (back ρ' (js.map R.o) (ρ2.drop n)) H2 H3/\Same (hid H3 (hs (g0c F σ ρ' H2 (bst n σ js) (blkE n js ρ')) σ2 ρ2)) (hid H3 (hs F σ (back ρ' (js.map R.o) (ρ2.drop n)))):=fun σ2 ρ2 H3 rr hlen2 hdrop hown=>by
   obtain⟨f1,f2⟩:=rr.forget (n:=n) (by omega) pin0
   rw[hdrop]at f1 f2
   have f1':Rel K (g0c F σ ρ' H2 (bst n σ js) ((blkR n js).map (e0x ρ'))) (bst n σ js) (List.replicate n .un++ρ2.drop n) H3:=by rw[c0g];exact f1
   have bk:=r'.back src hd' f1' fun i hi=>by
    rw[c0g]
    rw[o0n]at hi
    split at hi
    ·cases hi
    ·rename_i hni
     rw[k0n,show n+(i - n)=i by omega]at hi
     exact hown i hi
   have ln:(List.replicate n Sv.un++ρ2.drop n).length=n+js.length:=by
    have:=rr.len
    simp;omega
   rw[n0g js ρ' n _ ln,List.drop_left' (by simp),c0g]at bk
   exact⟨bk.1,bk.2.1,f2.trans bk.2.2⟩
  refine hg _ (bst n σ js) (blkE n js ρ') H2 x _ _ _ (fun i a h=>by simp[pin0 i a h]) rb (by rw[hs2];exact rx) h' fun σ2 ρ2 h2 r2 l2 p2 o2=>?_
  have hdrop:σ2.drop n=capt σ js:=by
   have:σ2.drop n=(bst n σ js).drop n:=by
    apply List.ext_getElem?
    intro i
    rw[List.getElem?_drop,List.getElem?_drop]
    exact p2 (n+i) (by simp)
   rw[this]
   unfold bst
   rw[List.drop_left' (by simp)]
  have hin:σ2=List.replicate n2 none++σ2.drop n2:=by
   apply List.ext_getElem?
   intro j
   rcases Nat.lt_or_ge j n2 with z | z
   ·rw[p2 j (by simp[z]),List.getElem?_append_left (by simpa using z)]
    unfold bst
    rw[List.getElem?_append_left (by simp;omega),List.getElem?_replicate,List.getElem?_replicate,if_pos z,if_pos (by omega)]
   ·rw[List.getElem?_append_right (by simpa using z),List.length_replicate,List.getElem?_drop]
    congr 1;omega
  have rdb:RepDs K (hid H2 (hs (g0c F σ ρ' H2 (bst n σ js) (blkE n js ρ')) σ2 ρ2)) ys acc:=by
   rw[<- hs2]at rd
   refine rd.same (b0o fun a o e nn=>⟨e,fun z=>nn ?_⟩)
   rcases z with z | ⟨j,hj,ej⟩
   ·exact .inl z
   ·obtain⟨b1,b2⟩:=o2 j hj
    rw[b2]at ej
    exact .inr ⟨j,b1,ej⟩
  refine⟨hdrop,hc _ σ2 ρ2 H2 _ _ r2 h2 fun b ρ3 H3 h3 r3 k3=>?_⟩
  cases b with
  | false =>
   obtain⟨b1,b2,_⟩:=ret σ2 ρ3 H3 r3 l2 hdrop fun i hi=>(o2 i (k3.sb i hi)).1
   exact⟨_,acc,b1,k'.trans b2,rd.same b2.vis,h3⟩
  | true =>
   refine hi2 _ σ2 ρ3 H3 _ _ r3 h3 fun ds2 c2 ρ4 J2 H4 h4 r4 k4 wk2=>?_
   refine z0e hg2 hc2 he (fun i a h=>Nat.le_trans hn (pin0 i a h)) (by omega) hin r4 (fun ρ5 H5 a1 a2 a3 a4=>wk2 σ2 ρ5 H5 a1 a2 (fun _ _ _ e=>e) a3 a4) (rdb.same (k3.trans k4).vis) h4 fun acc' ρ5 ys' H5 h5 r5 k5 rd5=>?_
   obtain⟨b1,b2,b3⟩:=ret σ2 ρ5 H5 r5 l2 hdrop fun i hi=>(o2 i (k3.sb i (k4.sb i (k5.sb i hi)))).1
   exact⟨_,acc',b1,k'.trans b2,rd5.same b3,h5⟩
 ·left
  rw[List.drop_eq_nil_of_le ge]at h'
  unfold l0i at h'
  obtain⟨hcc,hz,h'⟩:=h'
  refine⟨(w hcc i).2 ge,small (by omega),fun l hl'=>?_⟩
  exact((k.after k1).after k').new r' h' rd hl'
end
section
variable {n2 n:Nat}{js:List Nat}{c:En->Prop}{g g2:AG}{tc tc2:AT}{i2:AI}{te:AE}
theorem s0r {α:Type}{q:List D->En->Prop}(h:α->D)(f:α->List D){xs:List α}{ρ:En}(hc:c ρ)
  (hs:∀x acc (N:List D->En->Prop),x∈xs->(∃ys:List α,ys.length<=xs.length/\acc=(ys.flatMap f)/\∀y∈ys,y∈xs)->N (acc++f x) ρ->g (h x) (blkE n js ρ) fun ρ1=>tc ρ1 fun b ρ2=>if b=true then i2 ρ2 fun ds2 c2 ρ3=>k0e n2 c2 g2 tc2 te (fun acc' ρ4=>N acc' (back ρ (js.map R.o) (ρ4.drop n))) ds2 acc ρ3 else N acc (back ρ (js.map R.o) (ρ2.drop n)))
  (hl:(xs.flatMap f).length<=1000000) (hd:q (xs.flatMap f) ρ):l0i n2 n js c g tc i2 g2 tc2 te q (xs.map h) [] ρ:=by
 have go:∀(zs ys:List α),ys++zs=xs->l0i n2 n js c g tc i2 g2 tc2 te q (zs.map h) (ys.flatMap f) ρ:=by
  intro zs
  induction zs with
  | nil =>
   intro ys e
   rw[List.append_nil]at e
   subst e
   rw[List.map_nil]
   unfold l0i
   exact⟨hc,hl,hd⟩
  | cons z zs ih =>
   intro ys e
   rw[List.map_cons]
   unfold l0i
   refine⟨hc,hs z _ (fun acc' ρ'=>l0i n2 n js c g tc i2 g2 tc2 te q (zs.map h) acc' ρ') (by rw[<- e];simp) ⟨ys,by rw[<- e,List.length_append];omega,rfl,fun y hy=>by rw[<- e];exact List.mem_append_left _ hy⟩ ?_⟩
   have:=ih (ys++[z]) (by rw[<- e,List.append_assoc];rfl)
   rw[List.flatMap_append,List.flatMap_cons,List.flatMap_nil,List.append_nil]at this
   exact this
 exact go xs [] rfl
end
end L2
namespace L2
theorem h1a {i j:Nat}{d:D}{ρ:En}{k:En->Prop}(h:y0m 2 (k0a (j0z i) (k0a (j0z j) gaNil)) d ρ k):∃ ρ',k ρ':=by
 cases d with
 | tup ds =>
  cases ds with
  | nil=>exact h.elim
  | cons d1 ds =>
   cases ds with
   | nil=>exact h.elim
   | cons d2 ds =>
    cases ds with
    | nil=>exact⟨_,h⟩
    | cons _ _=>exact h.elim
 | _=>exact h.elim
theorem z0n {i j m:Nat}{d1 d2 d3:D}{ρ:En}{k:En->Prop}(h:k (pt (pt (pt ρ i (.vl d1)) j (.vl d2)) m (.vl d3))):y0m 2 (k0a (j0z i) (k0a (y0m 2 (k0a (j0z j) (k0a (j0z m) gaNil))) gaNil)) (.tup [d1,.tup [d2,d3]]) ρ k:=h
end L2
namespace L2
open PySem PySem.Spec PyProof.Rows
abbrev EnO (h:Heap)(e it:Addr)(i:Int)(old:Value)(a:Addr)(f:Bool):Prop :=
 h.get? e=some {cls:=.type "enumerate",dict:=none,data:=.fields #[rawInt a,.bool f,.ref it,rawInt i,.none,old],slots:=#[]}
section
variable {prog:Program}{w:World}{A:Around}{E:Value->Shared->Prop}{s:Shared}
theorem f1a {a:Addr}{o:Obj}{Q:Option Obj->Shared->Prop}(ho:s.heap.get? a=some o)(h:Q (some o) s):wpAny (model prog w) A (loadIfAlive a) Q E s:=by
 have h':Q (s.heap.get? a) s:=by rw[ho];exact h
 exact fun _ _ _=>h'
theorem f1n {e it a:Addr}{f:Bool}{oa:Obj}{fp:List Addr}{n i:Nat}{P:Nat->Value->Prop}{St:Nat->Heap->Prop}{old:Value}{Q:Value->Shared->Prop}
  (D:Draws prog w A it fp n P St) (he:EnO s.heap e it i old a f) (ha:s.heap.get? a=some oa) (hae:a≠e) (hai:a≠it) (hst:St i s.heap) (hlt:i<n) (hne:e≠it) (hef:e∉fp)
  (hQ:∀x h' tk,P i x->EnO h' e it ((i:Int)+1) old a true->St (i+1) h' ->
   h'.get? s.heap.objs.size=some {cls:=.type "tuple",data:=.seq #[.int i tk,x]}->h'.objs.size=s.heap.objs.size+1 ->
   (∀b o,b≠e->b≠it->s.heap.get? b=some o->h'.get? b=some o)->Q (.ref s.heap.objs.size) {s with heap:=h',toks:=tk+1}) :
  wpAny (model prog w) A (Builtin.«enumerate.__next__» ⟨[.ref e],[]⟩) (fun fin s'=>∃v,fin = .done (.ret v)/\Q v s') E s:=by
 obtain⟨hp,g,d,tk₀,os⟩:=s
 show wpAny _ _ (field (.ref e) 2>>=_) _ _ _
 refine wpAny_bind (wpAny_field he rfl (x:=.ref it) rfl ?_)
 refine wpAny_bind (D.item i _ _ _ hlt hst fun x h₁ tk hPx hit₁ hs₁=>?_)
 replace hs₁:Heap.SameBut it hp h₁:=hs₁
 have he₁:EnO h₁ e it i old a f:=(hs₁.2 e hne).trans he
 show wpAny _ _ (field (.ref e) 3>>=_) _ _ ⟨h₁,g,d,tk,os⟩
 refine wpAny_bind (wpAny_field he₁ rfl (x:=rawInt i) rfl ?_)
 show wpAny _ _ (field (.ref e) 4>>=_) _ _ ⟨h₁,g,d,tk,os⟩
 refine wpAny_bind (wpAny_field he₁ rfl (x:=.none) rfl ?_)
 show wpAny _ _ (mkInt i>>=_) _ _ ⟨h₁,g,d,tk,os⟩
 refine wpAny_bind (wpAny_mkInt ?_)
 show wpAny _ _ (setField (.ref e) 3 (rawInt ((i:Int)+1))>>=_) _ _ ⟨h₁,g,d,tk+1,os⟩
 refine wpAny_bind (wpAny_setField_rec he₁ (by simp) fun h₂ he₂ hs₂=>?_)
 replace hs₂:Heap.SameBut e h₁ h₂:=hs₂
 replace he₂:EnO h₂ e it ((i:Int)+1) old a f:=he₂
 show wpAny _ _ (setField (.ref e) 4 .none>>=_) _ _ ⟨h₂,g,d,tk+1,os⟩
 refine wpAny_bind (wpAny_setField_rec he₂ (by simp) fun h₃ he₃ hs₃=>?_)
 replace hs₃:Heap.SameBut e h₂ h₃:=hs₃
 replace he₃:EnO h₃ e it ((i:Int)+1) old a f:=he₃
 show wpAny _ _ (newTuple [.int i tk,x]>>=_) _ _ ⟨h₃,g,d,tk+1,os⟩
 refine wpAny_bind (wpAny_newTuple ?_)
 have he₄:EnO (h₃.push {cls:=.type "tuple",data:=.seq #[.int i tk,x]}) e it ((i:Int)+1) old a f:=Heap.get?_push_of_some _ he₃
 generalize hh₄:h₃.push {cls:=.type "tuple",data:=.seq #[.int i tk,x]}=h₄ at he₄
 have hsz:h₃.objs.size=hp.objs.size:=by rw[hs₃.1,hs₂.1,hs₁.1]
 have hel:e<hp.objs.size:=Heap.lt_size he
 have ht₄:h₄.get? hp.objs.size=some {cls:=.type "tuple",data:=.seq #[.int i tk,x]}:=by rw[<- hh₄,<- hsz];exact Heap.get?_push_size _ rfl
 have hz₄:h₄.objs.size=hp.objs.size+1:=by rw[<- hh₄,Heap.size_push,hsz]
 have hk₄:∀b o,b≠e->b≠it->hp.get? b=some o->h₄.get? b=some o:=fun b o hbe hbi hb=>by
  rw[<- hh₄];exact Heap.get?_push_of_some _ (hs₃.extBut b o hbe (hs₂.extBut b o hbe (hs₁.extBut b o hbi hb)))
 have hit₄:St (i+1) h₄:=D.frame _ _ _ hit₁ fun b hb o y=>by
  have hbe:b≠e:=fun q=>hef (q▸hb)
  rw[<- hh₄];exact Heap.get?_push_of_some _ (hs₃.extBut b o hbe (hs₂.extBut b o hbe y))
 show wpAny _ _ (Builtin.SmallTypes.ownedTupleIsFree (.ref e)>>=_) _ _ ⟨h₄,g,d,tk+1,os⟩
 rw[hsz]
 clear hh₄ he₃ hs₃ he₂ hs₂ he₁ hs₁ hit₁ hsz h₃ h₂ h₁
 have ha₄:h₄.get? a=some oa:=hk₄ a oa hae hai ha
 refine wpAny_bind ?_
 unfold Builtin.SmallTypes.ownedTupleIsFree
 refine wpAny_bind (wpAny_field he₄ rfl (x:=rawInt a) rfl ?_)
 show wpAny _ _ (loadIfAlive ((a:Int).toNat)>>=_) _ _ _
 rw[Int.toNat_natCast]
 refine wpAny_bind (f1a ha₄ ?_)
 simp only[Option.isNone_some,Bool.false_eq_true,if_false]
 refine wpAny_bind (wpAny_field he₄ rfl (x:=.bool f) rfl ?_)
 have fin:∀h₅:Heap,EnO h₅ e it ((i:Int)+1) old a true->Heap.SameBut e h₄ h₅->Q (.ref hp.objs.size) ⟨h₅,g,d,tk+1,os⟩:=fun h₅ he₅ hs₅ =>
  hQ x h₅ tk hPx he₅ (D.frame _ _ _ hit₄ fun b hb o y=>hs₅.extBut b o (fun q=>hef (q▸hb)) y) (hs₅.extBut _ _ (Nat.ne_of_gt hel) ht₄) (by show h₅.objs.size=hp.objs.size+1;rw[hs₅.1,hz₄]) fun b o hbe hbi hb=>hs₅.extBut b o hbe (hk₄ b o hbe hbi hb)
 cases f with
 | true =>
  rw[if_neg (show ¬((Value.bool true != Value.bool true)=true)from Bool.false_ne_true)]
  refine wpAny_pure ?_
  simp only[Bool.false_eq_true,if_false]
  exact wpAny_pure ⟨_,rfl,fin h₄ he₄ (Heap.SameBut.refl _ _)⟩
 | false =>
  rw[if_pos (show(Value.bool false != Value.bool true)=true from rfl)]
  refine wpAny_bind (wpAny_setField_rec he₄ (by simp) fun h₅ he₅ hs₅=>?_)
  replace hs₅:Heap.SameBut e h₄ h₅:=hs₅
  replace he₅:EnO h₅ e it ((i:Int)+1) old a true:=he₅
  refine wpAny_pure ?_
  simp only[Bool.false_eq_true,if_false]
  exact wpAny_pure ⟨_,rfl,fin h₅ he₅ hs₅⟩
def EnS (h:Heap)(e it:Addr)(i:Nat)(S:Addr):Prop:=(∃old,IsEnum h e it i old) ∨ ∃old a f oa,EnO h e it i old a f/\h.get? a=some oa/\a≠e/\a≠it/\a≠S
theorem EnS.keep {h h':Heap}{e it S:Addr}{i:Nat}(x:EnS h e it i S)(hk:∀b o,b≠S->h.get? b=some o->h'.get? b=some o)(hS:e≠S):EnS h' e it i S:=by
 rcases x with⟨old,he⟩ | ⟨old,a,f,oa,he,ha,h1,h2,h3⟩
 ·exact .inl ⟨old,hk _ _ hS he⟩
 ·exact .inr ⟨old,a,f,oa,hk _ _ hS he,hk _ _ h3 ha,h1,h2,h3⟩
theorem EnS.typeIs {e it S:Addr}{i:Nat}(x:EnS s.heap e it i S):s.TypeIs (.ref e) "enumerate" := by
 rcases x with⟨old,he⟩ | ⟨old,a,f,oa,he,_⟩
 ·exact⟨_,he,rfl⟩
 ·exact⟨_,he,rfl⟩
theorem f1m {e it S:Addr}{fp:List Addr}{n i:Nat}{P:Nat->Value->Prop}{St:Nat->Heap->Prop}{Q:Option Value->Shared->Prop}
  (D:Draws prog w A.in1 it fp n P St) (he:EnS s.heap e it i S) (hit:it<s.heap.objs.size) (hS:S<s.heap.objs.size) (hst:St i s.heap) (hlt:i<n) (hne:e≠it) (hef:e∉fp)
  (hQ:∀x h' tk,P i x->EnS h' e it (i+1) S->St (i+1) h' ->
   h'.get? s.heap.objs.size=some {cls:=.type "tuple",data:=.seq #[.int i tk,x]}->h'.objs.size=s.heap.objs.size+1 ->
   (∀b o,b≠e->b≠it->s.heap.get? b=some o->h'.get? b=some o)->Q (some (.ref s.heap.objs.size)) {s with heap:=h',toks:=tk+1}) :
  wpAny (model prog w) A (pyNext (.ref e)) Q E s:=by
 have hT:s.TypeIs (.ref e) "enumerate" := he.typeIs
 rcases he with⟨old,he⟩ | ⟨old,a,f,oa,he,ha,h1,h2,h3⟩
 ·refine wpAny_pyNext_enum_itemD D he hst hlt hne hef fun x h' tk hP ho hs ht hz hk=>hQ x h' tk hP (.inr ⟨x,_,false,_,?_,ht,Nat.ne_of_gt (Heap.lt_size he),Nat.ne_of_gt hit,Nat.ne_of_gt hS⟩) hs ht hz hk
  have ec:((i+1:Nat):Int)=(i:Int)+1:=by omega
  rw[ec];exact ho
 ·unfold pyNext
  refine wpAny_bind (wpAny_attempt (wpAny_callSpecial?_slot (name:=Str.ofString "__next__") hT F.slot_enumerate_next
   (wpAny_call_entry F.slot_enumerate_next hT F.entry_enumerate_next
    (f1n D he ha h1 h2 hst hlt hne hef fun x h' tk hP ho hs ht hz hk=>wpAny_pure (hQ x h' tk hP (.inr ⟨old,a,true,oa,?_,hk a oa h1 h2 ha,h1,h2,h3⟩) hs ht hz hk)) (F.args_enumerate_next_1 _))))
  have ec:((i+1:Nat):Int)=(i:Int)+1:=by omega
  rw[ec];exact ho
theorem j1r {e it S:Addr}{fp:List Addr}{n i:Nat}{P:Nat->Value->Prop}{St:Nat->Heap->Prop}{Q:Option Value->Shared->Prop}
  (D:Draws prog w A.in1 it fp n P St) (he:EnS s.heap e it i S) (hst:St n s.heap)
  (hQ:∀h',Heap.ExtBut it s.heap h'->Q none {s with heap:=h'}):wpAny (model prog w) A (pyNext (.ref e)) Q E s:=by
 have hT:s.TypeIs (.ref e) "enumerate" := he.typeIs
 rcases he with⟨old,he⟩ | ⟨old,a,f,oa,he,ha,h1,h2,h3⟩
 ·exact wpAny_pyNext_enum_endD D he hst hQ
 ·unfold pyNext
  refine wpAny_bind (wpAny_attempt (wpAny_callSpecial?_slot (name:=Str.ofString "__next__") hT F.slot_enumerate_next
   (wpAny_call_entry F.slot_enumerate_next hT F.entry_enumerate_next ?_ (F.args_enumerate_next_1 _))))
  show wpAny _ _ (field (.ref e) 2>>=_) _ _ _
  refine wpAny_bind (wpAny_field he rfl (x:=.ref it) rfl ?_)
  refine wpAny_bind (D.done _ _ _ hst fun h' x he' hx'=>?_)
  obtain⟨o,ho,hc⟩:=hx'
  refine wpAny_bind (wpAny_isInstance (T := "StopIteration") (b:=true) ⟨o,ho,hc⟩ isSubtype_stop ?_)
  exact wpAny_pure (hQ _ he')
end
structure LeG (P:Nat->Value->Prop)(lo:Addr)(h:Heap)(as:List Addr):Prop where
 rise:as.Pairwise (· < ·)
 above:∀a∈as,lo<a
 pairs:∀(j:Nat) (a:Addr),as[j]? = some a->∃tk x,P j x/\h.get? a=some {cls:=.type "tuple",data:=.seq #[.int j tk,x]}
theorem LeG.there {P:Nat->Value->Prop}{lo:Addr}{h:Heap}{as:List Addr}(g:LeG P lo h as){a:Addr}(ha:a∈as):a<h.objs.size:=by
 obtain⟨j,hj⟩:=List.mem_iff_getElem?.mp ha
 obtain⟨_,_,_,e⟩:=g.pairs j a hj
 exact Heap.lt_size e
section
variable {prog:Program}{w:World}{A:Around}{s:Shared}{R:Result->Shared->Prop}
theorem j1e {S e it:Addr}{fp:List Addr}{n:Nat}{P:Nat->Value->Prop}{St:Nat->Heap->Prop}(D:Draws prog w A.in1.in1 it fp n P St)(heS:e<S)(hiS:it<S)(hne:e≠it)(hef:e∉fp)(hSf:S∉fp)(hn:n<=sizeLine)(res:Value){h₁:Heap}
  (hR:∀h' tk acc c as,(∀b o,b≠S->b≠e->b≠it->h₁.get? b=some o->h'.get? b=some o)->h'.get? S=some {cls:=.type "list",dict:=none,data:=.seq acc c,slots:=#[]}->as.length=n->LeG P S h' as ->
   acc.toList=as.map Value.ref->R (.ok (.ret res)) {s with heap:=h',toks:=tk}) :
  ∀(k i:Nat) (h:Heap) (tk c:Nat) (acc:Array Value) (as:List Addr),n - i=k->i<=n->EnS h e it i S->St i h->(∀b o,b≠S->b≠e->b≠it->h₁.get? b=some o->h.get? b=some o) ->
   h.get? S=some {cls:=.type "list",dict:=none,data:=.seq acc c,slots:=#[]}->acc.toList=as.map Value.ref->as.length=i->LeG P S h as ->
   codeAny (model prog w) A (.builtin "list.extend.loop" ⟨[.ref S,.ref e,res],[]⟩) R {s with heap:=h,toks:=tk}:=by
 intro k
 induction k with
 | zero =>
  intro i h tk c acc as hk hi hst hD hkeep hS hacc hal hG
  have hin:i=n:=by omega
  subst hin
  refine codeAny_builtin PySem.F.entry_extend_loop ?_
  rw[Around.under_plainId PySem.F.plain_extend_loop _]
  show wpAny _ A.in1 (pyNext (.ref e)>>=_) _ _ _
  refine wpAny_bind (j1r (s:={s with heap:=h,toks:=tk}) (A:=A.in1) D hst hD fun h' he=>?_)
  refine wpAny_pure (hR h' tk acc c as (fun b o h1 h2 h3 e=>he b o h3 (hkeep b o h1 h2 h3 e)) (he S _ (Nat.ne_of_gt hiS) hS) hal ⟨hG.rise,hG.above,fun j a hj=>?_⟩ hacc)
  obtain⟨t,x,e1,e3⟩:=hG.pairs j a hj
  exact⟨t,x,e1,he a _ (Nat.ne_of_gt (Nat.lt_trans hiS (hG.above a (List.mem_of_getElem? hj)))) e3⟩
 | succ k ih =>
  intro i h tk c acc as hk hi hst hD hkeep hS hacc hal hG
  have hlt:i<n:=by omega
  have hsz:acc.size=i:=by rw[<- Array.length_toList,hacc,List.length_map,hal]
  have hSl:S<h.objs.size:=Heap.lt_size hS
  refine codeAny_builtin PySem.F.entry_extend_loop ?_
  rw[Around.under_plainId PySem.F.plain_extend_loop _]
  show wpAny _ A.in1 (pyNext (.ref e)>>=_) _ _ _
  refine wpAny_bind (f1m (s:={s with heap:=h,toks:=tk}) (A:=A.in1) (S:=S) D hst (Nat.lt_trans hiS hSl) hSl hD hlt hne hef fun x h' tk' hP hst' hD' ht hz hkp=>?_)
  dsimp only at ht hz hkp ⊢
  have hS':=hkp S _ (Nat.ne_of_gt heS) (Nat.ne_of_gt hiS) hS
  have up:∀b o,b≠S->h'.get? b=some o->(h'.update S (Obj.mapSeq (·.push (Value.ref h.objs.size)))).get? b=some o:=fun b o hb e=>(Heap.get?_update_other _ _ (Ne.symm hb)).trans e
  show wpAny _ A.in1 (updateSeq S (·.push (Value.ref h.objs.size))>>=_) _ _ _
  refine wpAny_bind ?_
  refine wpAny_updateSeq hS' rfl (wpAny_pure ⟨plainId_quiet PySem.F.plain_extend_loop _,ih (i+1) _ (tk'+1) _ (acc.push (Value.ref h.objs.size)) (as++[h.objs.size]) (by omega) hlt (hst'.keep up (Nat.ne_of_lt heS)) (D.frame _ _ _ hD' fun b hb o e=>up b o (fun q=>hSf (q▸hb)) e)
   (fun b o h1 h2 h3 e=>up b o h1 (hkp b o h2 h3 (hkeep b o h1 h2 h3 e))) (Heap.get?_update_self _ hS' rfl) (by rw[Array.toList_push,hacc,List.map_append];rfl) (by rw[List.length_append,hal];rfl) ⟨?_,?_,?_⟩⟩) (by rw[hsz];omega) (by show(acc.push (Value.ref h.objs.size)).size<=sizeLine+1;rw[Array.size_push,hsz];omega)
  ·refine List.pairwise_append.mpr ⟨hG.rise,List.pairwise_singleton _ _,fun a ha b hb=>?_⟩
   rw[List.mem_singleton.mp hb]
   exact hG.there ha
  ·intro a ha
   rcases List.mem_append.mp ha with ha | ha
   ·exact hG.above a ha
   ·rw[List.mem_singleton.mp ha];exact hSl
  ·intro j b hj
   rcases Nat.lt_trichotomy j as.length with h1 | h1 | h1
   ·rw[List.getElem?_append_left h1]at hj
    obtain⟨t,x',e1,e3⟩:=hG.pairs j b hj
    have hb:=hG.above b (List.mem_of_getElem? hj)
    exact⟨t,x',e1,up b _ (Nat.ne_of_gt hb) (hkp b _ (Nat.ne_of_gt (Nat.lt_trans heS hb)) (Nat.ne_of_gt (Nat.lt_trans hiS hb)) e3)⟩
   ·subst h1
    have hb:h.objs.size=b:=by simpa using hj
    subst hb
    exact⟨tk',x,by rw[hal];exact hP,by rw[hal];exact up _ _ (Nat.ne_of_gt hSl) ht⟩
   ·have hnone:(as++[h.objs.size])[j]? = none:=List.getElem?_eq_none (by rw[List.length_append,List.length_singleton];omega)
    rw[hnone]at hj;cases hj
end
theorem u0t:typeLookup (.type "enumerate") "__len__" = pure none:=by rw[typeLookup_type,builtinLookup_eq_fast];kernel_rfl
theorem s0m:typeLookup (.type "enumerate") "__length_hint__" = pure none:=by rw[typeLookup_type,builtinLookup_eq_fast];kernel_rfl
section
variable {prog:Program}{w:World}{A:Around}{E:Value->Shared->Prop}{s:Shared}
theorem j1f {e it:Addr}{fp:List Addr}{n:Nat}{P:Nat->Value->Prop}{St:Nat->Heap->Prop}{old:Value}{Q:Value->Shared->Prop}(D:Draws prog w A.in1.in1.in1 it fp n P St)(he:IsEnum s.heap e it 0 old)(hit:it<s.heap.objs.size)(hst:St 0 s.heap)(hne:e≠it)(hef:e∉fp)(hfp:∀b∈fp,b<s.heap.objs.size)(hn:n<=sizeLine)
  (hQ:∀h' tk acc c as,(∀b o,b≠e->b≠it->s.heap.get? b=some o->h'.get? b=some o)->h'.get? s.heap.objs.size=some {cls:=.type "list",dict:=none,data:=.seq acc c,slots:=#[]}->as.length=n->LeG P s.heap.objs.size h' as ->
   acc.toList=as.map Value.ref->Q (.ref s.heap.objs.size) {s with heap:=h',toks:=tk}) :
  wpAny (model prog w) A (call (.type "list") [.ref e]) Q E s:=by
 refine callType_codes (Q₁:=fun obj s₁=>obj = .ref s.heap.objs.size/\s₁={s with heap:=s.heap.push {cls:=.type "list",data:=.seq #[]}}) PySem.F.called_list (PySem.F.typeCall_list_1 _) PySem.F.entry_list_init
  (code_list_new _ ⟨rfl,rfl⟩) fun obj s₁ h₁=>?_
 obtain⟨rfl,rfl⟩:=h₁
 have hel:e<s.heap.objs.size:=Heap.lt_size he
 have hS:(s.heap.push {cls:=.type "list",data:=.seq #[]}).get? s.heap.objs.size=some {cls:=.type "list",data:=.seq #[]}:=Heap.get?_push_size _ rfl
 have old1:∀b o,s.heap.get? b=some o->(s.heap.push {cls:=.type "list",data:=.seq #[]}).get? b=some o:=fun b o e=>Heap.get?_push_of_some _ e
 have lts:∀b o,s.heap.get? b=some o->b≠s.heap.objs.size:=fun b o e=>Nat.ne_of_lt (Heap.lt_size e)
 refine⟨⟨_,hS,rfl⟩,PySem.F.args_list_init_2 _ _,?_⟩
 generalize hS0:s.heap.objs.size=S at hS hit hfp hQ hel lts ⊢
 generalize hh1:s.heap.push {cls:=.type "list",data:=.seq #[]}=hp1 at hS old1 ⊢
 show wpAny _ _ (do let old <- Builtin.List.listItems (.ref S);Builtin.List.listUpdate (.ref S) (fun _=>#[]);letGo old.toList.reverse;Builtin.List.listExtendWith (.ref S) (.ref e) .none) _ _ _
 refine wpAny_bind ?_
 unfold Builtin.List.listItems
 refine wpAny_bind (wpAny_seqItems hS rfl (wpAny_pure ?_))
 show wpAny _ _ (updateSeq S (fun _=>#[])>>=fun _=>letGo (#[]:Array Value).toList.reverse>>=fun _=>Builtin.List.listExtendWith (.ref S) (.ref e) .none) _ _ _
 refine wpAny_bind (wpAny_updateSeq hS rfl ?_)
 have hS₂:=Heap.get?_update_self (Obj.mapSeq (fun _=>(#[]:Array Value))) hS rfl
 have oth:∀b o,b≠S->hp1.get? b=some o->(hp1.update S (Obj.mapSeq (fun _=>(#[]:Array Value)))).get? b=some o :=
  fun b o hb e=>(Heap.get?_update_other _ _ (Ne.symm hb)).trans e
 refine wpAny_bind (wpAny_letGo ?_)
 generalize hp1.update S (Obj.mapSeq (fun _=>(#[]:Array Value)))=hp2 at hS₂ oth ⊢
 have old2:∀b o,s.heap.get? b=some o->hp2.get? b=some o:=fun b o e=>oth b o (lts b o e) (old1 b o e)
 have he2:IsEnum hp2 e it 0 old:=old2 _ _ he
 have hT2:Shared.TypeIs {s with heap:=hp2} (.ref e) "enumerate" := ⟨_,he2,rfl⟩
 unfold Builtin.List.listExtendWith
 refine wpAny_bind (wpAny_typeOf hT2 ?_)
 have h1:Builtin.List.listSameRef (.ref S) (.ref e)=false:=by simp[Builtin.List.listSameRef,Nat.ne_of_gt hel]
 have h2:(Value.type "enumerate" == Value.type "list")=false:=by decide
 have h3:(Value.type "enumerate" == Value.type "tuple")=false:=by decide
 simp only[h1,h2,h3,Bool.or_false,Bool.false_eq_true,if_false]
 refine wpAny_bind (wpAny_pyIter_enum he2 ?_)
 refine wpAny_bind (wpAny_holding ?_)
 unfold Builtin.List.listLengthHint
 refine wpAny_bind (wpAny_specialOf hT2 u0t ?_)
 show wpAny _ _ (specialOf (Value.ref e) (Str.ofString "__length_hint__")>>=_) _ _ _
 refine wpAny_bind (wpAny_specialOf hT2 s0m ?_)
 refine wpAny_pure ?_
 show wpAny _ _ (rule "list.extend.makes-room" >>= fun _=>Builtin.List.listTouch (.ref S)>>=fun _ =>
  again (.builtin "list.extend.loop" ⟨[.ref S,.ref e,.none],[]⟩)) _ _ _
 refine wpAny_bind (wpAny_rule ?_)
 refine wpAny_bind ?_
 show wpAny _ _ (updateSeq S (·.push .none)>>=fun _=>updateSeq S (·.pop)) _ _ _
 refine wpAny_bind (wpAny_updateSeq hS₂ rfl ?_)
 have hS₃:=Heap.get?_update_self (Obj.mapSeq (·.push Value.none)) hS₂ rfl
 refine wpAny_updateSeq (hz:=by seq_fits) hS₃ rfl ?_
 have hS₄:=Heap.get?_update_self (Obj.mapSeq (·.pop)) hS₃ rfl
 have oth4:∀b o,b≠S->hp2.get? b=some o->((hp2.update S (Obj.mapSeq (·.push Value.none))).update S (Obj.mapSeq (·.pop))).get? b=some o :=
  fun b o hb e=>(Heap.get?_update_other _ _ (Ne.symm hb)).trans ((Heap.get?_update_other _ _ (Ne.symm hb)).trans e)
 generalize (hp2.update S (Obj.mapSeq (·.push Value.none))).update S (Obj.mapSeq (·.pop))=hp4 at hS₄ oth4 ⊢
 have old4:∀b o,s.heap.get? b=some o->hp4.get? b=some o:=fun b o e=>oth4 b o (lts b o e) (old2 b o e)
 refine wpAny_pure ⟨plainId_quiet F.plain_extend_loop _,?_⟩
 refine j1e (s:=s) (h₁:=s.heap) D hel hit hne hef (fun q=>Nat.lt_irrefl _ (hfp _ q)) hn .none (fun h' tk acc c as hk hS' hl hG hacc=>?_) n 0 hp4 s.toks _ #[] [] (Nat.sub_zero _) (Nat.zero_le _) (.inl ⟨old,old4 _ _ he⟩) (D.frame _ _ _ hst fun b hb o e=>old4 b o e) (fun b o _ _ _ e=>old4 b o e) hS₄ rfl rfl
  ⟨List.Pairwise.nil,(fun _ ha=>nomatch ha),(fun j a hj=>by simp at hj)⟩
 exact⟨rfl,hQ h' tk acc c as (fun b o h1 h2 e=>hk b o (lts b o e) h1 h2 e) hS' hl hG hacc⟩
end
theorem o0c {X:Cx}{pins:List (Addr×Obj)}{σ:St}{s:Shared}{H1:Hp}{lo:Addr}(fp:∀b,lo<=b->FpOk X pins H1 b):∀(as:List Addr) (xs:List V) (k:Nat) (H:Hp),Inv X pins σ H s->as.Pairwise (· < ·)->(∀a∈as,lo<=a)->(∀a∈as,H a=none) ->
  (∀j a,as[j]? = some a->∃tk x u,xs[j]? = some x/\RelV x u/\s.heap.get? a=some {cls:=.type "tuple",data:=.seq #[.int ((k+j:Nat):Int) tk,u]}) ->
  ∃H',Inv X pins σ H' s/\Same H H'/\(∀j a,as[j]? = some a->∃x,xs[j]? = some x/\H' a=some (.tup [.int ((k+j:Nat):Int),x]))/\∀b,b∉as->H' b=H b
 | [],xs,k,H,I,_,_,_,_=>⟨H,I,.refl _,(fun j a h=>by simp at h),fun _ _=>rfl⟩
 | a::as,xs,k,H,I,hp,hl,hn,ht=>by
  obtain⟨tk,x,u,ex,ru,eu⟩:=ht 0 a rfl
  have ea:=hn a List.mem_cons_self
  have hp':=List.pairwise_cons.mp hp
  have ne:∀b∈as,b≠a:=fun b hb=>Nat.ne_of_gt (hp'.1 b hb)
  have I2:=I.trackO (p:=a) (o:=.tup [.int ((k:Nat):Int),x]) ⟨ea,(fp a (hl a List.mem_cons_self)).2⟩ ⟨by show 2<=sizeLine;decide,[.int ((k:Nat):Int) tk,u],.cons ⟨_,rfl⟩ (.cons ru .nil),_,eu,rfl,_,rfl⟩
  cases xs with
  | nil=>simp at ex
  | cons x0 xs =>
   simp only[List.getElem?_cons_zero,Option.some.injEq]at ex
   subst ex
   obtain⟨H',J1,J2,J3,J4⟩:=o0c fp as xs (k+1) _ I2 hp'.2 (fun b hb=>hl b (List.mem_cons_of_mem _ hb)) (fun b hb=>by rw[a0x (ne b hb)];exact hn b (List.mem_cons_of_mem _ hb)) (fun j b hj=>by
    obtain⟨tk,x,u,e1,e2,e3⟩:=ht (j+1) b (by simpa using hj)
    exact⟨tk,x,u,by simpa using e1,e2,by rw[show k+1+j=k+(j+1)by omega];exact e3⟩)
   refine⟨H',J1,fun b o e=>J2 b o (by rw[a0x (b0k e ea)];exact e),fun j b hj=>?_,fun b hb=>?_⟩
   ·cases j with
    | zero =>
     simp only[List.getElem?_cons_zero,Option.some.injEq]at hj
     subst hj
     exact⟨x0,rfl,J2 a _ b0l⟩
    | succ j =>
     obtain⟨x,e1,e2⟩:=J3 j b (by simpa using hj)
     exact⟨x,by simpa using e1,by rw[show k+(j+1)=k+1+j by omega];exact e2⟩
   ·have nb:b≠a:=fun z=>hb (z▸List.mem_cons_self)
    rw[J4 b (fun z=>hb (List.mem_cons_of_mem _ z)),a0x nb]
def tLsE (K:PySem.W.Frag)(t:TA):TE:=fun σ H Q=>t σ H fun vs H1=>∃l xs,vs=[.ref l]/\SqT K H1 l xs/\∀ys H0 p,Same H1 H0->ys.length=xs.length ->
 (∀j x,xs[j]? = some x->∃q,ys[j]? = some (.ref q)/\H1 q=none/\H0 q=some (.tup [.int (j:Nat),x]))->H0 p=none->Q (.ref p) (upd H0 p (.lst ys))
theorem l1u (K:PySem.W.Frag){X:Cx}{a:Expr}{ta:TA}{p1 p2 pos1 pos2:Pos}(hc:X.calm=true)(hg1:Gl X "list")(hm1:X.mg "list" = none)(hg2:Gl X "enumerate")(hm2:X.mg "enumerate" = none)(ha:PA X [a] ta)(hK:X.K=K:=by rfl)
  (hs1:starEach [.Call (.Name "enumerate" p2) [a] [] pos2] X.env=[(false,eval (.Call (.Name "enumerate" p2) [a] [] pos2) X.env)]:=by rfl) (hs2:starEach [a] X.env=[(false,eval a X.env)]:=by rfl) :
  PE X (.Call (.Name "list" p1) [.Call (.Name "enumerate" p2) [a] [] pos2] [] pos1) (tLsE K ta):=by
 subst hK
 intro pins s σ H Q I h
 refine Call_ (g0m I hg1 hm1 k0r (PyProof.Rows.callWith_type1 ?_ hs1 rfl))
 rw[hs1]
 show wpAny _ _ (spliced [(false,eval (.Call (.Name "enumerate" p2) [a] [] pos2) X.env)]) _ _ s
 refine Calls.spliced_cons ?_
 refine Call_ (g0m I hg2 hm2 i0c (PyProof.Rows.callWith_type1 (thn (ha pos2 pins s σ H _ I h) fun us s1 ⟨vs,H1,I1,r1,q1⟩=>?_) hs2 rfl))
 obtain⟨l,xs,rfl,h1,q⟩:=q1
 obtain⟨u,rfl,ru⟩:=i0q r1
 cases ru
 obtain⟨its,rv,p1,hz⟩:=I1.tuple h1
 have lt:l<s1.heap.objs.size:=by obtain⟨o,e,_⟩:=id p1;exact Heap.lt_size e
 refine o0y p1 fun h' he hi hsz hk=>Calls.spliced_nil ?_
 have pt1:h'.IsTuple l its.toArray:=by obtain⟨o,e,r⟩:=p1;exact⟨o,hk _ _ e,r⟩
 have nl:l≠s1.heap.objs.size:=Nat.ne_of_lt lt
 have nel:s1.heap.objs.size+1≠l:=Ne.symm (Nat.ne_of_lt (Nat.lt_succ_of_lt lt))
 have ltI:s1.heap.objs.size<h'.objs.size:=by rw[hsz];exact Nat.lt_add_of_pos_right (by decide)
 have e0:IsEnum h' (s1.heap.objs.size+1) s1.heap.objs.size ((0:Nat):Int) .none:=he
 refine j1f (s:={s1 with heap:=h'}) (m0x (show X.A.in1.in1.in1.handled=none from I1.ok.hd hc) s1.heap.objs.size l nl its.toArray) he ltI ⟨hi,pt1⟩ (Nat.succ_ne_self _) (fun z=>by
  simp only[List.mem_cons,List.not_mem_nil,or_false]at z
  rcases z with z | z
  ·exact Nat.succ_ne_self _ z
  ·exact nel z) (fun b hb=>?_) (by rw[List.size_toArray,<- rv.length];exact hz) fun h2 tk acc c as hk2 hS hl hG hacc=>?_
 ·show b<h'.objs.size
  simp only[List.mem_cons,List.not_mem_nil,or_false]at hb
  rcases hb with rfl | rfl
  ·exact ltI
  ·exact Nat.lt_trans lt ltI
 ·have hle:s1.heap.objs.size<=h'.objs.size:=by omega
  have hS':h2.get? h'.objs.size=some {cls:=.type "list",dict:=none,data:=.seq acc c,slots:=#[]}:=hS
  have le0:∀b,s1.heap.objs.size<=b->FpOk X pins H1 b:=fun b hb=>I1.fpOk hb (I1.hok.fresh hb)
  have I2:Inv X pins σ H1 {s1 with heap:=h'}:=I1.kept (t':=s1.toks) hk
  have I3:Inv X pins σ H1 {s1 with heap:=h2,toks:=tk}:=Inv.turns (s:={s1 with heap:=h'}) (ch:=[s1.heap.objs.size+1,s1.heap.objs.size]) (t':=tk) I2 (fun b o hb e=>by
   simp only[List.mem_cons,List.not_mem_nil,or_false,not_or]at hb
   exact hk2 b o hb.1 hb.2 e) (fun b hb=>le0 b (by
    simp only[List.mem_cons,List.not_mem_nil,or_false]at hb
    rcases hb with rfl | rfl
    ·exact Nat.le_succ _
    ·exact Nat.le_refl _))
  have abv:∀b∈as,h'.objs.size<b:=hG.above
  obtain⟨H0,J1,J2,J3,J4⟩:=o0c (lo:=s1.heap.objs.size) le0 as xs 0 H1 I3 hG.rise (fun b hb=>Nat.le_trans hle (Nat.le_of_lt (abv b hb))) (fun b hb=>I1.hok.fresh (Nat.le_trans hle (Nat.le_of_lt (abv b hb)))) (fun j b hj=>by
   obtain⟨t,x,e1,e2⟩:=hG.pairs j b hj
   have e1':its[j]? = some x:=by simpa using e1
   have hjl:j<xs.length:=by rw[rv.length];exact(List.getElem?_eq_some_iff.mp e1').1
   obtain⟨u,hu,ru⟩:=rv.get (List.getElem?_eq_getElem hjl)
   rw[e1']at hu
   cases hu
   exact⟨t,xs[j],x,List.getElem?_eq_getElem hjl,ru,by rw[Nat.zero_add];exact e2⟩)
  have nS:h'.objs.size∉as:=fun z=>Nat.lt_irrefl _ (abv _ z)
  have f0:=le0 h'.objs.size (by omega)
  have n0:H0 h'.objs.size=none:=by rw[J4 _ nS];exact f0.1
  have hal:as.length=xs.length:=by rw[hl,List.size_toArray,<- rv.length]
  have vr:∀l:List Addr,Vals (l.map V.ref) (l.map Value.ref):=fun l=>by
   induction l with
   | nil=>exact .nil
   | cons a l ih=>exact .cons rfl ih
  have I4:=J1.track (D:=h'.objs.size) (ys:=as.map V.ref) (its:=acc.toList) (n:=c) n0 (Nat.le_trans I1.sz (by omega)) f0.2.1 f0.2.2.2.2.1 f0.2.2.2.2.2 (by rw[List.length_map,hal];exact hz) (by rw[hacc];exact vr as) (by simpa using hS')
  refine⟨.ref h'.objs.size,_,I4,rfl,q _ H0 _ J2 (by rw[List.length_map,hal]) (fun j x hx=>?_) n0⟩
  have hj:j<as.length:=by rw[hal];exact(List.getElem?_eq_some_iff.mp hx).1
  obtain⟨x',e1,e2⟩:=J3 j as[j] (List.getElem?_eq_getElem hj)
  rw[hx]at e1
  cases e1
  rw[Nat.zero_add]at e2
  refine⟨as[j],by rw[List.getElem?_map,List.getElem?_eq_getElem hj];rfl,I1.hok.fresh (Nat.le_trans hle (Nat.le_of_lt (abv as[j] (List.getElem_mem hj)))),e2⟩
section
variable {K:PySem.W.Frag}{ts:TA}{as:AA}
def aLsE (as:AA):AE:=fun ρ q=>as ρ fun rs ρ1=>match rs with
 | [.d (.tup ds)]=>q (.n (.ow (g0q 0 ds))) ρ1
 | _=>False
theorem w0c {H1 H0:Hp}:∀ {vs:List V} {ds:List D} {ys:List V} {b:Nat},RepDs K H1 vs ds->ys.length=vs.length->(∀j x,vs[j]? = some x->∃q,ys[j]? = some (.ref q)/\H0 q=some (.tup [.int ((b+j:Nat):Int),x]))->(∀a o,H1 a=some o->H0 a=some o)->RepDs K H0 ys (g0q b ds)
 | [],[],ys,b,_,hl,_,_=>by
  cases ys with
  | nil=>exact .nil
  | cons _ _=>simp at hl
 | v::vs,d::ds,ys,b,r,hl,hy,sm=>by
  cases ys with
  | nil=>simp at hl
  | cons y ys =>
   unfold RepDs at r
   obtain⟨q,e1,e2⟩:=hy 0 v rfl
   simp only[List.getElem?_cons_zero,Option.some.injEq]at e1
   subst e1
   refine .cons ?_ (w0c (b:=b+1) r.2 (by simpa using hl) (fun j x hx=>?_) sm)
   ·unfold RepD
    exact⟨q,[.int (b:Nat),v],rfl,e2,.cons (by unfold RepD;rfl) (.cons (r.1.same sm) .nil)⟩
   ·obtain⟨q',e3,e4⟩:=hy (j+1) x (by simpa using hx)
    exact⟨q',by simpa using e3,by rw[show b+1+j=b+(j+1)by omega];exact e4⟩
 | [],_::_,_,_,r,_,_,_=>by unfold RepDs at r;exact r.elim
 | _::_,[],_,_,r,_,_,_=>by unfold RepDs at r;exact r.elim
theorem h1v (h:TAok K ts as):TEok K (tLsE K ts) (aLsE as):=by
 intro F σ ρ H q Q r ha k
 refine h F σ ρ H _ _ r ha fun rs ρ1 vs H1 h1 r1 i1 k1=>?_
 split at h1
 ·rename_i ds
  obtain⟨x,rfl,ix⟩:=i1.one
  have rd:RepD K _ x (.tup ds):=ix
  unfold RepD at rd
  obtain⟨a,vs,rfl,sq,rd⟩:=rd
  refine⟨a,vs,rfl,c0e.seqT sq.sq,fun ys H0 p sm hl hy hp=>?_⟩
  have k0:Kp σ ρ1 ρ1 H1 H0:=⟨fun a o e _=>sm a o e,fun _ h=>h⟩
  have hv:∀ {b},H1 b=none->¬hs F σ ρ1 b:=fun{b} e z=>w0u r1 z e
  refine k (.n (.ow (g0q 0 ds))) ρ1 _ _ h1 ⟨H0,p,_,r1.grow sm,k1.trans k0,rfl,⟨p,ys,rfl,b0l,?_⟩,hp,rfl,rfl⟩
  refine w0c rd hl (fun j x hx=>?_) k0.vis
  obtain⟨q',e1,e2,e3⟩:=hy j x hx
  exact⟨q',e1,j0y (hv e2) (by rw[Nat.zero_add];exact e3)⟩
 ·exact h1.elim
end
section
variable {P:Program}{w:World}{A:Around}{R:Result->Shared->Prop}{s:Shared}
theorem s0p {kx vx tg iter:Expr}{ifs:List Expr}{scope:Scope}{pos:Pos}{it:Value}{D:Addr}{env:Env}(J:Nat->Shared->Prop)
  (turn:∀n s,J n s->wpAny (model P w) A (pyNext it) (fun r s1=>match r with
   | none=>R (.ok .next) s1
   | some v=>wpAny (model P w) A (letOwnedTupleGo tg it v) (fun _ s2=>wpAny (model P w) A (assign tg env v) (fun _ s3 =>
     wpAny (model P w) A (forIn ifs true fun c r=>if r=true then do let ok <- isTrue c env (eval c env);pure (ForInStep.yield ok)else pure (ForInStep.yield r)) (fun ok s4 =>
      if ok=true then wpAny (model P w) A (eval kx env) (fun kv s5=>wpAny (model P w) A (eval vx env) (fun vv s6=>wpAny (model P w) A (dictSet D kv vv) (fun _ s7=>∃m,m<n/\J m s7) (fun _ _=>False) s6) (fun _ _=>False) s5) (fun _ _=>False) s4
      else ∃m,m<n/\J m s4) (fun _ _=>False) s3) (fun _ _=>False) s2) (fun _ _=>False) s1) (fun _ _=>False) s)
  (n:Nat) (h:J n s):codeAny (model P w) A (.compLoop (.DictComp kx vx [⟨tg,iter,ifs,0⟩] scope pos) 0 it (.ref D) env) R s:=by
 have no:∀ {α:Type} {t:Sem α} {Q Q':α->Shared->Prop} {E:Value->Shared->Prop} {s:Shared},wpAny (model P w) A t Q (fun _ _=>False) s->(∀a s,Q a s->Q' a s)->wpAny (model P w) A t Q' E s :=
  fun h hq=>wpAny_mono h hq fun _ _ f=>f.elim
 refine codeAny_loop rfl J (fun n s hJ=>?_) n h
 show wpAny _ A ((compTurn (.DictComp kx vx [⟨tg,iter,ifs,0⟩] scope pos) 0 it (.ref D) env).onRaise (fun x=>do noteFrame x env;theTreesLotGoes x)) _ _ s
 refine wpAny_noted ?_
 rw[compTurn_dict]
 refine wpAny_bind (wpAny_standAt (wpAny_bind (no (turn n s hJ) fun r s1 h1=>?_)))
 cases r with
 | none=>exact wpAny_pure h1
 | some v =>
  refine wpAny_bind (no h1 fun _ s2 h2=>wpAny_bind (no h2 fun _ s3 h3=>wpAny_bind (no h3 fun ok s4 h4=>?_)))
  cases ok with
  | false=>exact wpAny_pure ⟨rfl,h4⟩
  | true=>exact wpAny_bind (wpAny_bind (no h4 fun x s5 h5=>wpAny_bind (wpAny_holding (no h5 fun y s6 h6=>wpAny_bind (wpAny_standAt (wpAny_holding (no h6 fun _ s7 h7=>wpAny_pure ⟨rfl,h7⟩)))))))
end
def h1j (J:It)(n:Nat)(js:List Nat)(g:TG)(tc:TT)(tk tv:TE)(Q:VK)(σ:St)(H1:Hp):Prop:=∃W:Nat->Nat->List (Key×V)->Hp->Prop,(∃m,W 0 m [] H1)/\∀i m ys H,W i m ys H ->
 (J.stop i H/\ys.length<=sizeLine/\∀l,H l=none->Q (.ref l) (upd H l (.dK ys))) ∨
 (J.go i H/\ys.length<sizeLine/\∃N:List (Key×V)->Hp->Prop,(∀zs H',N zs H'->∃m',m'<m/\W (i+1) m' zs H')/\∀x H',J.yld i H x H'->g x (bst n σ js) H' fun σ2 H2=>σ2.drop n=capt σ js/\tc σ2 H2 fun b H3 =>
  if b=true then tk σ2 H3 fun kv H4=>tv σ2 H4 fun v H5=>∃k,kv=kV k/\N (putK ys k v) H5 else N ys H3)
def v0v (n:Nat)(js:List Nat)(wi:TI)(g:TG)(tc:TT)(tk tv:TE):TE:=fun σ H Q=>wi σ H fun J H1=>h1j J n js g tc tk tv Q σ H1
section
variable {X:Cx}
theorem u0x {kx vx tg iter:Expr}{ifs:List Expr}{scope:Scope}{pos:Pos}{own:List Str}{js:List Nat}{g:TG}{tc:TT}{tk tv:TE}{Q:VK}{pins:List (Addr×Obj)}{σ:St}{s2:Shared}{itv:Value}{E:Value->Shared->Prop}
  {RR:Value->Addr->Result->Shared->Prop} (hc:X.calm=true) (B:Blk X scope own js) (hg:∀s H C fp,(own++capN X.N js).Nodup->PG (blk X scope (own++capN X.N js) s H C fp) tg g) (ht:∀s H C fp,PTs (blk X scope (own++capN X.N js) s H C fp) ifs tc)
  (hk:∀s H C fp,PE (blk X scope (own++capN X.N js) s H C fp) kx tk) (hv:∀s H C fp,PE (blk X scope (own++capN X.N js) s H C fp) vx tv)
  (h:PIE X pins σ tg (fun J H1=>h1j J own.length js g tc tk tv Q σ H1) itv s2)
  (hR:∀C acc s',d1s X pins σ Q C acc s'->RR acc C (.ok .next) s') :
  wpAny (model X.prog X.w) X.A newDict (fun acc s3=>wpAny (model X.prog X.w) X.A (newFunctionEnv scope X.env.globals (e0v scope X.env) [] X.env.qual none .none (some X.env)) (fun cenv s4 =>
   codeAny (model X.prog X.w) X.A (.compStart (.DictComp kx vx [⟨tg,iter,ifs,0⟩] scope pos) 0 itv acc {cenv with scope:=relabel scope X.env}) (RR acc cenv.locals) s4) E s3) E s2:=by
 obtain⟨it,fp,tn,J,H2,rfl,I2,T,st2,f2,W,⟨m0,w0⟩,turn⟩:=h
 refine wpAny_newObj_type (wpAny_newFunctionEnv B.nocell (by intro y hy;simp at hy) (fun h1 hns1 hsb1=>?_) B.kind)
 have hnew:(s2.heap.push {cls:=.type "dict",dict:=none,data:=.dict #[]}).DictOf (c0j X.prog X.w) s2.heap.objs.size []:=Heap.DictOf.new s2.heap
 generalize hPu:s2.heap.push {cls:=.type "dict",dict:=none,data:=.dict #[]}=Pu at hns1 hsb1 hnew ⊢
 dsimp only at hns1 hsb1 ⊢
 have hDC:Pu.objs.size=s2.heap.objs.size+1:=by rw[<- hPu,Heap.size_push]
 have hbig:=I2.big
 generalize hD:s2.heap.objs.size=D at hDC hnew hbig ⊢
 generalize hC:Pu.objs.size=C at hns1 hsb1 hDC ⊢
 have ltDC:D<C:=by rw[hDC];exact Nat.lt_succ_self D
 have neDC:D≠C:=Nat.ne_of_lt ltDC
 have keep1:∀b o,s2.heap.get? b=some o->h1.get? b=some o:=fun b o e=>by
  have hb:b<D:=by rw[<- hD];exact Heap.lt_size e
  have hb2:b≠C:=Nat.ne_of_lt (Nat.lt_trans hb ltDC)
  refine(hsb1.2 b hb2).trans (Heap.get?_push_of_some _ ?_)
  rw[<- hPu]
  exact Heap.get?_push_of_some _ e
 have gD1:h1.DictOf (c0j X.prog X.w) D []:=hnew.at fun o e=>(hsb1.2 D neDC).trans (Heap.get?_push_of_some _ e)
 have szD:s2.heap.objs.size<=D:=Nat.le_of_eq hD
 have szC:s2.heap.objs.size<=C:=Nat.le_trans szD (Nat.le_of_lt ltDC)
 have old:∀ {b:Addr},b<s2.heap.objs.size->b≠D/\b≠C:=fun hb=>⟨Nat.ne_of_lt (Nat.lt_of_lt_of_le hb szD),Nat.ne_of_lt (Nat.lt_of_lt_of_le hb szC)⟩
 have fpo:∀b∈fp,∃o,s2.heap.get? b=some o:=fun b hb=>let ⟨o,e,_⟩:=T.obj 0 _ st2 b hb;⟨o,e⟩
 have fpD:∀b∈fp,b≠D/\b≠C:=fun b hb=>by
  obtain⟨o,e⟩:=fpo b hb
  exact old (Heap.lt_size e)
 have clD:∀x d,X.env.cells.lookup x=some d->d≠D/\d≠C:=fun x d e=>by
  obtain⟨v,o,ho,_⟩:=I2.cell x d e
  exact old (Heap.lt_size ho)
 have pinD:∀p∈X.pn++pins,p.1≠D/\p.1≠C:=fun p hp=>by
  exact old (Heap.lt_size (I2.pin p hp).1)
 have locD:D≠X.env.locals/\C≠X.env.locals:=by
  exact⟨(old I2.lt).1.symm,(old I2.lt).2.symm⟩
 let Y:=blk X scope (own++capN X.N js) s2 H2 C fp
 have IB:Inv Y [] (bst own.length σ js) H2 {s2 with heap:=h1,toks:=s2.toks+([]:List (Str×Value)).length}:=v0f B I2 f2 fpo szC hns1 keep1
 have fpB:∀ {H':Hp} {pl:List (Addr×Obj)},(∀b∈fp,H' b=none)->(∀p∈pl,p.1=D)->∀b∈fp,FpOk Y pl H' b:=fun{H' pl} hn hp b hb=>by
  obtain⟨f0,f1,f3,f4,f5,f6⟩:=f2 b hb
  refine⟨hn b hb,(fpD b hb).2,fun z=>?_,.inl hb,fun x c e=>f5 x c (d0w e),fun p q=>?_⟩
  ·rcases List.mem_cons.mp (I2.stkSub b z)with z | z
   ·exact f1 z
   ·exact f3 z
  ·have q':p∈pl:=by simpa [Y,blk] using q
   rw[hp p q']
   exact(fpD b hb).1.symm
 have clB:∀x d,Y.env.cells.lookup x=some d->d≠D:=fun x d e=>(clD x d (d0w e)).1
 have notFs:D∉Y.fs:=fun z=>by
  obtain⟨_,o,ho,_⟩:=IB.ok.funs.mem z
  exact(old (Heap.lt_size (show s2.heap.get? D=some o from ho))).1 rfl
 have loop:∀s3:Shared,s3={s2 with heap:=h1,toks:=s2.toks+([]:List (Str×Value)).length} ->
   codeAny (model X.prog X.w) X.A (.compLoop (.DictComp kx vx [⟨tg,iter,ifs,0⟩] scope pos) 0 (.ref it) (.ref D) (compEnvC scope (e0v scope X.env) C X.env)) (RR (.ref D) C) s3:=by
  rintro s3 rfl
  refine s0p (fun n s'=>∃(i:Nat) (ys:List (Key×V)) (vs:List (Key×Value)) (H':Hp),Inv Y [] (bst own.length σ js) H' s'/\tn i s'.heap/\(∀b∈fp,H' b=none)/\H' D=none/\KV ys vs /\
   s'.heap.DictOf (c0j X.prog X.w) D vs/\W i n ys H') ?_ m0 ⟨0,[],[],H2,IB,T.keep 0 _ _ st2 (fun b hb o e=>keep1 b o e),fun b hb=>(f2 b hb).1,I2.hok.fresh szD,.nil,gD1,w0⟩
  rintro n s3 ⟨i,ys,vs,H3,I3,st3,fr3,hD3,r3,g3,w3⟩
  obtain⟨od,ho3,hdd⟩:=Heap.dictOf_iff.mp g3
  have dat3:∀ {h:Heap},h.get? D=some od->h.DictOf (c0j X.prog X.w) D vs:=fun e=>Heap.dictOf_iff.mpr ⟨od,e,hdd⟩
  have ncell:∀v,od.data ≠ .cell v:=fun v z=>by
   obtain⟨o,es,ep,ho,hcl,hda,_⟩:=g3
   rw[ho3]at ho;cases ho;rw[hda]at z;cases z
  have I3p:Inv Y [(D,od)] (bst own.length σ js) H3 s3:=I3.pins_of fun p hp=>by
   have e:p=(D,od):=by simpa using hp
   subst e
   exact⟨ho3,hD3,neDC,notFs,ncell⟩
  have f3:∀b∈fp,FpOk Y [(D,od)] H3 b:=fpB fr3 fun p hp=>by
   have e:p=(D,od):=by simpa using hp
   rw[e]
  rcases turn i n ys H3 w3 with⟨stop,hz,qn⟩ | ⟨go,hz,N,hN,step⟩
  ·refine thn (T.done Y rfl rfl rfl hc i _ s3 _ H3 (fun _ _=>False) I3p f3 st3 stop) fun r s4 ⟨hr,I4⟩=>?_
   subst hr
   refine hR C _ s4 ?_
   have g4:=(I4.pin (D,od) (by simp[Y,blk])).1
   obtain⟨m,hn4,_⟩:=id I4.loc
   have un:Un (frs X.stack) fp H2 H3 s2.heap s4.heap:=I4.base
   have I5:Inv X pins σ H3 s4:=I2.call' I4.os un I4.hok I4.bare fun b hb=>let ⟨_,b1,_,b3,b4,b5⟩:=f2 b hb;⟨b3,b1,b4,b5⟩
   have I6:=I5.trackO (p:=D) (o:=.dK ys) (I2.fpOk szD hD3) (x0a hz (beq_eq_false_iff_ne.mpr (Ne.symm (Nat.ne_of_lt hbig))) r3 (dat3 g4))
   refine⟨D,_,m,rfl,hn4,I6,?_,Nat.le_trans I2.sz szC,locD.2,fun x d e=>(clD x d e).2,fun p hp=>(pinD p hp).2,qn D hD3⟩
   rw[a0x (Ne.symm neDC)]
   exact I4.free
  ·refine thn (T.item Y rfl rfl rfl hc i _ s3 _ H3 (fun _ _=>False) I3p f3 st3 go) fun r s4 ⟨u,hr,h4⟩=>?_
   subst hr
   refine thn h4 fun _ s5 ⟨x,H5,I5,r5,y5,st5,fr5⟩=>?_
   have f5:∀b∈fp,FpOk Y [(D,od)] H5 b:=fun b hb=>⟨fr5 b hb,(f3 b hb).2⟩
   have I5':=I5.pinned f5 (T.obj _ _ st5)
   refine thn (hg s2 H2 C fp B.nd _ s5 _ H5 x u _ I5' r5 (step x H5 y5)) fun _ s6 ⟨σ6,H6,I6,d6,q6⟩=>?_
   refine thn (ht s2 H2 C fp _ s6 σ6 H6 _ I6 q6) fun ok s7 ⟨H7,I7,q7⟩=>?_
   have after:∀ {s8:Shared} {H8:Hp},Inv Y ([(D,od)]++h0q fp s5.heap) σ6 H8 s8 ->
     s8.heap.get? D=some od/\H8 D=none/\tn (i+1) s8.heap/\(∀b∈fp,H8 b=none)/\Inv Y [] (bst own.length σ js) H8 s8:=fun{s8 H8} I8=>by
    have p8:=I8.pin (D,od) (by simp[Y,blk])
    refine⟨p8.1,p8.2.1,T.keep _ _ _ st5 fun b hb o e=>(I8.pin (b,o) (List.mem_append_right _ (List.mem_append_right _ (c0s hb e)))).1,fun b hb=>?_,?_⟩
    ·obtain⟨o,e,_⟩:=T.obj _ _ st5 b hb
     exact(I8.pin (b,o) (List.mem_append_right _ (List.mem_append_right _ (c0s hb e)))).2.1
    ·refine(I8.pins_of (pins':=[]) fun p hp=>absurd hp (by simp[Y,blk])).weak ?_ fun j v e=>?_
     ·rw[I8.len,j0d]
      show _=(own++capN X.N js).length
      unfold capN
      simp
     ·rcases Nat.lt_or_ge j own.length with z | z
      ·exfalso
       unfold bst at e
       rw[List.getElem?_append_left (by simpa using z),List.getElem?_replicate]at e
       split at e <;> cases e
      ·unfold bst at e
       rw[List.getElem?_append_right (by simpa using z),List.length_replicate,<- d6,List.getElem?_drop]at e
       rw[<- e]
       congr 1
       omega
   cases ok with
   | false =>
    rw[if_neg Bool.false_ne_true]at q7 ⊢
    obtain⟨m',hm,w7⟩:=hN _ _ q7
    obtain⟨a1,a2,a3,a4,a5⟩:=after I7
    exact⟨m',hm,i+1,ys,vs,H7,a5,a3,a4,a2,r3,dat3 a1,w7⟩
   | true =>
    rw[if_pos rfl]at q7 ⊢
    refine thn (hk s2 H2 C fp _ s7 σ6 H7 _ I7 q7) fun u8 s8 ⟨v8,H8,I8,r8,n8⟩=>?_
    refine thn (hv s2 H2 C fp _ s8 σ6 H8 _ I8 n8) fun u9 s9 ⟨v9,H9,I9,r9,kk,ek,n9⟩=>?_
    subst ek
    obtain⟨m',hm,w9⟩:=hN _ _ n9
    obtain⟨a1,a2,a3,a4,a5⟩:=after I9
    have hvz:vs.length<=sizeLine:=by rw[<- r3.length];exact Nat.le_of_lt hz
    refine wpAny_dictSet_pairs (hsz:=hvz) (u0m r8) (dat3 a1) fun h' dd' hs'=>?_
    have sb:Heap.SameBut D s9.heap h':=hs'
    have I10:=(Inv.young a5 sb a2 szD neDC clB (fun p hp=>absurd hp (by show p∉[]++[];simp))).tok (s9.toks+1)
    exact⟨m',hm,i+1,putK ys kk v9,stored vs kk u9,H9,I10,T.keep _ _ _ a3 (fun b hb o e=>(sb.2 b (fpD b hb).1).trans e),a4,a2,r3.put kk r9,dd',w9⟩
 exact codeAny_compStart_dict (loop _ rfl) (T.self _ 0 _ _ _ (T.keep 0 _ _ st2 fun b hb o e=>keep1 b o e) (loop _ rfl))
theorem e1m {kx vx tg iter:Expr}{ifs:List Expr}{scope:Scope}{pos pos' spos:Pos}{i:Nat}{x:Str}(own:List Str)(js:List Nat){wi:TI}{g:TG}{tc:TT}{tk tv:TE}(hN:X.N.Nodup)(hi:X.N[i]? = some x)(hx:Loc X.env.scope x)
  (hc:X.calm=true) (B:Blk X scope own js) (hit:PI X tg iter wi)
  (hg:∀s H C fp,(own++capN X.N js).Nodup->PG (blk X scope (own++capN X.N js) s H C fp) tg g) (ht:∀s H C fp,PTs (blk X scope (own++capN X.N js) s H C fp) ifs tc) (hk:∀s H C fp,PE (blk X scope (own++capN X.N js) s H C fp) kx tk) (hv:∀s H C fp,PE (blk X scope (own++capN X.N js) s H C fp) vx tv)
  (hf:X.fn x=true∨X.env.scope.names.lookup x=some .local:=by first | exact .inl rfl | exact .inr rfl | assumption)
  (hw:swapsWith (.DictComp kx vx [⟨tg,iter,ifs,0⟩] scope pos) (some (.Name x pos')) spos.line X.env=pure true:=by rfl)
  (hs:∀x,foldedSetIterable iter X.env x=pure x:=by intro _;rfl) :
  PS X (.Assign [.Name x pos'] (.DictComp kx vx [⟨tg,iter,ifs,0⟩] scope pos) spos) (fun D σ H=>v0v own.length js wi g tc tk tv σ H fun v H'=>D.nx (σ.set i (some v)) H'):=by
 intro pins s σ H D I h
 have hcl:closureFor scope X.env=pure (e0v scope X.env):=f0j fun x hx hf=>I.ok.has x.1 (B.free x hx hf)
 rw[exec_Assign_Name_used _ _ _ _ hw]
 refine wpAny_bind (wpAny_standAt (wpAny_bind ?_))
 show wpAny _ X.A (do let _ <- comprehension (.DictComp kx vx [⟨tg,iter,ifs,0⟩] scope pos) scope X.env _ newDict false (eval iter X.env) (some (assign (.Name x pos') X.env))) _ _ s
 refine wpAny_bind (thn (Q:=fun _ s'=>SP X pins D .next s') (wpAny_comprehension_free (use:=some (assign (.Name x pos') X.env)) rfl hs hcl B.kind B.names (thn (hit pins s σ H _ I h) fun v s1 h1=>thn h1 fun itv s2 h2=>?_)) fun _ s' q=>wpAny_pure (wpAny_pure q))
 refine u0x (Q:=fun v H'=>D.nx (σ.set i (some v)) H') (RR:=fun acc C=>compPost (model X.prog X.w) X.A X.xe (some (assign (.Name x pos') X.env)) (fun _ s'=>SP X pins D .next s') acc C) hc B hg ht hk hv h2 fun C acc s' hb=>?_
 obtain⟨l,H',m,rfl,hn,I',c1,c2,c3,c4,c5,q⟩:=hb
 show wpAny _ X.A (assign (.Name x pos') X.env (.ref l)) _ _ _
 refine wpAny_assign_Name (m0b (v:=.ref l) I' hN hi hx rfl (fun s3 I3 ⟨a,sb,ha⟩=>?_) hf)
 have ne:C≠a:=by
  rcases ha with z | z
  ·rw[z];exact c3
  ·exact(c4 x a z).symm
 exact⟨m,hn.sameBut sb ne,fun h' hs'=>⟨_,H',I3.young hs' c1 c2 c3 c4 c5,q⟩⟩
end
def h0m (n:Nat)(js:List Nat)(c:En->Prop)(g:AG)(tc:AT)(ak av:AE)(q:List (Key×D)->En->Prop):List D->List (Key×D)->En->Prop
 | [],acc,ρ=>c ρ/\q acc ρ
 | d::ds,acc,ρ=>c ρ/\g d (blkE n js ρ) fun ρ1=>tc ρ1 fun b ρ2=>if b=true then ak ρ2 fun rk ρ3=>av ρ3 fun r ρ4=>sto [r.frz] ρ4 fun es ρ5=>(match rk,es with
   | .d kd,[e]=>(match dKey kd with
    | some k=>h0m n js c g tc ak av q ds (putD acc k e) (back ρ (js.map R.o) (ρ5.drop n))
    | none=>False)
   | _,_=>False)else h0m n js c g tc ak av q ds acc (back ρ (js.map R.o) (ρ2.drop n))
def n1l (n:Nat)(js:List Nat)(i:AI)(g:AG)(tc:AT)(ak av:AE):AE:=fun ρ q=>i ρ fun ds c ρ1=>ds.length<=1000000/\h0m n js c g tc ak av (fun acc ρ2=>q (.n (.dk acc)) ρ2) ds [] ρ1
theorem i0j {κ:Type} [DecidableEq κ](kvs:List (κ×D))(k:κ)(d:D):(putD kvs k d).length<=kvs.length+1:=by
 unfold putD
 split
 ·simp
 ·simp
section
variable {K:PySem.W.Frag}
theorem z0h {n:Nat}{js:List Nat}{wi:TI}{g:TG}{tc:TT}{tk tv:TE}{ai:AI}{ag:AG}{atc:AT}{ak av:AE}(hi:TIok K (fun _=>true) wi ai)(hg:TGok K (fun j=>decide (n<=j)) g ag)(hc:TTok K tc atc)(hk:TEok K tk ak)(hv:TEok K tv av)
  (hd:dis (js.map R.o)=true:=by rfl):TEok K (v0v n js wi g tc tk tv) (n1l n js ai ag atc ak av):=by
 intro F σ ρ H q Q r h k
 refine hi F σ ρ H _ _ r h fun ds c ρ1 J H1 h1 r1 k1 wk=>?_
 obtain⟨hz,h1⟩:=h1
 have hd':dis (blkR n js)=true:=by rw[l0v];exact hd
 refine⟨fun i m ys H'=>∃ ρ' acc,m=ds.length - i/\i<=ds.length/\Rel K F σ ρ' H'/\Kp σ ρ1 ρ' H1 H'/\ys.map Prod.fst=acc.map Prod.fst/\RepDs K (hid H' (hs F σ ρ')) (ys.map Prod.snd) (acc.map Prod.snd)/\acc.length<=i/\h0m n js c ag atc ak av (fun acc ρ2=>q (.n (.dk acc)) ρ2) (ds.drop i) acc ρ',⟨ds.length,ρ1,[],rfl,Nat.zero_le _,r1,.refl,rfl,.nil,Nat.zero_le _,h1⟩,?_⟩
 rintro i m ys H' ⟨ρ',acc,rfl,hl,r',k',rk,rd,al,h'⟩
 have w:c ρ'->WkAt K (hs F σ ρ') H' J ds:=fun hc=>wk σ ρ' H' k'.vis r'.sl (fun _ _ _ e=>e) (fun a z=>b1v r' z) hc
 have yl:ys.length=acc.length:=p0q rk
 rcases Nat.lt_or_ge i ds.length with lt | ge
 ·right
  rw[List.drop_eq_getElem_cons lt]at h'
  unfold h0m at h'
  obtain⟨hcc,h'⟩:=h'
  obtain⟨go,yld⟩:=(w hcc i).1 ds[i] (List.getElem?_eq_getElem lt)
  refine⟨go,o0f (by omega),fun zs H2=>∃ ρ2 acc2,Rel K F σ ρ2 H2/\Kp σ ρ1 ρ2 H1 H2/\zs.map Prod.fst=acc2.map Prod.fst/\RepDs K (hid H2 (hs F σ ρ2)) (zs.map Prod.snd) (acc2.map Prod.snd)/\acc2.length<=i+1/\h0m n js c ag atc ak av (fun acc ρ2=>q (.n (.dk acc)) ρ2) (ds.drop (i+1)) acc2 ρ2,
   fun zs H2 ⟨ρ2,acc2,a1,a2,a3,a3',a4,a5⟩=>⟨ds.length - (i+1),by omega,ρ2,acc2,rfl,lt,a1,a2,a3,a3',a4,a5⟩,fun x H2 hy=>?_⟩
  obtain⟨sm,rx⟩:=yld x H2 hy
  have r0':=r'
  have k':Kp σ ρ1 ρ' H1 H2:=k'.trans ⟨fun a o e _=>sm a o e,fun _ h=>h⟩
  have rd:RepDs K (hid H2 (hs F σ ρ')) (ys.map Prod.snd) (acc.map Prod.snd):=rd.same (b0o fun a o e n=>⟨sm a o e,n⟩)
  have r':=r0'.grow sm
  have src:=q0l (K:=K) (F:=F) (σ:=σ) (ρ:=ρ') (H:=H2) n js
  have rb:=r'.sub src hd'
  have hs2:=v0w r' src
  rw[c0g]at rb hs2
  have pin:∀i a,(g0c F σ ρ' H2 (bst n σ js) (blkE n js ρ')).pin i a->decide (n<=i)=true:=fun i a h=>by
   rcases h with h | h
   ·exact decide_eq_true (q0m h.1)
   ·exact h.elim
  have hlen:(bst n σ js).length=n+js.length:=j0d
  have ret:∀ σ2 ρ2 H3,Rel K (g0c F σ ρ' H2 (bst n σ js) (blkE n js ρ')) σ2 ρ2 H3->σ2.length=(bst n σ js).length->σ2.drop n=capt σ js->(∀i,(gt ρ2 i).own=true->(gt (blkE n js ρ') i).own=true) ->
    Rel K F σ (back ρ' (js.map R.o) (ρ2.drop n)) H3/\Kp σ ρ' (back ρ' (js.map R.o) (ρ2.drop n)) H2 H3/\Same (hid H3 (hs (g0c F σ ρ' H2 (bst n σ js) (blkE n js ρ')) σ2 ρ2)) (hid H3 (hs F σ (back ρ' (js.map R.o) (ρ2.drop n)))):=fun σ2 ρ2 H3 rr hlen2 hdrop hown=>by
   obtain⟨f1,f2⟩:=rr.forget (n:=n) (by omega) fun i a h=>of_decide_eq_true (pin i a h)
   rw[hdrop]at f1 f2
   have f1':Rel K (g0c F σ ρ' H2 (bst n σ js) ((blkR n js).map (e0x ρ'))) (bst n σ js) (List.replicate n .un++ρ2.drop n) H3:=by rw[c0g];exact f1
   have bk:=r'.back src hd' f1' fun i hi=>by
    rw[c0g]
    rw[o0n]at hi
    split at hi
    ·cases hi
    ·rename_i hni
     rw[k0n,show n+(i - n)=i by omega]at hi
     exact hown i hi
   have ln:(List.replicate n Sv.un++ρ2.drop n).length=n+js.length:=by
    have:=rr.len
    simp;omega
   rw[n0g js ρ' n _ ln,List.drop_left' (by simp),c0g]at bk
   exact⟨bk.1,bk.2.1,f2.trans bk.2.2⟩
  refine hg _ (bst n σ js) (blkE n js ρ') H2 x _ _ _ pin rb (by rw[hs2];exact rx) h' fun σ2 ρ2 h2 r2 l2 p2 o2=>?_
  have hdrop:σ2.drop n=capt σ js:=by
   have:σ2.drop n=(bst n σ js).drop n:=by
    apply List.ext_getElem?
    intro i
    rw[List.getElem?_drop,List.getElem?_drop]
    exact p2 (n+i) (decide_eq_true (by omega))
   rw[this]
   unfold bst
   rw[List.drop_left' (by simp)]
  refine⟨hdrop,hc _ σ2 ρ2 H2 _ _ r2 h2 fun b ρ3 H3 h3 r3 k3=>?_⟩
  cases b with
  | false =>
   obtain⟨b1,b2,_⟩:=ret σ2 ρ3 H3 r3 l2 hdrop fun i hi=>(o2 i (k3.sb i hi)).1
   exact⟨_,acc,b1,k'.trans b2,rk,rd.same b2.vis,by omega,h3⟩
  | true =>
   refine hk _ σ2 ρ3 H3 _ _ r3 h3 fun r4 ρ4 v4 H4 h4 o4=>?_
   obtain⟨r4',k4,i4⟩:=o4.inF
   refine hv _ σ2 ρ4 H4 _ _ r4' h4 fun r6 ρ6 v6 H6 h6 o6=>?_
   obtain⟨r6',k6,i6⟩:=o6.inF
   obtain⟨d,ρ5,h5,r5,k5,rv⟩:=t0k r6' i6 h6
   split at h5
   ·rename_i kd e0 ee
    cases ee
    split at h5
    ·rename_i kk ek
     obtain⟨b1,b2,b3⟩:=ret σ2 ρ5 H6 r5 l2 hdrop fun i hi=>(o2 i (k3.sb i (k4.sb i (k6.sb i (k5.sb i hi))))).1
     obtain⟨p1,p2⟩:=t0r kk (rv.same b3) rk (rd.same b2.vis)
     exact⟨kk,f1c i4 ek,_,putD acc kk d,b1,k'.trans b2,p1,p2,by have:=i0j acc kk d;omega,h5⟩
    ·exact h5.elim
   ·exact h5.elim
 ·left
  rw[List.drop_eq_nil_of_le ge]at h'
  unfold h0m at h'
  obtain⟨hcc,h'⟩:=h'
  refine⟨(w hcc i).2 ge,small (by omega),fun l hl'=>?_⟩
  exact k (.n (.dk acc)) ρ' _ _ h' ⟨H',l,_,r',k1.trans k',rfl,⟨l,ys,rfl,b0l,rk,rd⟩,hl',rfl,rfl⟩
theorem z0x {pr:Nat->Bool}{ae:AE}{i n:Nat}{js:List Nat}{wi:TI}{g:TG}{tc:TT}{tk tv:TE}(h:TEok K (v0v n js wi g tc tk tv) ae)(hi:pr i=false):TSok K pr (fun D σ H=>v0v n js wi g tc tk tv σ H fun v H'=>D.nx (σ.set i (some v)) H') (aSet i ae):=a1a hi h
end
theorem y0p {n:Nat}{js:List Nat}{c:En->Prop}{g:AG}{tc:AT}{ak av:AE}{q:List (Key×D)->En->Prop}(I:Nat->List (Key×D)->En->Prop){ds:List D}(hc:∀k acc ρ,k<=ds.length->I k acc ρ->c ρ)
  (hs:∀(k:Nat) d acc ρ (N:List (Key×D)->En->Prop),ds[k]? = some d->I k acc ρ->(∀acc' ρ',I (k+1) acc' ρ'->N acc' ρ') ->
   g d (blkE n js ρ) fun ρ1=>tc ρ1 fun b ρ2=>if b=true then ak ρ2 fun rk ρ3=>av ρ3 fun r ρ4=>sto [r.frz] ρ4 fun es ρ5=>(match rk,es with
   | .d kd,[e]=>(match dKey kd with
    | some k=>N (putD acc k e) (back ρ (js.map R.o) (ρ5.drop n))
    | none=>False)
   | _,_=>False)else N acc (back ρ (js.map R.o) (ρ2.drop n)))
  (hd:∀acc ρ,I ds.length acc ρ->q acc ρ):∀ ρ,I 0 [] ρ->h0m n js c g tc ak av q ds [] ρ:=by
 have go:∀(es:List D) (k:Nat),ds.drop k=es->k<=ds.length->∀acc ρ,I k acc ρ->h0m n js c g tc ak av q es acc ρ:=by
  intro es
  induction es with
  | nil =>
   intro k h hk acc ρ i
   have:ds.length<=k:=List.drop_eq_nil_iff.mp h
   have:k=ds.length:=by omega
   subst this
   unfold h0m
   exact⟨hc _ acc ρ (Nat.le_refl _) i,hd acc ρ i⟩
  | cons d es ih =>
   intro k h hk acc ρ i
   have lt:k<ds.length:=by
    rcases Nat.lt_or_ge k ds.length with q | q
    ·exact q
    ·rw[List.drop_eq_nil_of_le q]at h;cases h
   rw[List.drop_eq_getElem_cons lt]at h
   injection h with h1 h2
   unfold h0m
   exact⟨hc k acc ρ hk i,hs k d acc ρ (fun acc' ρ'=>h0m n js c g tc ak av q es acc' ρ') (by rw[<- h1];exact List.getElem?_eq_getElem lt) i (fun acc' ρ' i'=>ih (k+1) h2 lt acc' ρ' i')⟩
 exact go ds 0 rfl (Nat.zero_le _) []
def cntS (ns:List Int):Nat:=(PyProof.Rows.firstMet (fun i=>ns.getD i 0) ns.length).length
def z0s (K:PySem.W.Frag)(ta:TA):TE:=fun σ H Q=>ta σ H fun vs H1=>∃(p:Addr) (ns:List Int),vs=[.ref p]/\SqL K H1 p (ns.map V.int)/\ns.length<=1000/\Q (.int (cntS ns:Nat)) H1
theorem a1s (K:PySem.W.Frag){X:Cx}{a:Expr}{ta:TA}{p p2 pos pos2:Pos}(hc:X.calm=true)(hg1:Gl X "len")(hm1:X.mg "len" = none)(hg:Gl X "set")(hm:X.mg "set" = none)(ha:PA X [a] ta)(hK:X.K=K:=by rfl)
  (ho:starEach [.Call (.Name "set" p2) [a] [] pos2] X.env=[(false,eval (.Call (.Name "set" p2) [a] [] pos2) X.env)]:=by rfl) (hs:starEach [a] X.env=[(false,eval a X.env)]:=by rfl) (hpl:(backTo pos (starEach [] X.env)).any (·.1)=false:=by rfl) :
  PE X (.Call (.Name "len" p) [.Call (.Name "set" p2) [a] [] pos2] [] pos) (z0s K ta):=by
 subst hK
 intro pins s σ H Q I h
 refine Call_ (g0m I hg1 hm1 c0v ?_)
 refine PyProof.Rows.callWith_builtin1 ?_ (by rw[ho];rfl) hpl
 rw[ho]
 show wpAny _ _ (spliced [(false,eval (.Call (.Name "set" p2) [a] [] pos2) X.env)]) _ _ s
 refine Calls.spliced_cons ?_
 refine Call_ (g0m I hg hm h1g (PyProof.Rows.callWith_type1 (thn (ha pos2 pins s σ H _ I h) fun us s1 ⟨vs,H1,I1,r1,q1⟩=>?_) hs rfl))
 obtain⟨l,ns,rfl,hq,hn,q⟩:=q1
 obtain⟨u,rfl,ru⟩:=i0q r1
 cases ru
 obtain⟨its,rv,pl,hz⟩:=I1.list hq
 have hl:its.length=ns.length:=by have:=rv.length;rw[List.length_map]at this;omega
 refine call_set_list (I1.ok.hd hc) pl.isList (i0m rv) (by rw[List.size_toArray,hl];show _<4096;omega) fun h' tk hS hk=>Calls.spliced_nil ?_
 obtain⟨o,es,ep,tt,ho',hex,hd,h1,h2,h3,h4,h5⟩:=hS
 refine call_len_set ho' hex hd (by assumption) ?_ ?_
 ·rw[h5]
  have:=PyProof.Rows.firstMet_length_le (fun i=>ns.getD i 0) its.toArray.size
  rw[List.size_toArray,hl]at this
  rw[List.size_toArray,hl]
  omega
 ·have e:es.size=cntS ns:=by rw[h5,List.size_toArray,hl];rfl
  rw[e]
  exact⟨.int (cntS ns:Nat),H1,(I1.kept (t':=tk+1+1) fun b o e=>hk b o (Heap.lt_size e) e),⟨_,rfl⟩,q⟩
theorem y0q {ns:List Int}(h:ns.Nodup):cntS ns=ns.length:=by
 have key:∀i,i<=ns.length->PyProof.Rows.firstMet (fun i=>ns.getD i 0) i=ns.take i:=by
  intro i
  induction i with
  | zero=>intro _;rw[PyProof.Rows.firstMet_zero];rfl
  | succ i ih =>
   intro hi
   rw[PyProof.Rows.firstMet_succ,ih (by omega)]
   have lt:i<ns.length:=by omega
   have e:ns.getD i 0=ns[i]:=by rw[List.getD_eq_getElem?_getD,List.getElem?_eq_getElem lt];rfl
   have nn:¬((ns.take i).any (· == ns[i]))=true:=by
    intro z
    obtain⟨x,hx,ex⟩:=List.any_eq_true.mp z
    have ex':x=ns[i]:=by simpa using ex
    obtain⟨j,hj,ej⟩:=List.getElem_of_mem hx
    rw[List.getElem_take]at ej
    have hj':j<i:=by rw[List.length_take]at hj;omega
    have:j=i:=(List.getElem_inj h).mp (ej.trans ex')
    omega
   unfold PyProof.Rows.step_dedup
   rw[e,if_neg nn,List.take_add_one,List.getElem?_eq_getElem lt]
   rfl
 unfold cntS
 rw[key _ (Nat.le_refl _),List.take_length]
section
variable {K:PySem.W.Frag}{ts:TA}{as:AA}
@[irreducible] def p0x (r:R):AE:=fun ρ q=>match view ρ r with
 | some (.lst ds)=>(match e0y ds with | some ns=>ns.length<=1000/\q (.d (.int (cntS ns:Nat))) ρ | none=>False)
 | _=>False
def k1c (as:AA):AE:=fun ρ q=>as ρ fun rs ρ1=>match rs with
 | [r]=>p0x r ρ1 q
 | _=>False
theorem x0o (h:TAok K ts as):TEok K (z0s K ts) (k1c as):=by
 intro F σ ρ H q Q r ha k
 refine h F σ ρ H _ _ r ha fun rs ρ1 vs H1 h1 r1 i1 k1=>?_
 split at h1
 ·obtain⟨x,rfl,ix⟩:=i1.one
  unfold p0x at h1
  split at h1
  ·rename_i ds e
   split at h1
   ·rename_i ns e'
    obtain⟨l,us,rfl,sq,rd⟩:=c0m r1 ix e
    rw[g0o e',g0b]at rd
    rw[rd]at sq
    exact⟨l,ns,rfl,sq,h1.1,(k.after k1).int r1 h1.2⟩
   ·exact h1.elim
  ·exact h1.elim
 ·exact h1.elim
theorem y0n {r:R}{ρ:En}{q:Ko}{ns:List Int}(hv:view ρ r=some (.lst (ns.map D.int)))(hz:ns.length<=1000)(hq:q (.d (.int (cntS ns:Nat))) ρ):p0x r ρ q:=by
 unfold p0x
 simp only[hv,g0n]
 exact⟨hz,hq⟩
end
end L2
namespace L2
theorem s0h {R:List Nat}{i:Nat}(h:i<R.length):R.getD i 0=R[i]:=by rw[List.getD_eq_getElem?_getD,List.getElem?_eq_getElem h];rfl
theorem m1t {R:List Nat}{i:Nat}(h:i<R.length):R.getD i 0∈R:=by rw[s0h h];exact List.getElem_mem h
theorem m0v {A B:List Nat}{i:Nat}(h:i<A.length):(A++B).getD i 0=A.getD i 0:=by
 simp only[List.getD_eq_getElem?_getD]
 rw[List.getElem?_append_left h]
theorem b1z {A:List Nat}{x:Nat}:(A++[x]).getD A.length 0=x:=by simp
def fst1 (R:List Nat)(t:Nat):Nat:=R.idxOf (R.getD t 0)
theorem c1i {R:List Nat}{t:Nat}(h:t<R.length):fst1 R t<R.length:=List.idxOf_lt_length_iff.mpr (m1t h)
theorem w0x {R:List Nat}{t:Nat}(h:t<R.length):R.getD (fst1 R t) 0=R.getD t 0:=by
 rw[s0h (c1i h)]
 exact List.getElem_idxOf (c1i h)
theorem c1j {R:List Nat}{t:Nat}(h:t<R.length):fst1 R t<=t:=by
 rcases Nat.lt_or_ge t (fst1 R t)with q | q
 ·have:=List.not_of_lt_findIdx (p:=fun x=>x==R.getD t 0) (xs:=R) (i:=t) q
  have e:(R[t]==R.getD t 0)=true:=by rw[s0h h];simp
  exact absurd (this.symm.trans e) Bool.false_ne_true
 ·exact q
def h0f (m:Nat)(f:Nat->Nat):List (Nat×Nat)->Nat->(Nat->Bool)->Nat->Bool
 | [],_,M,t=>M t
 | p::r,k,M,t=>h0f m f r (k+1) M t||(h0f m f r (k+1) M (m+k)&&(t==f p.1||t==f p.2))
section
variable {m:Nat}{f:Nat->Nat}
theorem r0y:∀ {js:List (Nat×Nat)} {k:Nat} {M:Nat->Bool} {t:Nat},M t=true->h0f m f js k M t=true
 | [],_,_,_,h=>h
 | p::r,k,M,t,h=>by unfold h0f;rw[r0y (js:=r) h];rfl
theorem b1o:∀ {js:List (Nat×Nat)} {k:Nat} {M:Nat->Bool},(∀j p,js[j]? = some p->f p.1<m+(k+j)/\f p.2<m+(k+j))->∀ {j p},js[j]? = some p->h0f m f js k M (m+(k+j))=true->h0f m f js k M (f p.1)=true/\h0f m f js k M (f p.2)=true
 | [],_,_,_,j,p,e,_=>by simp at e
 | q::r,k,M,hlt,j,p,e,h=>by
  have h0:=hlt 0 q rfl
  rw[Nat.add_zero]at h0
  have hA:h0f m f r (k+1) M (m+(k+j))=true:=by
   unfold h0f at h
   rw[Bool.or_eq_true,Bool.and_eq_true,Bool.or_eq_true,beq_iff_eq,beq_iff_eq]at h
   rcases h with h | ⟨_,h | h⟩
   ·exact h
   ·omega
   ·omega
  cases j with
  | zero =>
   simp only[List.getElem?_cons_zero,Option.some.injEq]at e
   subst e
   have hA':h0f m f r (k+1) M (m+k)=true:=hA
   constructor
   ·unfold h0f
    rw[hA'];simp
   ·unfold h0f
    rw[hA'];simp
  | succ j =>
   have ih:=b1o (js:=r) (k:=k+1) (M:=M) (fun j p e=>by have:=hlt (j+1) p (by simpa using e);rw[show k+1+j=k+(j+1)by omega];exact this) (j:=j) (p:=p) (by simpa using e) (by rw[show k+1+j=k+(j+1)by omega];exact hA)
   constructor
   ·unfold h0f;rw[ih.1];rfl
   ·unfold h0f;rw[ih.2];rfl
end
def nkT (m:Nat)(L:Nat->Bool)(k:Nat):Nat:=((List.range k).filter fun j=>L (m+j)).length
def nbT (m:Nat)(L:Nat->Bool)(t:Nat):Nat:=if t<m then t else m+nkT m L (t - m)
section
variable {m:Nat}{L:Nat->Bool}
theorem k0m (k:Nat):nkT m L (k+1)=nkT m L k+(if L (m+k)=true then 1 else 0):=by
 unfold nkT
 rw[List.range_succ,List.filter_append,List.length_append]
 congr 1
 by_cases h:L (m+k)=true
 ·rw[if_pos h];simp[List.filter_cons,h]
 ·rw[if_neg h];simp[List.filter_cons,h]
theorem b1k {a b:Nat}(h:a<=b):nkT m L a<=nkT m L b:=by
 induction b with
 | zero=>rw[show a=0 by omega];exact Nat.le_refl _
 | succ b ih =>
  rcases Nat.lt_or_ge a (b+1)with q | q
  ·rw[k0m];have:=ih (by omega);omega
  ·rw[show a=b+1 by omega];exact Nat.le_refl _
theorem l1z (k:Nat):nkT m L k<=k:=by
 induction k with
 | zero=>exact Nat.le_refl _
 | succ k ih=>rw[k0m];split <;> omega
theorem b1l {x y:Nat}(h:x<y)(g:x<m∨L x=true):nbT m L x<nbT m L y:=by
 unfold nbT
 by_cases hx:x<m
 ·rw[if_pos hx]
  by_cases hy:y<m
  ·rw[if_pos hy];exact h
  ·rw[if_neg hy];omega
 ·rw[if_neg hx,if_neg (by omega)]
  have hL:L (m+(x - m))=true:=by rw[show m+(x - m)=x by omega];exact g.resolve_left hx
  have e:=k0m (m:=m) (L:=L) (x - m)
  rw[if_pos hL]at e
  have:=b1k (m:=m) (L:=L) (show x - m+1<=y - m by omega)
  omega
theorem m1b {x y:Nat}(gx:x<m∨L x=true)(gy:y<m∨L y=true)(e:nbT m L x=nbT m L y):x=y:=by
 rcases Nat.lt_trichotomy x y with h | h | h
 ·have:=b1l h gx;omega
 ·exact h
 ·have:=b1l h gy;omega
theorem u0e:∀ {n j:Nat},j<nkT m L n->∃k,k<n/\L (m+k)=true/\nkT m L k=j
 | 0,j,h=>by simp[nkT]at h
 | n+1,j,h=>by
  rw[k0m]at h
  by_cases hL:L (m+n)=true
  ·rw[if_pos hL]at h
   rcases Nat.lt_or_ge j (nkT m L n)with q | q
   ·obtain⟨k,a,b,c⟩:=u0e q
    exact⟨k,by omega,b,c⟩
   ·exact⟨n,by omega,hL,by omega⟩
  ·rw[if_neg hL]at h
   obtain⟨k,a,b,c⟩:=u0e (n:=n) (j:=j) (by omega)
   exact⟨k,by omega,b,c⟩
end
def newJ (m:Nat)(f:Nat->Nat)(L:Nat->Bool)(p:Nat×Nat):Nat×Nat:=(min (nbT m L (f p.1)) (nbT m L (f p.2)),max (nbT m L (f p.1)) (nbT m L (f p.2)))
def l0g (m:Nat)(f:Nat->Nat)(L:Nat->Bool)(js:List (Nat×Nat))(n:Nat):List (Nat×Nat):=(List.range n).flatMap fun k=>if L (m+k)=true then[newJ m f L (js.getD k (0,0))]else[]
section
variable {m:Nat}{f:Nat->Nat}{L:Nat->Bool}{js:List (Nat×Nat)}
theorem j0w (n:Nat):l0g m f L js (n+1)=l0g m f L js n++(if L (m+n)=true then[newJ m f L (js.getD n (0,0))]else[]):=by
 unfold l0g
 rw[List.range_succ,List.flatMap_append]
 simp
theorem h0g (n:Nat):(l0g m f L js n).length=nkT m L n:=by
 induction n with
 | zero=>rfl
 | succ n ih =>
  rw[j0w,List.length_append,ih,k0m]
  split <;> rfl
theorem p0r:∀ {n k:Nat},k<n->L (m+k)=true->(l0g m f L js n)[nkT m L k]? = some (newJ m f L (js.getD k (0,0)))
 | 0,k,h,_=>by omega
 | n+1,k,h,hL=>by
  rw[j0w]
  rcases Nat.lt_or_ge k n with q | q
  ·have e:=k0m (m:=m) (L:=L) k
   rw[if_pos hL]at e
   have:=b1k (m:=m) (L:=L) (show k+1<=n by omega)
   rw[List.getElem?_append_left (by rw[h0g];omega)]
   exact p0r q hL
  ·have:k=n:=by omega
   subst this
   rw[if_pos hL,List.getElem?_append_right (by rw[h0g];exact Nat.le_refl _),h0g,Nat.sub_self]
   rfl
end
theorem f0i:∀ {js:List (Nat×Nat)} {rows:List Nat} {i:Nat},i<rows.length->(js.foldl a0m rows).getD i 0=rows.getD i 0
 | [],_,_,_=>rfl
 | p::r,rows,i,h=>by
  rw[List.foldl_cons,f0i (by rw[d0s];omega)]
  exact m0v h
theorem c1m:∀ {js:List (Nat×Nat)} {rows:List Nat} {k:Nat} {p:Nat×Nat},okIx rows.length js->js[k]? = some p ->
  (js.foldl a0m rows).getD (rows.length+k) 0=(js.foldl a0m rows).getD p.1 0 ^^^ (js.foldl a0m rows).getD p.2 0
 | [],_,_,_,_,e=>by simp at e
 | q::r,rows,k,p,h,e=>by
  obtain⟨h1,h2,h3⟩:=h
  rw[List.foldl_cons]
  cases k with
  | zero =>
   simp only[List.getElem?_cons_zero,Option.some.injEq]at e
   subst e
   rw[f0i (by rw[d0s];omega),f0i (by rw[d0s];omega),f0i (by rw[d0s];omega)]
   have e1:(a0m rows q).getD (rows.length+0) 0=rows.getD q.1 0 ^^^ rows.getD q.2 0:=b1z
   have e2:(a0m rows q).getD q.1 0=rows.getD q.1 0:=m0v (by omega)
   have e3:(a0m rows q).getD q.2 0=rows.getD q.2 0:=m0v (by omega)
   rw[e1,e2,e3]
  | succ k =>
   have:=c1m (js:=r) (rows:=a0m rows q) (k:=k) (p:=p) (by rw[d0s];exact h3) (by simpa using e)
   rw[d0s]at this
   rw[<- this]
   congr 1
   omega
theorem b1g:∀ {js:List (Nat×Nat)} {rows:List Nat},(∀i p,js[i]? = some p->p.1<p.2/\p.2<rows.length+i/\(js.foldl a0m rows).getD p.1 0≠(js.foldl a0m rows).getD p.2 0)->okJs rows js
 | [],_,_=>trivial
 | q::r,rows,h=>by
  obtain⟨h1,h2,h3⟩:=h 0 q rfl
  rw[Nat.add_zero]at h2
  rw[List.foldl_cons,f0i (by rw[d0s];omega),f0i (by rw[d0s];omega)]at h3
  have e:∀i,i<rows.length->(a0m rows q).getD i 0=rows.getD i 0:=fun i hi=>m0v hi
  rw[e _ (by omega),e _ h2]at h3
  refine⟨h1,h2,h3,b1g fun i p hp=>?_⟩
  obtain⟨a,b,c⟩:=h (i+1) p (by simpa using hp)
  exact⟨a,by rw[d0s];omega,c⟩
theorem a1u {m t:Nat}(h:t<m):(a0z m).getD t 0=1 <<< t:=by
 rw[s0h (by rw[d0f];exact h)]
 unfold a0z
 simp
structure Rws (N:Net):Prop where
 ix:okIx N.m N.js
 ne:∀(i:Nat) (p:Nat×Nat),N.js[i]? = some p->(b0g N).getD p.1 0≠(b0g N).getD p.2 0
theorem r0a {N:Net}(h:n0i N):Rws N:=by
 have hix:okIx N.m N.js:=by have:=t0z h.js;rwa [d0f]at this
 refine⟨hix,fun i p hp=>?_⟩
 have:=w0n h.js hp
 obtain⟨h1,h2⟩:=i0l hix hp
 have lt:=(List.getElem?_eq_some_iff.mp hp).1
 have hl:((N.js.take i).foldl a0m (a0z N.m)).length=N.m+i:=by rw[f0z,d0f,List.length_take];omega
 have e:∀j,j<N.m+i->((N.js.take i).foldl a0m (a0z N.m)).getD j 0=(b0g N).getD j 0:=fun j hj=>by
  unfold b0g
  conv=>rhs;rw[<- List.take_append_drop i N.js,List.foldl_append]
  exact(f0i (by rw[hl];exact hj)).symm
 rw[e _ (by omega),e _ h2]at this
 exact this
theorem m0d {N:Net}{t:Nat}(h:t<N.m):(b0g N).getD t 0=1 <<< t:=by
 unfold b0g
 rw[f0i (by rw[d0f];exact h),a1u h]
theorem p0d {N:Net}(hix:okIx N.m N.js){k:Nat}{p:Nat×Nat}(e:N.js[k]? = some p):(b0g N).getD (N.m+k) 0=(b0g N).getD p.1 0 ^^^ (b0g N).getD p.2 0:=by
 have:=c1m (rows:=a0z N.m) (js:=N.js) (k:=k) (p:=p) (by rw[d0f];exact hix) e
 rw[d0f]at this
 exact this
def fT (N:Net):Nat->Nat:=fst1 (b0g N)
def b0s (N:Net):Nat->Bool:=h0f N.m (fT N) N.js 0 fun t=>(N.os.map (fT N)).contains t
def tidN (N:Net):Net:=⟨N.m,l0g N.m (fT N) (b0s N) N.js N.js.length,N.os.map fun o=>nbT N.m (b0s N) (fT N o)⟩
section
variable {N:Net}
theorem f1l {t:Nat}(h:t<N.m+N.js.length):fT N t<=t:=c1j (by rw[j0n];exact h)
theorem w0z {t:Nat}(h:t<N.m+N.js.length):(b0g N).getD (fT N t) 0=(b0g N).getD t 0:=w0x (by rw[j0n];exact h)
theorem y0f (R:Rws N){k:Nat}{p:Nat×Nat}(e:N.js[k]? = some p):p.1<p.2/\p.2<N.m+k/\N.m+k<N.m+N.js.length:=by
 obtain⟨a,b⟩:=i0l R.ix e
 have:=(List.getElem?_eq_some_iff.mp e).1
 exact⟨a,b,by omega⟩
theorem f_lt (R:Rws N){k:Nat}{p:Nat×Nat}(e:N.js[k]? = some p):fT N p.1<N.m+k/\fT N p.2<N.m+k:=by
 obtain⟨a,b,c⟩:=y0f R e
 have h1:=f1l (N:=N) (t:=p.1) (by omega)
 have h2:=f1l (N:=N) (t:=p.2) (by omega)
 omega
theorem e1z {o:Nat}(h:o∈N.os):b0s N (fT N o)=true:=r0y (List.contains_iff_mem.mpr (List.mem_map.mpr ⟨o,h,rfl⟩))
theorem u0j (R:Rws N){k:Nat}{p:Nat×Nat}(e:N.js[k]? = some p)(h:b0s N (N.m+k)=true):b0s N (fT N p.1)=true/\b0s N (fT N p.2)=true :=
 b1o (fun j p e=>by rw[Nat.zero_add];exact f_lt R e) e (by rw[Nat.zero_add];exact h)
end
abbrev j1o (N:Net)(t:Nat):Prop:=t<N.m∨b0s N t=true
abbrev nT (N:Net):Nat->Nat:=nbT N.m (b0s N)
section
variable {N:Net}(R:Rws N)(ho:∀o∈N.os,o<N.m+N.js.length)
include R ho
theorem m1a {k:Nat}{p:Nat×Nat}(e:N.js[k]? = some p)(h:b0s N (N.m+k)=true):(newJ N.m (fT N) (b0s N) p).1<(newJ N.m (fT N) (b0s N) p).2/\(newJ N.m (fT N) (b0s N) p).2<N.m+nkT N.m (b0s N) k:=by
 obtain⟨m1,m2⟩:=u0j R e h
 obtain⟨l1,l2⟩:=f_lt R e
 obtain⟨a,b,c⟩:=y0f R e
 have ne:fT N p.1≠fT N p.2:=fun z=>R.ne k p e (by rw[<- w0z (N:=N) (t:=p.1) (by omega),z,w0z (by omega)])
 have n1:=b1l (m:=N.m) (L:=b0s N) l1 (.inr m1)
 have n2:=b1l (m:=N.m) (L:=b0s N) l2 (.inr m2)
 have nn:nbT N.m (b0s N) (fT N p.1)≠nbT N.m (b0s N) (fT N p.2):=fun z=>ne (m1b (.inr m1) (.inr m2) z)
 have e3:nbT N.m (b0s N) (N.m+k)=N.m+nkT N.m (b0s N) k:=by unfold nbT;rw[if_neg (by omega)];congr 2;omega
 rw[e3]at n1 n2
 unfold newJ
 dsimp only
 omega
theorem z0m {j:Nat}{q:Nat×Nat}(e:(tidN N).js[j]? = some q):∃k p,N.js[k]? = some p/\b0s N (N.m+k)=true/\nkT N.m (b0s N) k=j/\q=newJ N.m (fT N) (b0s N) p:=by
 have hj:j<nkT N.m (b0s N) N.js.length:=by
  have:=(List.getElem?_eq_some_iff.mp e).1
  rwa [show(tidN N).js=l0g N.m (fT N) (b0s N) N.js N.js.length from rfl,h0g]at this
 obtain⟨k,h1,h2,h3⟩:=u0e hj
 have e':(tidN N).js[j]? = some (newJ N.m (fT N) (b0s N) (N.js.getD k (0,0))):=by rw[<- h3];exact p0r h1 h2
 rw[e]at e'
 cases e'
 have ek:N.js[k]? = some (N.js.getD k (0,0)):=by rw[List.getD_eq_getElem?_getD,List.getElem?_eq_getElem h1];rfl
 exact⟨k,_,ek,h2,h3,rfl⟩
theorem k1u {k:Nat}{p:Nat×Nat}(e:N.js[k]? = some p)(h:b0s N (N.m+k)=true):(tidN N).js[nkT N.m (b0s N) k]? = some (newJ N.m (fT N) (b0s N) p):=by
 have lt:=(List.getElem?_eq_some_iff.mp e).1
 have:=p0r (f:=fT N) (js:=N.js) lt h
 rw[List.getD_eq_getElem?_getD,e]at this
 exact this
theorem z0k:(tidN N).js.length=nkT N.m (b0s N) N.js.length:=h0g _
theorem z0l:∀i p,(tidN N).js[i]? = some p->p.1<p.2/\p.2<N.m+i:=fun i q e=>by
 obtain⟨k,p,e1,e2,e3,rfl⟩:=z0m R ho e
 rw[<- e3]
 exact m1a R ho e1 e2
omit R ho in
theorem b1h:∀ {js:List (Nat×Nat)} {n:Nat},(∀i p,js[i]? = some p->p.1<p.2/\p.2<n+i)->okIx n js
 | [],_,_=>trivial
 | p::r,n,h=>⟨(h 0 p rfl).1,(h 0 p rfl).2,b1h fun i q e=>by have:=h (i+1) q (by simpa using e);exact⟨this.1,by omega⟩⟩
theorem k1t:okIx (tidN N).m (tidN N).js:=b1h (z0l R ho)
theorem z0j:∀(t:Nat),t<N.m+N.js.length->j1o N t->(b0g (tidN N)).getD (nT N t) 0=(b0g N).getD t 0:=by
 intro t
 induction t using Nat.strongRecOn with
 | _ t ih =>
  intro ht g
  by_cases hm:t<N.m
  ·rw[show nT N t=t by unfold nT nbT;rw[if_pos hm],m0d hm,m0d (N:=tidN N) (t:=t) hm]
  ·obtain⟨k,rfl⟩:∃k,t=N.m+k:=⟨t - N.m,by omega⟩
   have hk:k<N.js.length:=by omega
   have hL:=g.resolve_left hm
   have e:N.js[k]? = some N.js[k]:=List.getElem?_eq_getElem hk
   obtain⟨m1,m2⟩:=u0j R e hL
   obtain⟨l1,l2⟩:=f_lt R e
   obtain⟨a,b,c⟩:=y0f R e
   have e3:nT N (N.m+k)=N.m+nkT N.m (b0s N) k:=by unfold nT nbT;rw[if_neg (by omega)];congr 2;omega
   rw[e3]
   have:=p0d (N:=tidN N) (k1t R ho) (k1u R ho e hL)
   rw[show(tidN N).m=N.m from rfl]at this
   rw[this,p0d R.ix e]
   have i1:=ih _ l1 (by omega) (.inr m1)
   have i2:=ih _ l2 (by omega) (.inr m2)
   rw[w0z (by omega)]at i1 i2
   rw[<- i1,<- i2]
   unfold newJ
   dsimp only
   rcases Nat.le_total (nbT N.m (b0s N) (fT N N.js[k].1)) (nbT N.m (b0s N) (fT N N.js[k].2))with q | q
   ·rw[Nat.min_eq_left q,Nat.max_eq_right q]
   ·rw[Nat.min_eq_right q,Nat.max_eq_left q,Nat.xor_comm]
theorem o1d {t:Nat}(ht:t<N.m+N.js.length)(g:j1o N t):nT N t<N.m+(tidN N).js.length:=by
 have:=b1l (m:=N.m) (L:=b0s N) ht g
 rw[z0k R ho]
 have e3:nbT N.m (b0s N) (N.m+N.js.length)=N.m+nkT N.m (b0s N) N.js.length:=by unfold nbT;rw[if_neg (by omega)];congr 2;omega
 rw[e3]at this
 exact this
theorem e1s {o:Nat}(h:o∈N.os):fT N o<N.m+N.js.length/\j1o N (fT N o):=by
 have h1:=ho o h
 have:=f1l (N:=N) (t:=o) h1
 exact⟨by omega,.inr (e1z h)⟩
theorem k1s:∀o∈(tidN N).os,o<N.m+(tidN N).js.length:=fun o h=>by
 obtain⟨x,hx,rfl⟩:=List.mem_map.mp h
 obtain⟨a,b⟩:=e1s R ho hx
 exact o1d R ho a b
theorem e1c {k:Nat}{p:Nat×Nat}(e:N.js[k]? = some p)(h:b0s N (N.m+k)=true) :
  ((b0g (tidN N)).getD (newJ N.m (fT N) (b0s N) p).1 0=(b0g N).getD p.1 0/\(b0g (tidN N)).getD (newJ N.m (fT N) (b0s N) p).2 0=(b0g N).getD p.2 0) ∨
  ((b0g (tidN N)).getD (newJ N.m (fT N) (b0s N) p).1 0=(b0g N).getD p.2 0/\(b0g (tidN N)).getD (newJ N.m (fT N) (b0s N) p).2 0=(b0g N).getD p.1 0):=by
 obtain⟨m1,m2⟩:=u0j R e h
 obtain⟨l1,l2⟩:=f_lt R e
 obtain⟨a,b,c⟩:=y0f R e
 have r1:=z0j R ho (fT N p.1) (by omega) (.inr m1)
 have r2:=z0j R ho (fT N p.2) (by omega) (.inr m2)
 rw[w0z (by omega)]at r1 r2
 unfold newJ
 dsimp only
 rcases Nat.le_total (nbT N.m (b0s N) (fT N p.1)) (nbT N.m (b0s N) (fT N p.2))with q | q
 ·rw[Nat.min_eq_left q,Nat.max_eq_right q];exact .inl ⟨r1,r2⟩
 ·rw[Nat.min_eq_right q,Nat.max_eq_left q];exact .inr ⟨r2,r1⟩
end
theorem h1x {N:Net}(h:n0i N):n0i (tidN N):=by
 have R:=r0a h
 have ho:=h.os
 refine⟨h.m1,h.m12,?_,b1g fun i q e=>?_,?_,?_,k1s R ho⟩
 ·rw[z0k R ho];have:=l1z (m:=N.m) (L:=b0s N) N.js.length;have:=h.jl;omega
 ·obtain⟨a,b⟩:=z0l R ho i q e
  refine⟨a,by rw[d0f];exact b,?_⟩
  obtain⟨k,p,e1,e2,e3,rfl⟩:=z0m R ho e
  have ne:=R.ne k p e1
  show(b0g (tidN N)).getD _ 0≠(b0g (tidN N)).getD _ 0
  rcases e1c R ho e1 e2 with⟨r1,r2⟩ | ⟨r1,r2⟩
  ·rw[r1,r2];exact ne
  ·rw[r1,r2];exact ne.symm
 ·show 1<=(N.os.map _).length
  rw[List.length_map];exact h.o1
 ·show(N.os.map _).length<=24
  rw[List.length_map];exact h.o24
theorem h1l {a b:Nat}(h:a ^^^ b=0):a=b:=by
 have e:a ^^^ b ^^^ b=a:=by rw[Nat.xor_assoc,Nat.xor_self,Nat.xor_zero]
 rw[h,Nat.zero_xor]at e
 exact e.symm
theorem l1h {N:Net}(h:n0i N){t:Nat}(ht:t<N.m+N.js.length):(b0g N).getD t 0≠0:=fun e'=>by
 have R:=r0a h
 by_cases hm:t<N.m
 ·rw[m0d hm,Nat.one_shiftLeft]at e'
  have:=Nat.two_pow_pos t
  omega
 ·obtain⟨k,rfl⟩:∃k,t=N.m+k:=⟨t - N.m,by omega⟩
  have ek:N.js[k]? = some (N.js[k]'(by omega)):=List.getElem?_eq_getElem _
  rw[p0d R.ix ek]at e'
  exact R.ne k _ ek (h1l e')
theorem s0q {n2:Nat}{c:En->Prop}{g:AG}{tc:AT}{te:AE}{k:List D->En->Prop}(I:Nat->List D->En->Prop){ds:List D}(hc:∀i acc ρ,i<=ds.length->I i acc ρ->c ρ/\acc.length<=1000000)
  (hs:∀(i:Nat) d acc ρ (N:List D->En->Prop),ds[i]? = some d->I i acc ρ->(∀acc' ρ',I (i+1) acc' ρ'->N acc' ρ') ->
   g d ρ fun ρ1=>tc ρ1 fun b ρ2=>if b=true then te ρ2 fun r ρ3=>sto [r.frz] ρ3 fun es ρ4=>N (acc++es) (List.replicate n2 .un++ρ4.drop n2)else N acc (List.replicate n2 .un++ρ2.drop n2))
  (hd:∀acc ρ,I ds.length acc ρ->k acc ρ):∀acc ρ,I 0 acc ρ->k0e n2 c g tc te k ds acc ρ:=by
 have go:∀(es:List D) (i:Nat),ds.drop i=es->i<=ds.length->∀acc ρ,I i acc ρ->k0e n2 c g tc te k es acc ρ:=by
  intro es
  induction es with
  | nil =>
   intro i h hi acc ρ hI
   have:ds.length<=i:=List.drop_eq_nil_iff.mp h
   have:i=ds.length:=by omega
   subst this
   unfold k0e
   exact⟨(hc _ acc ρ (Nat.le_refl _) hI).1,hd acc ρ hI⟩
  | cons d es ih =>
   intro i h hi acc ρ hI
   have lt:i<ds.length:=by
    rcases Nat.lt_or_ge i ds.length with q | q
    ·exact q
    ·rw[List.drop_eq_nil_of_le q]at h;cases h
   rw[List.drop_eq_getElem_cons lt]at h
   injection h with h1 h2
   unfold k0e
   obtain⟨a,b⟩:=hc i acc ρ hi hI
   exact⟨a,b,hs i d acc ρ (fun acc' ρ'=>k0e n2 c g tc te k es acc' ρ') (by rw[<- h1];exact List.getElem?_eq_getElem lt) hI (fun acc' ρ' i'=>ih (i+1) h2 lt acc' ρ' i')⟩
 exact go ds 0 rfl (Nat.zero_le _)
end L2
namespace L2
open PySem PySem.Spec PyProof.Rows
end L2
set_option maxHeartbeats 2000000
namespace L2
open PySem PySem.Spec PyProof.Rows
end L2
namespace L2
open PySem
def Ris (xs:Array Nat):Prop:=xs.toList.Pairwise (· < ·)
theorem Ris.lt {xs:Array Nat}(h:Ris xs){i k:Nat}(hk:k<xs.size)(hi:i<k):xs[i]'(by omega)<xs[k]:=by
 have:=List.pairwise_iff_getElem.mp h i k (by simp;omega) (by simpa using hk) hi
 simpa using this
theorem q0n {xs:Array Nat}{j:Nat}(hr:Ris xs):∀(f lo hi:Nat),hi - lo<=f->lo<=hi->hi<=xs.size->(∀k (h:k<xs.size),k<lo->xs[k]<j)->(∀k (h:k<xs.size),hi<=k->j<=xs[k]) ->
  SetTable.below.go xs j f lo hi<=xs.size/\(∀k (h:k<xs.size),k<SetTable.below.go xs j f lo hi->xs[k]<j)/\(∀k (h:k<xs.size),SetTable.below.go xs j f lo hi<=k->j<=xs[k])
 | 0,lo,hi,hf,hl,hz,h1,h2=>by
  have:hi=lo:=by omega
  subst this
  exact⟨hz,h1,h2⟩
 | f+1,lo,hi,hf,hl,hz,h1,h2=>by
  unfold SetTable.below.go
  by_cases hlt:lo<hi
  ·rw[if_pos hlt]
   dsimp only
   have hm:(lo+hi) / 2<xs.size:=by omega
   have eg:xs.getD ((lo+hi) / 2) j=xs[(lo+hi) / 2]:=by simp[Array.getD,hm]
   rw[eg]
   by_cases hc:xs[(lo+hi) / 2]<j
   ·rw[if_pos hc]
    refine q0n hr f _ hi (by omega) (by omega) hz (fun k hk h=>?_) h2
    by_cases e:k=(lo+hi) / 2
    ·subst e;exact hc
    ·exact Nat.lt_trans (hr.lt hm (by omega)) hc
   ·rw[if_neg hc]
    refine q0n hr f lo _ (by omega) (by omega) (by omega) h1 (fun k hk h=>?_)
    by_cases e:k=(lo+hi) / 2
    ·subst e;omega
    ·have:=hr.lt hk (show(lo+hi) / 2<k by omega)
     omega
  ·rw[if_neg hlt]
   have:hi=lo:=by omega
   subst this
   exact⟨hz,h1,h2⟩
theorem l0w {xs:Array Nat}{j:Nat}(hr:Ris xs):SetTable.below xs j<=xs.size/\(∀k (h:k<xs.size),k<SetTable.below xs j->xs[k]<j)/\(∀k (h:k<xs.size),SetTable.below xs j<=k->j<=xs[k]) :=
 q0n hr xs.size 0 xs.size (by omega) (Nat.zero_le _) (Nat.le_refl _) (fun k _ h=>absurd h (Nat.not_lt_zero _)) fun k h h'=>absurd h (by omega)
theorem f1y {xs:Array Nat}(hr:Ris xs){k:Nat}(hk:k<xs.size):SetTable.below xs xs[k]=k:=by
 obtain⟨h0,h1,h2⟩:=l0w (j:=xs[k]) hr
 rcases Nat.lt_trichotomy (SetTable.below xs xs[k]) k with h | h | h
 ·have a:=h2 (SetTable.below xs xs[k]) (by omega) (Nat.le_refl _)
  have b:=hr.lt hk h
  omega
 ·exact h
 ·have:=h1 k hk h
  omega
theorem y0u {xs:Array Nat}(hr:Ris xs){k:Nat}(hk:k<xs.size):SetTable.below xs (xs[k]+1)=k+1:=by
 obtain⟨h0,h1,h2⟩:=l0w (j:=xs[k]+1) hr
 rcases Nat.lt_trichotomy (SetTable.below xs (xs[k]+1)) (k+1)with h | h | h
 ·have:=h2 k hk (by omega)
  omega
 ·exact h
 ·have a:=h1 (k+1) (by omega) h
  have b:=hr.lt (show k+1<xs.size by omega) (show k<k+1 by omega)
  omega
theorem y0t {xs:Array Nat}(hr:Ris xs):SetTable.below xs 0=0:=by
 obtain⟨h0,h1,h2⟩:=l0w (j:=0) hr
 rcases Nat.eq_zero_or_pos (SetTable.below xs 0)with h | h
 ·exact h
 ·have:=h1 0 (by omega) h
  omega
theorem i1j {xs:Array Nat}{j:Nat}(hr:Ris xs)(hj:j∉xs.toList):Ris (SetTable.insertAt xs (SetTable.below xs j) j):=by
 obtain⟨h0,h1,h2⟩:=l0w (j:=j) hr
 unfold Ris
 rw[SetTable.toList_insertAt]
 have sp:(xs.toList.take (SetTable.below xs j)++xs.toList.drop (SetTable.below xs j)).Pairwise (· < ·):=by rw[List.take_append_drop];exact hr
 obtain⟨p1,p2,p3⟩:=List.pairwise_append.mp sp
 have lo:∀a∈xs.toList.take (SetTable.below xs j),a<j:=fun a ha=>by
  obtain⟨i,hi,rfl⟩:=List.getElem_of_mem ha
  rw[List.length_take,Array.length_toList]at hi
  rw[List.getElem_take,Array.getElem_toList]
  exact h1 i (by omega) (by omega)
 have up:∀a∈xs.toList.drop (SetTable.below xs j),j<a:=fun a ha=>by
  have hm:=List.mem_of_mem_drop ha
  obtain⟨i,hi,rfl⟩:=List.getElem_of_mem ha
  rw[List.length_drop,Array.length_toList]at hi
  rw[List.getElem_drop,Array.getElem_toList]at hm ⊢
  have:=h2 (SetTable.below xs j+i) (by omega) (by omega)
  rcases Nat.lt_or_eq_of_le this with h | h
  ·exact h
  ·exact absurd (h▸hm) hj
 refine List.pairwise_append.mpr ⟨p1,List.pairwise_cons.mpr ⟨up,p2⟩,fun a ha b hb=>?_⟩
 rcases List.mem_cons.mp hb with rfl | hb
 ·exact lo a ha
 ·exact p3 a ha b hb
def Open (t:SetTable)(j:Nat):Prop:=∀i,t.slot j ≠ .live i
theorem e1t {t:SetTable}{j:Nat}(hr:Ris t.place)(h:Open t j):j∉t.place.toList:=by
 intro hm
 obtain⟨k,hk,e⟩:=List.getElem_of_mem hm
 rw[Array.length_toList]at hk
 rw[Array.getElem_toList]at e
 refine h k ?_
 unfold SetTable.slot
 dsimp only
 rw[<- e,f1y hr hk,if_pos (by simp[hk])]
theorem t0c (t:SetTable)(p:SetTable.Probe):(t.advance p).dummy=p.dummy:=by
 unfold SetTable.advance;split <;> rfl
theorem u0p {t:SetTable}{f:Nat->Int}{h:Int}:∀(n:Nat) (p:SetTable.Probe) (j:Nat) (d:Option Nat),SetTable.probe.go t f h n p=some (.empty j d)->(∀x,p.dummy=some x->Open t x)->Open t j/\∀x,d=some x->Open t x
 | 0,p,j,d,e,_=>by cases e
 | n+1,p,j,d,e,hd=>by
  unfold SetTable.probe.go at e
  cases es:t.slot p.j with
  | empty =>
   rw[es]at e
   dsimp only at e
   simp only[Option.some.injEq,SetTable.Met.empty.injEq]at e
   obtain⟨rfl,rfl⟩:=e
   exact⟨fun i z=>(by rw[es]at z;cases z),hd⟩
  | dummy =>
   rw[es]at e
   refine u0p n _ j d e fun x hx=>?_
   rw[t0c]at hx
   cases hx
   exact fun i z=>by rw[es]at z;cases z
  | live i =>
   rw[es]at e
   dsimp only at e
   split at e
   ·cases e
   ·refine u0p n _ j d e fun x hx=>?_
    rw[t0c]at hx
    exact hd x hx
theorem c1k {t:SetTable}{h:Int}{j:Nat}{b:Bool}(e:t.freeSlot h=some (j,b)):Open t j:=by
 unfold SetTable.freeSlot at e
 split at e
 ·rename_i j' d hp
  simp only[Option.some.injEq,Prod.mk.injEq]at e
  obtain⟨rfl,_⟩:=e
  unfold SetTable.probe at hp
  obtain⟨a,b⟩:=u0p _ _ _ _ hp fun x hx=>by cases hx
  cases d with
  | none=>exact a
  | some x=>exact b x rfl
 ·cases e
def Led (t:SetTable):Prop:=t.led=true/\Ris t.place
theorem a1g (n:Nat):Ris (Array.range n):=by
 unfold Ris
 rw[Array.toList_range]
 exact List.pairwise_lt_range
theorem j0v {t:SetTable}(h:t.led=true)(n:Nat):Led (t.standIn n):=⟨h,a1g n⟩
theorem m1d {t:SetTable}(h:Led t)(n:Nat):Led (t.orStandIn n):=by
 unfold SetTable.orStandIn
 split
 ·exact h
 ·exact j0v h.1 n
theorem j1c {t:SetTable}(h:Led t)(es:Array (Int×Value))(k:Int)(x:Value):Led (layNew t es k x).2.1:=by
 unfold layNew
 split
 ·rename_i j b e
  have l2:Led (t.put j).1:=⟨h.1,i1j h.2 (e1t h.2 (c1k e))⟩
  exact m1d l2 _
 ·exact j0v h.1 _
theorem j1p {α:Type}(f:Nat->Option α)(n:Nat):(((List.range n).filterMap fun j=>(f j).map (j,·)).map (·.1)).Sublist (List.range n):=by
 rw[List.map_filterMap]
 have:(fun x=>Option.map (fun y:Nat×α=>y.1) ((f x).map (x,·)))=fun x=>if(f x).isSome then some x else none:=by
  funext x;cases f x <;> rfl
 rw[this]
 have e:(List.range n).filterMap (fun x=>if(f x).isSome=true then some x else none)=(List.range n).filter fun x=>(f x).isSome:=by
  induction List.range n with
  | nil=>rfl
  | cons a l ih =>
   rw[List.filterMap_cons,List.filter_cons]
   cases (f a).isSome <;> simp[ih]
 rw[e]
 exact List.filter_sublist
theorem y0d {t t':SetTable}{hs:Array Int}{k:Nat}{o:Array Nat}(h:t.led=true)(e:t.relaid hs k=some (t',o)):Led t':=by
 unfold SetTable.relaid SetTable.laid at e
 cases ho:SetTable.layClean (SetTable.sizeAbove k - 1) hs with
 | none=>rw[ho]at e;cases e
 | some ow =>
  rw[ho]at e
  simp only[Option.bind_eq_bind,Option.bind_some,Option.pure_def,Option.some.injEq,Prod.mk.injEq]at e
  obtain⟨rfl,_⟩:=e
  refine⟨h,?_⟩
  unfold Ris
  dsimp only
  exact List.Pairwise.sublist (j1p (fun j=>ow.getD j none) _) List.pairwise_lt_range
theorem j1d {t:SetTable}(h:t.led=true)(es:Array (Int×Value))(k:Nat):Led (relayAll t es k).2.1:=by
 unfold relayAll
 split
 ·rename_i t' o e
  dsimp only
  split
  ·exact y0d h e
  ·exact j0v h _
 ·exact j0v h _
end L2
namespace L2
open PySem PySem.Spec PyProof.Rows
def byT (w:World):Bool:=w.params.followText "set-order"
def SetI (P:Program)(w:World)(h:Heap)(a:Addr)(ks:List Int):Prop :=
 ∃o es ep t,h.get? a=some o/\o.ExactSet/\o.data = .set es ep t/\ElemsOf (intKind P w) es.toList/\(∀k,k∈ks↔∃e∈es.toList,(intKind P w).is k e.2=true)/\es.size<scanBound/\t.fits es.size=true/\es.size=ks.length/\(byT w=false->Led t)
section
variable {P:Program}{w:World}{A:Around}{E:Value->Shared->Prop}{s:Shared}
theorem SetI.kept {h h':Heap}{a:Addr}{ks:List Int}(hS:SetI P w h a ks)(k:∀o,h.get? a=some o->h'.get? a=some o):SetI P w h' a ks:=by
 obtain⟨o,es,ep,t,ho,r⟩:=hS
 exact⟨o,es,ep,t,k o ho,r⟩
theorem SetI.store {h:Heap}{a:Addr}{o:Obj}{es es':Array (Int×Value)}{ep:Nat}{t t':SetTable}{ks:List Int}(e:h.get? a=some o)(x:o.ExactSet)(d:o.data = .set es ep t)
  (h1:ElemsOf (intKind P w) es'.toList) (h2:∀k,k∈ks↔∃e∈es'.toList,(intKind P w).is k e.2=true) (h3:es'.size<scanBound) (h4:t'.fits es'.size=true) (h5:es'.size=ks.length) (h6:byT w=false->Led t') :
  (h.update a (Obj.putSet es' t')).get? a=some {o with data:=.set es' (ep+1) t'}/\SetI P w (h.update a (Obj.putSet es' t')) a ks:=by
 have g:(h.update a (Obj.putSet es' t')).get? a=some {o with data:=.set es' (ep+1) t'}:=by
  rw[Heap.get?_update_self (Obj.putSet es' t') e (by rw[putSet_of es' t' d];rfl),putSet_of es' t' d]
 exact⟨g,{o with data:=.set es' (ep+1) t'},es',ep+1,t',g,x,rfl,h1,h2,h3,h4,h5,h6⟩
theorem d1h {g:Bool->Sem Unit}(hg:∀(b:Bool) (z:Shared) (q:Unit->Shared->Prop),q () z->wpAny (model P w) A (g b) q E z){a:Addr}{o:Obj}{es e1:Array (Int×Value)}{ep:Nat}{t t2:SetTable}{ks:List Int}
  (e:s.heap.get? a=some o) (x:o.ExactSet) (d:o.data = .set es ep t)
  (h1:ElemsOf (intKind P w) e1.toList) (h2:∀k,k∈ks↔∃e∈e1.toList,(intKind P w).is k e.2=true) (h3:e1.size<scanBound) (h4:t2.fits e1.size=true) (h5:e1.size=ks.length) (h6:byT w=false->Led t2)
  {dm:Bool} {R:Option Bool->Shared->Prop} (h:∀h',Heap.SameBut a s.heap h'->SetI P w h' a ks->R (some true) {s with heap:=h'}) :
  wpAny (model P w) A (do
   storeSet a e1 t2
   if(!dm&&t2.tooFull)=true then do
    g (relayAll t2 e1 (SetTable.grown e1.size)).2.2
    storeSet a (relayAll t2 e1 (SetTable.grown e1.size)).1 (relayAll t2 e1 (SetTable.grown e1.size)).2.1
    pure (some true)
   else pure (some true)) R E s:=by
 refine wpAny_bind (wpAny_storeSet_of e d ?_ (fits_of_scanBound h3))
 obtain⟨g1,S1⟩:=SetI.store (P:=P) (w:=w) e x d h1 h2 h3 h4 h5 h6
 have b1:=Heap.SameBut.update s.heap a (Obj.putSet e1 t2)
 split
 ·have p:=relayAll_perm t2 e1 (SetTable.grown e1.size)
  have f:=relayAll_fits t2 e1 (SetTable.grown e1.size)
  have l:byT w=false->Led (relayAll t2 e1 (SetTable.grown e1.size)).2.1:=fun z=>j1d (h6 z).1 _ _
  generalize relayAll t2 e1 (SetTable.grown e1.size)=R2 at p f l ⊢
  obtain⟨e2,t3,g2⟩:=R2
  dsimp only at p f l ⊢
  have n2:e2.size=e1.size:=by have:=p.length_eq;simpa using this
  refine wpAny_bind (hg _ _ _ ?_)
  refine wpAny_bind (wpAny_storeSet_of g1 rfl ?_ (fits_of_scanBound (by omega)))
  obtain⟨_,S2⟩:=SetI.store (P:=P) (w:=w) (ks:=ks) g1 x rfl (ElemsOf.perm h1 p) (fun k=>(h2 k).trans ⟨fun⟨y,hy,z⟩=>⟨y,p.mem_iff.mpr hy,z⟩,fun⟨y,hy,z⟩=>⟨y,p.mem_iff.mp hy,z⟩⟩) (by omega) f (by omega) l
  exact wpAny_pure (h _ (b1.trans (Heap.SameBut.update _ a _)) S2)
 ·exact wpAny_pure (h _ b1 S1)
theorem n1b (ks:List Int)(k j:Int):j∈step_dedup ks k↔j∈ks∨j=k:=by
 unfold step_dedup
 split
 ·rename_i h
  rw[List.any_eq_true]at h
  obtain⟨y,hy,e⟩:=h
  have:y=k:=by simpa using e
  subst this
  exact⟨.inl,fun z=>z.elim id fun e=>e▸hy⟩
 ·simp
theorem n1c {ks:List Int}{k:Int}(h:k∈ks):step_dedup ks k=ks:=by
 unfold step_dedup
 rw[if_pos (List.any_eq_true.mpr ⟨k,h,by simp⟩)]
theorem h1f {ks:List Int}{k:Int}(h:k∉ks):step_dedup ks k=ks++[k]:=by
 unfold step_dedup
 rw[if_neg (fun z=>by obtain⟨y,hy,e⟩:=List.any_eq_true.mp z;exact h ((by simpa using e:y=k)▸hy))]
theorem o1l {a:Addr}{ks:List Int}{k:Int}{x:Value}{Q:Bool->Shared->Prop}(hk:(intKind P w).is k x=true)(hx:x.scannable=true)(hS:SetI P w s.heap a ks)(hr:ks.length+1<scanBound)
  (h:∀h' b,Heap.SameBut a s.heap h'->SetI P w h' a (step_dedup ks k)->Q b {s with heap:=h'}):wpAny (model P w) A (setAddHashed a x ((intKind P w).hash k)) Q E s:=by
 obtain⟨o,es,ep,t,ho,ex,d,el,me,bd,fi,le,ld⟩:=hS
 unfold setAddHashed setAddHashedIn
 refine wpAny_holding (wpAny_bind (wpAny_setState_of ho d fi ?_));dsimp only
 rw[byScan_of hx bd el];simp only[if_true]
 unfold setAddByScan
 refine wpAny_bind (wpAny_bind (wpAny_rule (wpAny_bind (wpAny_setScan_of hk ho d fi el ?_))))
 cases hf:List.findIdx? (fun e=>(intKind P w).is k e.2) es.toList with
 | some j =>
  dsimp only
  obtain⟨lj,pj,_⟩:=List.findIdx?_eq_some_iff_getElem.mp hf
  have kin:k∈ks:=(me k).mpr ⟨_,List.getElem_mem lj,pj⟩
  refine wpAny_pure (wpAny_pure ?_)
  have:=h s.heap false (Heap.SameBut.refl a s.heap) (by rw[n1c kin];exact⟨o,es,ep,t,ho,ex,d,el,me,bd,fi,le,ld⟩)
  exact this
 | none =>
  dsimp only
  have kout:k∉ks:=fun z=>by
   obtain⟨y,hy,q⟩:=(me k).mp z
   have:=List.findIdx?_eq_none_iff.mp hf y hy
   rw[q]at this;cases this
  have gw:∀(b:Bool) {z:Shared} {q:Unit->Shared->Prop},q () z->wpAny (model P w) A (match b with | true=>rule "set.scan.the-table-gave-way" | false=>pure ()) q E z:=fun b z q hq=>by
   cases b
   ·exact wpAny_pure hq
   ·exact wpAny_rule hq
  have pe:=layNew_perm t es ((intKind P w).hash k) x
  have fe:=layNew_fits t es ((intKind P w).hash k) x
  have lf:byT w=false->Led (layNew t es ((intKind P w).hash k) x).2.1:=fun z=>j1c (ld z) _ _ _
  generalize layNew t es ((intKind P w).hash k) x=L at pe fe lf ⊢
  obtain⟨e1,t1,dm,gv⟩:=L
  dsimp only at pe fe lf ⊢
  rw[Array.toList_push]at pe
  have el1:ElemsOf (intKind P w) e1.toList:=(ElemsOf.push el hk hx).perm pe
  have n1:e1.size=ks.length+1:=by have:=pe.length_eq;simp at this;omega
  have me1:∀j,j∈ks++[k]↔∃e∈e1.toList,(intKind P w).is j e.2=true:=fun j=>by
   rw[List.mem_append,me j,List.mem_singleton]
   constructor
   ·rintro(⟨y,hy,q⟩ | rfl)
    ·exact⟨y,pe.mem_iff.mpr (List.mem_append_left _ hy),q⟩
    ·exact⟨_,pe.mem_iff.mpr (List.mem_append_right _ (List.mem_singleton.mpr rfl)),hk⟩
   ·rintro⟨y,hy,q⟩
    rcases List.mem_append.mp (pe.mem_iff.mp hy)with hy | hy
    ·exact .inl ⟨y,hy,q⟩
    ·rw[List.mem_singleton.mp hy]at q
     exact .inr ((intKind P w).inj x j k q hk)
  refine wpAny_bind (gw _ ?_)
  have fin:∀h',Heap.SameBut a s.heap h'->SetI P w h' a (ks++[k])->Q true {s with heap:=h'}:=fun h' b z=>h h' true b (by rw[h1f kout];exact z)
  split
  ·refine wpAny_bind ?_
   rw[hashByValue_scannable 8 hx]
   refine wpAny_pure ?_
   refine d1h ?_ ho ex d el1 me1 (by omega) ?_ (by rw[List.length_append];simpa using n1) ?_ ?_
   ·intro b z q hq
    cases b
    ·exact wpAny_pure hq
    ·exact wpAny_rule hq
   ·split
    ·exact fe
    ·exact SetTable.fits_plain_off fe
   ·intro z
    split
    ·exact lf z
    ·exact lf z
   ·intro h' b z
    exact wpAny_pure (fin h' b z)
  ·refine wpAny_bind (wpAny_pure ?_)
   simp only[if_true]
   refine d1h ?_ ho ex d el1 me1 (by omega) fe (by rw[List.length_append];simpa using n1) lf ?_
   ·intro b z q hq
    cases b
    ·exact wpAny_pure hq
    ·exact wpAny_rule hq
   ·intro h' b z
    exact wpAny_pure (fin h' b z)
end
end L2
set_option maxHeartbeats 3200000
namespace L2
open PySem PySem.Spec PyProof.Rows
def setO (w:World):Obj:={cls:=.type "set",dict:=none,data:=.set #[] 0 (.fresh 0 0 (!byT w))}
section
variable {P:Program}{w:World}{A:Around}{E:Value->Shared->Prop}{s:Shared}
theorem o1c (a:Value){q:Value->Shared->Prop}(h:q (.ref s.heap.objs.size) {s with heap:=s.heap.push (setO w)}) :
  codeAny (model P w) A (.call (.builtin "set.__new__") ⟨[.type "set",a],[]⟩) (wants q E) s:=by
 refine codeAny_of_tree (show wpAny _ A.in1 (do checkBuiltinCall "set.__new__" ⟨[.type "set",a],[]⟩;again (.builtin "set.__new__" ⟨[.type "set",a],[]⟩)) _ _ s from ?_)
 refine wpAny_bind (wpAny_of_eq (PySem.F.newCall_set_1 a) (wpAny_pure ⟨plainId_quiet PySem.F.plain_set_new _,codeAny_builtin PySem.F.entry_set_new ?_⟩))
 rw[Around.under_plainId PySem.F.plain_set_new _];unfold Builtin.«set.__new__» Builtin.Frozenset.newClass
 have su:=sub_set_self
 obtain⟨hp,g,d,tk,os⟩:=s
 dsimp only
 wp_walk
 refine wpAny_askSetting (wpAny_pure ?_)
 dsimp only;simp only[newObj]
 exact wpAny_bind (wpAny_alloc (wpAny_pure (wpAny_pure h)))
theorem e1h (h:Heap):SetI P w (h.push (setO w)) h.objs.size [] :=
 ⟨setO w,#[],0,_,Heap.get?_push_size _ rfl,⟨rfl,rfl,rfl⟩,rfl,fun e he=>by simp at he,fun k=>by simp,by decide,by rfl,rfl,fun z=>⟨by simp[SetTable.fresh,z],by simp[Ris,SetTable.fresh]⟩⟩
variable {R:Result->Shared->Prop}{I:Addr}{fp wr:List Addr}{G:Array GenState->Array GenState->Prop}{n:Nat}{p:Nat->Value->Prop}{St:Nat->Shared->Prop}
theorem n1s (W:WalksS P w A.in1 I fp wr G n p St)(S:Addr)(hf:S∉fp)(f:Nat->Int)(hv:∀i v,p i v->∃t,v = .int (f i) t)(hb:n+1<scanBound) :
  ∀(k i:Nat) (z:Shared),n - i=k->i<=n->St i z->SetI P w z.heap S (firstMet f i) ->
   (∀z',Moved (S::wr) G z z'->SetI P w z'.heap S (firstMet f n)->R (.ok (.ret .none)) z')->codeAny (model P w) A (.builtin "set.update.loop" ⟨[.ref S,.ref I],[]⟩) R z:=by
 have hw:S∉wr:=fun q=>hf (W.sub _ q)
 have sb:∀b∈wr,b∈S::wr:=fun b q=>List.mem_cons_of_mem _ q
 intro k
 induction k with
 | zero =>
  intro i z hk hi st hS hR
  obtain rfl:i=n:=by omega
  refine codeAny_builtin PyProof.Rows.F.entry_set_update_loop ?_
  rw[Around.under_plainId PyProof.Rows.F.plain_set_update_loop _]
  refine(show wpAny _ A.in1 (pyNext (.ref I)>>=_) _ _ z from wpAny_bind (W.done z _ _ st fun z' m=>?_))
  exact(show wpAny _ A.in1 (ret Value.none) _ _ z' from wpAny_pure (hR z' (m.mono sb) (hS.kept fun o e=>m.heap S _ hw e)))
 | succ k ih =>
  intro i z hk hi st hS hR
  have lt:i<n:=by omega
  refine codeAny_builtin PyProof.Rows.F.entry_set_update_loop ?_
  rw[Around.under_plainId PyProof.Rows.F.plain_set_update_loop _]
  refine(show wpAny _ A.in1 (pyNext (.ref I)>>=_) _ _ z from wpAny_bind (W.item i z _ _ lt st fun v z' hp st' m=>?_))
  obtain⟨t,rfl⟩:=hv i v hp
  have hS':SetI P w z'.heap S (firstMet f i):=hS.kept fun o e=>m.heap S _ hw e
  refine(show wpAny _ A.in1 (holding [Value.int (f i) t] (setAdd S (.int (f i) t))>>=_) _ _ z' from wpAny_bind (wpAny_holding ?_))
  unfold setAdd
  refine wpAny_holding (wpAny_bind ((intKind P w).pyHash (k:=f i) (intKind_is _ _ _ _) ?_))
  have rm:(firstMet f i).length+1<scanBound:=by have:=firstMet_length_le f i;omega
  refine o1l (s:={z' with toks:=z'.toks+1}) (intKind_is _ _ _ _) rfl hS' rm fun h' b hs hS2=>?_
  rw[<- firstMet_succ]at hS2
  refine wpAny_pure ⟨plainId_quiet PyProof.Rows.F.plain_set_update_loop _,ih (i+1) _ (by omega) lt (W.frame _ z' _ _ st' (Nat.le_succ _) fun b hb o e=>?_) hS2 fun z2 m2 hS3=>?_⟩
  ·rw[hs.2 b (fun q:b=S=>hf (q▸hb))];exact e
  ·refine hR z2 (Moved.trans W.gtrans ((m.mono sb).then_heap (Nat.le_succ _) fun b o hb e=>?_) m2) hS3
   rw[hs.2 b (fun q:b=S=>hb (by rw[q];exact List.mem_cons_self))];exact e
end
section
variable {P:Program}{w:World}{A:Around}{E:Value->Shared->Prop}{s:Shared}
theorem n1v {l:Addr}{its:Array Value}{ns:List Int}{Q:Value->Shared->Prop}(hh:A.handled=none)(hl:s.heap.IsList l its)(hi:IntsAre its.toList ns)(hb:its.size+1<scanBound)
  (h:∀(h':Heap) (tk:Nat),SetI P w h' s.heap.objs.size (firstMet (fun i=>ns.getD i 0) its.size)->(∀b o,s.heap.get? b=some o->h'.get? b=some o)->Q (.ref s.heap.objs.size) {s with heap:=h',toks:=tk}) :
  wpAny (model P w) A (call (.type "set") [.ref l]) Q E s:=by
 obtain⟨c,tl,mro⟩:=PySem.F.called_set.mro
 have md:=PySem.F.called_set.made
 have sb:=PySem.F.called_set.sub
 refine wpAny_call (codeAny_of_tree (show wpAny _ _ (callAny (.type "set") _) _ _ _ from ?_))
 refine wpAny_pure ⟨Code.quiet_builtin _ (by decide +kernel),codeAny_builtin PySem.F.entry_type_call ?_⟩
 rw[Around.under_plain (weight_type_call_type "set" [.ref l] []) rfl]
 have n1:=PySem.F.called_set.notType
 have n2:=PySem.F.called_set.canCreate
 have n3:=PySem.F.typeCall_set_1 (.ref l)
 repeat (any_goals (first | assumption | wp_step))
 refine codeAny_mono (o1c (.ref l) (E:=E) (q:=fun ob z=>ob = .ref s.heap.objs.size/\z={s with heap:=s.heap.push (setO w)}) ⟨rfl,rfl⟩) fun r z hr=>?_
 cases r with
 | error e=>exact hr
 | ok fl =>
  cases fl with
  | ret ob =>
   obtain⟨rfl,rfl⟩:=hr
   have gS:(s.heap.push (setO w)).get? s.heap.objs.size=some (setO w):=Heap.get?_push_size _ rfl
   have tS:Shared.TypeIs {s with heap:=s.heap.push (setO w)} (.ref s.heap.objs.size) "set" := ⟨_,gS,rfl⟩
   have i1:=PySem.F.called_set.init.lookup
   have i2:=PySem.F.called_set.init.bind (.ref s.heap.objs.size)
   repeat (any_goals (first | assumption | wp_step))
   refine codeAny_mono (codeAny_call_builtin (R:=wants (fun r z=>r = .none/\∃h' tk,z={s with heap:=h',toks:=tk}/\SetI P w h' s.heap.objs.size (firstMet (fun i=>ns.getD i 0) its.size)/\(∀b o,s.heap.get? b=some o->h'.get? b=some o)) E) PySem.F.called_set.init.plain PySem.F.entry_set_init (check_set_init_1 tS ?_)) fun r2 z2 hr2=>?_
   ·obtain⟨⟨oc,od,oda,osl⟩,ol,hc,nl,hd⟩:=hl
    simp only at hc hd;subst hc;subst hd
    have ol':(s.heap.push (setO w)).get? l=some {cls:=.type "list",dict:=od,data:=.seq its nl,slots:=osl}:=Heap.get?_push_of_some _ ol
    have s1:=PySem.F.sub_list_set
    have s2:=PySem.F.sub_list_frozenset
    have ne:(Value.type "list" == Value.type "dict")=false:=by decide
    have l1:(s.heap.push (setO w)).IsList l its:=⟨_,ol',rfl,nl,rfl⟩
    unfold Builtin.«set.__init__» noKeywords Builtin.Frozenset.updateFrom
    generalize hp:pyIter=pI
    wp_walk
    subst hp
    refine wpAny_pyIter_list l1 (wpAny_bind (wpAny_runValue ?_))
    have ll:l<s.heap.objs.size:=Heap.lt_size ol
    have h3:A.in1.in1.in1.handled=none:=by simp[hh]
    have nI:l≠(s.heap.push (setO w)).objs.size:=by rw[Heap.size_push];exact Nat.ne_of_lt (Nat.lt_succ_of_lt ll)
    have nf:s.heap.objs.size∉[(s.heap.push (setO w)).objs.size,l]:=by
     rw[Heap.size_push];simp only[List.mem_cons,List.not_mem_nil,or_false,not_or]
     exact⟨Nat.ne_of_lt (Nat.lt_succ_self _),Nat.ne_of_gt ll⟩
    have hv:∀(i:Nat) (v:Value),its[i]? = some v->∃t,v = .int ((fun i=>ns.getD i 0) i) t:=fun i v q=>IntsAre.int_at hi i v (by rw[Array.getElem?_toList];exact q)
    refine n1s ((Walks.list h3 _ l nI its).toS) s.heap.objs.size nf (fun i=>ns.getD i 0) hv hb (its.size - 0) 0 _ (by omega) (Nat.zero_le _) ⟨⟨_,Heap.get?_push_size _ rfl,rfl,rfl⟩,(l1.push _)⟩ ?st ?fin
    case st=>exact(e1h s.heap).kept fun o e=>Heap.get?_push_of_some _ e
    case fin =>
     intro z' m hS
     obtain⟨h',g',d',tk',os'⟩:=z'
     obtain rfl:g'=s.gens:=m.gens
     obtain rfl:d'=s.drawn:=m.drawn
     obtain rfl:os'=s.os:=m.os
     refine(show wpAny _ _ _ _ _ _ from wpAny_pure ?_)
     refine(show wpAny _ _ (ret Value.none) _ _ _ from wpAny_pure ⟨rfl,h',tk',rfl,hS,fun b o e=>?_⟩)
     have lb:=Heap.lt_size e
     refine m.heap b o ?_ (Heap.get?_push_of_some _ (Heap.get?_push_of_some _ e))
     rw[Heap.size_push];simp only[List.mem_cons,List.not_mem_nil,or_false,not_or]
     exact⟨Nat.ne_of_lt lb,Nat.ne_of_lt (Nat.lt_succ_of_lt lb)⟩
   ·cases r2 with
    | error e=>exact hr2
    | ok f2 =>
     cases f2 with
     | ret r =>
      obtain⟨rfl,h',tk,rfl,hS,hk⟩:=hr2
      repeat (any_goals (first | assumption | wp_step))
      exact h _ _ hS hk
     | _=>exact hr2.elim
  | _=>exact hr.elim
end
end L2
set_option maxHeartbeats 1000000
namespace L2
open PySem PySem.Spec PyProof.Rows
theorem d0u:Slot "set_iterator" "__next__" "set_iterator.__next__" :=
 .of (owner := "set_iterator") (n := "__next__") (by rw[typeLookup_type,builtinLookup_eq_fast];kernel_rfl) (by decide +kernel) (by decide +kernel) (by decide +kernel) (by first | exact .inl (by decide +kernel) | exact .inr (by decide +kernel)) (by rw[isSubtype_type];kernel_rfl)
theorem k0d:entryFor table "set_iterator.__next__" = some Builtin.«set_iterator.__next__»:=entryFor_of_tree (by kernel_rfl)
theorem k0w:Slot "set_iterator" "__iter__" "set_iterator.__iter__" :=
 .of (owner := "set_iterator") (n := "__iter__") (by rw[typeLookup_type,builtinLookup_eq_fast];kernel_rfl) (by decide +kernel) (by decide +kernel) (by decide +kernel) (by first | exact .inl (by decide +kernel) | exact .inr (by decide +kernel)) (by rw[isSubtype_type];kernel_rfl)
theorem s0n:entryFor table "set.__iter__" = some Builtin.«frozenset.__iter__»:=entryFor_alias (id' := "frozenset.__iter__") (by kernel_rfl) rfl (by decide +kernel) (by kernel_rfl)
theorem k0p {α:Type}:∀(l:List α) (i:Nat) (h:i<l.length),(l[i]::l.eraseIdx i).Perm l
 | a::l,0,_=>.refl _
 | a::l,i+1,h=>(List.Perm.swap _ _ _).trans (List.Perm.cons a (k0p l i (by simpa using h)))
theorem a1p {α:Type}(f:Nat->Nat):∀(n k:Nat) (l:List α) (o:Array α),l.length=n->List.Perm (pickOrder.go f n k l o).toList (o.toList++l)
 | 0,k,l,o,h=>by
  obtain rfl:l=[]:=List.eq_nil_of_length_eq_zero h
  unfold pickOrder.go;simp
 | n+1,k,l,o,h=>by
  unfold pickOrder.go
  have lt:f k % l.length<l.length:=Nat.mod_lt _ (by omega)
  rw[List.getElem?_eq_getElem lt]
  dsimp only
  refine(a1p f n (k+1) _ _ (by rw[List.length_eraseIdx_of_lt lt];omega)).trans ?_
  rw[Array.toList_push,List.append_assoc]
  exact List.Perm.append_left _ (k0p l _ lt)
theorem a1o {α:Type}(f:Nat->Nat)(xs:Array α):List.Perm (pickOrder f xs).toList xs.toList:=by
 have:=a1p f xs.size 0 xs.toList #[] (by simp)
 simpa [pickOrder] using this
theorem o0h:∀ {ks ms:List Int},ks.Nodup->(∀k∈ks,k∈ms)->ms.length=ks.length->ms.Perm ks
 | [],ms,_,_,h=>by rw[List.eq_nil_of_length_eq_zero h]
 | k::ks,ms,hn,hm,h=>by
  obtain⟨h1,h2⟩:=List.nodup_cons.mp hn
  have hk:=hm k (.head _)
  have p:=List.perm_cons_erase hk
  refine p.trans (List.Perm.cons k (o0h h2 (fun j hj=>?_) ?_))
  ·have ne:j≠k:=fun e=>h1 (by rw[<- e];exact hj)
   exact(List.mem_erase_of_ne ne).mpr (hm j (.tail _ hj))
  ·rw[List.length_erase_of_mem hk,h];simp
section
variable {P:Program}{w:World}{A:Around}{E:Value->Shared->Prop}{s:Shared}
theorem y0y {src:Source}{n:Nat}{Q:Nat->Shared->Prop}(hn:n≠0)(h:∀i d,i<n->Q i {s with drawn:=d}):wpAny (model P w) A (choose src n) Q E s:=by
 intro Γ p hΓ
 unfold choose
 simp only[Sem.wp]
 exact⟨hn,h _ _ (Nat.mod_lt _ (Nat.pos_of_ne_zero hn))⟩
theorem v0p {α:Type}:∀(n:Nat) (xs:List α) {s:Shared} {Q:List α->Shared->Prop},xs.length=n->(∀ys d,ys.Perm xs->Q ys {s with drawn:=d})->wpAny (model P w) A (drawOrder n xs) Q E s
 | 0,xs,s,Q,hl,h=>by
  obtain rfl:xs=[]:=List.eq_nil_of_length_eq_zero hl
  unfold drawOrder
  exact wpAny_pure (h [] s.drawn (.refl _))
 | n+1,x::xs,s,Q,hl,h=>by
  unfold drawOrder
  refine wpAny_bind (y0y (by simp) fun i d hi=>?_)
  rw[List.getElem?_eq_getElem hi]
  refine wpAny_bind (v0p n _ (by rw[List.length_eraseIdx_of_lt hi,hl];rfl) fun ys d' hp=>?_)
  exact wpAny_pure (h _ d' ((List.Perm.cons _ hp).trans (k0p _ i hi)))
theorem g1m {s:Shared}{Q:Value->Shared->Prop}{R:Value->Shared->Prop}{α:Type}{q:α->Shared->Prop}(hh:A.handled=none)(h:∀x h',(∀b o,s.heap.get? b=some o->h'.get? b=some o)->({s with heap:=h'}:Shared).TypeIs x "StopIteration" -> R x {s with heap:=h'}) :
  wpAny (model P w) A (newExc (.type "StopIteration") []>>=fun x=>(raiseNew x:Sem α)) q R s:=by
 have ho:∃n,n<=10/\(ownMembersOf (Value.type "StopIteration") []).size=n:=by
  first
  | exact⟨_,by decide,rfl⟩
  | exact⟨(ownMembersOf (Value.type "StopIteration") []).size,by decide +kernel,rfl⟩
 obtain⟨no,hno,eno⟩:=ho
 refine wpAny_bind (wpAny_bind (wpAny_newObj_type (wpAny_bind (wpAny_of_eq rfl (wpAny_newObj_type ?_ (by first | trivial | (unfold sizeOk;trivial) | (simp[sizeOk,sizeLine_eq,eno];omega) | (simp only[sizeOk,Array.size_append,eno,sizeLine_eq];simp;omega))))) (by show 0<=sizeLine;decide)))
 refine wpAny_bind (wpAny_handled ?_)
 rw[hh]
 refine wpAny_bind (wpAny_pure (wpAny_throw (h _ _ (fun b o q=>Heap.get?_push_of_some _ (Heap.get?_push_of_some _ q)) ?_)))
 exact⟨_,Heap.get?_push_size _ rfl,rfl⟩
def itO (f:Value)(i:Nat)(S:Addr)(n ep:Nat):Obj:={cls:=.type "set_iterator",data:=.fields #[f,rawInt (i:Nat),.ref S,rawInt (n:Nat),rawInt (ep:Nat)]}
variable {I S:Addr}{o:Obj}{es:Array (Int×Value)}{ep:Nat}{t:SetTable}
theorem w0p {f i:Nat}{r:Option (Value×Nat)}{Q:Option Value->Shared->Prop}(hh:A.handled=none)(hI:s.heap.get? I=some (itO (rawInt (f:Nat)) i S es.size ep))(hS:s.heap.get? S=some o)(hd:o.data = .set es ep t)(hf:t.fits es.size=true)
  (hn:∀(A:Around) (E:Value->Shared->Prop) (q:Option (Value×Nat)->Shared->Prop),q r s->wpAny (model P w) A (setNext S f i ep) q E s)
  (hq:∀x k h',r=some (x,k)->h'.get? I=some (itO (rawInt (k:Nat)) (i+1) S es.size ep)->(∀b o,b≠I->s.heap.get? b=some o->h'.get? b=some o)->Q (some x) {s with heap:=h'})
  (he:∀h',r=none->(∀b o,b≠I->s.heap.get? b=some o->h'.get? b=some o)->Q none {s with heap:=h'}):wpAny (model P w) A (pyNext (.ref I)) Q E s:=by
 have hT:s.TypeIs (.ref I) "set_iterator" := by
  first
  | exact⟨_,hI,rfl⟩
  | exact⟨_,_,hI,rfl⟩
 refine wpAny_bind (wpAny_attempt (wpAny_callSpecial?_slot hT d0u (wpAny_call_entry d0u hT k0d (wpAny_bind (wpAny_pure (wpAny_bind (wpAny_fieldsOf hI rfl ?_)))))))
 show wpAny _ _ (setEntries S>>=_) _ _ _
 refine wpAny_bind (wpAny_setEntries_of hS hd hf ?_)
 show wpAny _ _ (ite (((es.size:Int) != (es.size:Int))=true) _ _) _ _ _
 rw[if_neg (by simp)]
 show wpAny _ _ (setNext S f i ep>>=_) _ _ _
 refine wpAny_bind (hn _ _ _ ?_)
 cases r with
 | some p =>
  obtain⟨x,k⟩:=p
  refine wpAny_bind (wpAny_setField_rec hI (by show 0<5;decide) fun h1 g1 sb1=>?_)
  refine wpAny_bind (wpAny_setField_rec g1 (by show 1<5;decide) fun h2 g2 sb2=>?_)
  exact wpAny_pure ⟨_,rfl,wpAny_pure (hq x k h2 rfl g2 fun b o hb q=>(sb2.2 b hb).trans ((sb1.2 b hb).trans q))⟩
 | none =>
  refine wpAny_bind (wpAny_setField_rec hI (by show 2<5;decide) fun h1 g1 sb1=>?_)
  refine g1m (Q:=fun _ _=>True) (by exact hh) fun x h' hk hx=>?_
  refine wpAny_bind (wpAny_isInstance (T := "StopIteration") hx isSubtype_stop (wpAny_pure (he h' rfl fun b o hb q=>hk b o ((sb1.2 b hb).trans q))))
theorem o0k {T:Addr}{i:Nat}{ps:List Nat}{Q:Option Value->Shared->Prop}(hh:A.handled=none)(hI:s.heap.get? I=some (itO (.ref T) i S es.size ep))(hT2:s.heap.get? T=some {cls:=.type "tuple",data:=.seq (ps.map fun p=>rawInt (p:Nat)).toArray})(hS:s.heap.get? S=some o)(hd:o.data = .set es ep t)(hf:t.fits es.size=true)
  (hq:∀p e h',ps[i]? = some p->es[p]? = some e->h'.get? I=some (itO (.ref T) (i+1) S es.size ep)->(∀b o,b≠I->s.heap.get? b=some o->h'.get? b=some o)->Q (some e.2) {s with heap:=h'}) (hp:∀p∈ps,p<es.size)
  (he:∀h',ps[i]? = none->(∀b o,b≠I->s.heap.get? b=some o->h'.get? b=some o)->Q none {s with heap:=h'}):wpAny (model P w) A (pyNext (.ref I)) Q E s:=by
 have hT:s.TypeIs (.ref I) "set_iterator" := by
  first
  | exact⟨_,hI,rfl⟩
  | exact⟨_,_,hI,rfl⟩
 refine wpAny_bind (wpAny_attempt (wpAny_callSpecial?_slot hT d0u (wpAny_call_entry d0u hT k0d (wpAny_bind (wpAny_pure (wpAny_bind (wpAny_fieldsOf hI rfl ?_)))))))
 show wpAny _ _ (setEntries S>>=_) _ _ _
 refine wpAny_bind (wpAny_setEntries_of hS hd hf ?_)
 show wpAny _ _ (ite (((es.size:Int) != (es.size:Int))=true) _ _) _ _ _
 rw[if_neg (by simp)]
 show wpAny _ _ (seqItems? (.ref T)>>=_) _ _ _
 refine wpAny_bind (wpAny_seqItems hT2 rfl ?_)
 dsimp only
 rw[List.getElem?_toArray,Int.toNat_natCast,List.getElem?_map]
 cases hx:ps[i]? with
 | some p =>
  have lp:=hp p (List.mem_of_getElem? hx)
  have ge:es[p]? = some es[p]:=Array.getElem?_eq_getElem lp
  show wpAny _ _ (setNextDrawn S p ep>>=_) _ _ _
  refine wpAny_bind ?_
  unfold setNextDrawn
  refine wpAny_bind (wpAny_setState_of hS hd hf ?_)
  show wpAny _ _ (ite ((ep != ep)=true) _ _) _ _ _
  rw[if_neg (by simp)]
  show wpAny _ _ (match es[p]? with | some (_,x)=>pure x | _=>_) _ _ _
  rw[ge]
  refine wpAny_pure ?_
  refine wpAny_bind (wpAny_setField_rec hI (by show 1<5;decide) fun h1 g1 sb1=>?_)
  exact wpAny_pure ⟨_,rfl,wpAny_pure (hq p es[p] h1 hx ge g1 fun b o hb q=>(sb1.2 b hb).trans q)⟩
 | none =>
  show wpAny _ _ (setField (.ref I) 0 (rawInt 0)>>=_) _ _ _
  refine wpAny_bind (wpAny_setField_rec hI (by show 0<5;decide) fun h1 g1 sb1=>?_)
  refine wpAny_bind (wpAny_setField_rec g1 (by show 2<5;decide) fun h2 g2 sb2=>?_)
  refine g1m (Q:=fun _ _=>True) (by exact hh) fun x h' hk hx'=>?_
  exact wpAny_bind (wpAny_isInstance (T := "StopIteration") hx' isSubtype_stop (wpAny_pure (he h' hx fun b o hb q=>hk b o ((sb2.2 b hb).trans ((sb1.2 b hb).trans q)))))
theorem i1e {f i:Nat}{Q:Option (Value×Nat)->Shared->Prop}(hb:byT w=true)(hS:s.heap.get? S=some o)(hd:o.data = .set es ep t)(hf:t.fits es.size=true)
  (h:Q (((pickOrder (w.params.setOrder S ep) es)[i]?).map fun e=>(e.2,f)) s):wpAny (model P w) A (setNext S f i ep) Q E s:=by
 unfold byT at hb
 unfold setNext setsByText
 refine wpAny_bind (wpAny_setState_of hS hd hf ?_)
 refine wpAny_bind (wpAny_bind (wpAny_askSetting (wpAny_pure ?_)))
 show wpAny _ _ (ite (w.params.followText "set-order" = true) _ _) _ _ _
 rw[if_pos hb]
 show wpAny _ _ (ite ((ep != ep)=true) _ _) _ _ _
 rw[if_neg (by simp)]
 unfold setWalk setsByText
 refine wpAny_bind (wpAny_bind (wpAny_setState_of hS hd hf ?_))
 refine wpAny_bind (wpAny_bind (wpAny_askSetting (wpAny_pure ?_)))
 show wpAny _ _ (ite (w.params.followText "set-order" = true) _ _) _ _ _
 rw[if_pos hb]
 exact wpAny_bind (wpAny_askSetting (wpAny_pure (wpAny_pure h)))
theorem i1f {f i:Nat}{Q:Option (Value×Nat)->Shared->Prop}(hb:byT w=false)(hp:(!t.plain&&decide (es.size > 1))=false)(hl:t.led=true)(hS:s.heap.get? S=some o)(hd:o.data = .set es ep t)(hf:t.fits es.size=true)
  (h:Q (match es[SetTable.below t.place f]?,t.place[SetTable.below t.place f]? with | some (_,x),some j=>some (x,j+1) | _,_=>none) s):wpAny (model P w) A (setNext S f i ep) Q E s:=by
 unfold byT at hb
 unfold setNext setsByText
 refine wpAny_bind (wpAny_setState_of hS hd hf ?_)
 refine wpAny_bind (wpAny_bind (wpAny_askSetting (wpAny_pure ?_)))
 show wpAny _ _ (ite (w.params.followText "set-order" = true) _ _) _ _ _
 rw[if_neg (by rw[hb];simp)]
 show wpAny _ _ (ite ((!t.plain&&decide (es.size > 1))=true) _ _) _ _ _
 rw[if_neg (by rw[hp];simp)]
 show wpAny _ _ (ite ((!t.led && !es.isEmpty)=true) _ (pure ())>>=_) _ _ _
 rw[if_neg (by rw[hl];simp)]
 exact wpAny_bind (wpAny_pure (wpAny_pure h))
end
theorem q0d:entryFor table "set_iterator.__iter__" = some Builtin.«dict_keyiterator.__iter__»:=entryFor_alias (id' := "dict_keyiterator.__iter__") (by kernel_rfl) rfl (by decide +kernel) (by kernel_rfl)
theorem c1n {α:Type}{es:Array α}:∀(ps:List Nat),(∀p∈ps,p<es.size)->(ps.filterMap fun p=>es[p]?).length=ps.length
 | [],_=>rfl
 | p::ps,h=>by
  rw[List.filterMap_cons,Array.getElem?_eq_getElem (h p (.head _))]
  simp[c1n ps fun q hq=>h q (.tail _ hq)]
theorem m1z {α:Type}{es:Array α}:∀(ps:List Nat),(∀p∈ps,p<es.size)->∀i:Nat,(ps.filterMap fun p=>es[p]?)[i]? = (ps[i]?).bind fun p=>es[p]?
 | [],_,i=>by simp
 | p::ps,h,i=>by
  rw[List.filterMap_cons,Array.getElem?_eq_getElem (h p (.head _))]
  cases i with
  | zero=>simp[h p (.head _)]
  | succ i=>simpa using m1z ps (fun q hq=>h q (.tail _ hq)) i
section
variable {P:Program}{w:World}{A:Around}{E:Value->Shared->Prop}{s:Shared}{I S:Addr}{o:Obj}{es:Array (Int×Value)}{ep:Nat}{t:SetTable}
theorem z0z {f:Value}{i n:Nat}{Q:Value->Shared->Prop}(hI:s.heap.get? I=some (itO f i S n ep))(h:Q (.ref I) s):wpAny (model P w) A (pyIter (.ref I)) Q E s:=by
 have hT:s.TypeIs (.ref I) "set_iterator" := by
  first
  | exact⟨_,hI,rfl⟩
  | exact⟨_,_,hI,rfl⟩
 refine wpAny_pyIter_slot hT k0w (wpAny_call_entry k0w hT q0d ?_)
 exact(show wpAny _ _ (ret (.ref I)) _ _ s from wpAny_pure ⟨_,rfl, "set_iterator",_,hT,d0u.lookup,h⟩)
theorem v0q (hh:A.handled=none)(hne:S≠I)(hd:o.data = .set es ep t)(hf:t.fits es.size=true)(vs:List Value)(nx:Nat->Nat)
  (hs:∀i (s:Shared),i<=vs.length->s.heap.get? S=some o->∀(A:Around) (E:Value->Shared->Prop) (q:Option (Value×Nat)->Shared->Prop),q ((vs[i]?).map fun x=>(x,nx (i+1))) s->wpAny (model P w) A (setNext S (nx i) i ep) q E s) :
  Walks P w A I [I,S] [I] vs.length (fun i v=>vs[i]? = some v) (fun i h=>h.get? I=some (itO (rawInt (nx i:Nat)) i S es.size ep)/\h.get? S=some o) where
 sub:=fun b hb=>by simp at hb;simp[hb]
 frame:=fun _ _ _ st hk=>⟨hk I (by simp) _ st.1,hk S (by simp) _ st.2⟩
 item:=fun i s Q E hi st hQ=>by
  have gv:vs[i]? = some vs[i]:=List.getElem?_eq_getElem hi
  refine w0p hh st.1 st.2 hd hf (hs i s (by omega) st.2) (fun x k h' e g kp=>?_) (fun h' e=>?_)
  ·rw[gv]at e
   simp only[Option.map_some,Option.some.injEq,Prod.mk.injEq]at e
   obtain⟨rfl,rfl⟩:=e
   exact hQ _ h' s.toks gv ⟨g,kp S _ hne st.2⟩ fun b o hb q=>kp b o (fun z=>hb (by simp[z])) q
  ·rw[gv]at e;cases e
 done:=fun s Q E st hQ=>by
  have gn:vs[vs.length]? = none:=by simp
  refine w0p hh st.1 st.2 hd hf (hs vs.length s (Nat.le_refl _) st.2) (fun x k h' e g kp=>?_) (fun h' e kp=>?_)
  ·rw[gn]at e;cases e
  ·exact hQ h' s.toks fun b o hb q=>kp b o (fun z=>hb (by simp[z])) q
 self:=fun _ _ _ _ st hQ=>z0z st.1 hQ
theorem x0j {T:Addr}(hh:A.handled=none)(hne:S≠I)(hn2:T≠I)(hd:o.data = .set es ep t)(hf:t.fits es.size=true)(ps:List Nat)(hp:∀p∈ps,p<es.size)(hl:ps.length=es.size) :
  Walks P w A I [I,S,T] [I] (ps.filterMap fun p=>es[p]?).length (fun i v=>(((ps.filterMap fun p=>es[p]?).map (·.2))[i]? = some v)) (fun i h=>h.get? I=some (itO (.ref T) i S es.size ep)/\h.get? S=some o/\h.get? T=some {cls:=.type "tuple",data:=.seq (ps.map fun p=>rawInt (p:Nat)).toArray}) where
 sub:=fun b hb=>by simp at hb;simp[hb]
 frame:=fun _ _ _ st hk=>⟨hk I (by simp) _ st.1,hk S (by simp) _ st.2.1,hk T (by simp) _ st.2.2⟩
 item:=fun i s Q E hi st hQ=>by
  have fm:=m1z ps hp
  refine o0k hh st.1 st.2.2 st.2.1 hd hf (fun p e h' e1 e2 g kp=>?_) hp (fun h' e=>?_)
  ·refine hQ _ h' s.toks ?_ ⟨g,kp S _ hne st.2.1,kp T _ hn2 st.2.2⟩ fun b o hb q=>kp b o (fun z=>hb (by simp[z])) q
   rw[List.getElem?_map,fm,e1]
   simp[e2]
  ·have:ps.length<=i:=List.getElem?_eq_none_iff.mp e
   rw[c1n ps hp]at hi
   omega
 done:=fun s Q E st hQ=>by
  refine o0k hh st.1 st.2.2 st.2.1 hd hf (fun p e h' e1 e2 g kp=>?_) hp (fun h' e kp=>?_)
  ·rw[c1n ps hp]at e1
   simp at e1
  ·exact hQ h' s.toks fun b o hb q=>kp b o (fun z=>hb (by simp[z])) q
 self:=fun _ _ _ _ st hQ=>z0z st.1 hQ
end
def nxS (t:SetTable):Nat->Nat
 | 0=>0
 | k+1=>t.place.getD k 0+1
section
variable {P:Program}{w:World}{A:Around}{E:Value->Shared->Prop}{s:Shared}{I S:Addr}{o:Obj}{es:Array (Int×Value)}{ep:Nat}{t:SetTable}
theorem u0k:∀ {l:List (Int×Value)},ElemsOf (intKind P w) l->∃ms,IntsAre (l.map (·.2)) ms/\∀k,k∈ms↔∃e∈l,(intKind P w).is k e.2=true
 | [],_=>⟨[],.nil,fun k=>by simp⟩
 | e::l,h=>by
  obtain⟨ms,h1,h2⟩:=u0k h.tail
  obtain⟨⟨k,hk,_⟩,_⟩:=h.head
  obtain⟨tk,ev⟩:=Value.isInt_shape hk
  refine⟨k::ms,by rw[List.map_cons,ev];exact .cons k tk h1,fun j=>?_⟩
  rw[List.mem_cons,h2 j]
  constructor
  ·rintro(rfl | ⟨y,hy,q⟩)
   ·exact⟨e,.head _,hk⟩
   ·exact⟨y,.tail _ hy,q⟩
  ·rintro⟨y,hy,q⟩
   rcases List.mem_cons.mp hy with rfl | hy
   ·exact .inl ((intKind P w).inj _ j k q hk)
   ·exact .inr ⟨y,hy,q⟩
theorem m1n {ks:List Int}{Q:Value->Shared->Prop}(hh:A.handled=none)(hS:SetI P w s.heap S ks)(hk:ks.Nodup)
  (h:∀h' d I fp vs ms St,(∀b o,s.heap.get? b=some o->h'.get? b=some o)->IntsAre vs ms->ms.Perm ks->Walks P w A I fp [I] vs.length (fun i v=>vs[i]? = some v) St->St 0 h'->(∀b∈fp,b=S∨s.heap.objs.size<=b)->s.heap.objs.size<=I->Q (.ref I) {s with heap:=h',drawn:=d}) :
  wpAny (model P w) A (pyIter (.ref S)) Q E s:=by
 obtain⟨o,es,ep,t,ho,ex,d,el,me,bd,fi,le,ld⟩:=hS
 obtain⟨⟨oc,od,oda,osl⟩,ho,ex,d⟩:∃o:Obj,s.heap.get? S=some o/\o.ExactSet/\o.data = .set es ep t:=⟨o,ho,ex,d⟩
 have hT:s.TypeIs (.ref S) "set" := ⟨_,ho,ex.1⟩
 have hlt:S<s.heap.objs.size:=Heap.lt_size ho
 obtain⟨ms,m1,m2⟩:=u0k el
 have mp:∀ {l:List (Int×Value)},l.Perm es.toList->∃ms',IntsAre (l.map (·.2)) ms'/\ms'.Perm ks:=fun{l} q=>by
  obtain⟨ms',a1,a2⟩:=u0k (el.perm q)
  have hl:ms'.length=ks.length:=by
   have:=IntsAre.length a1
   rw[List.length_map,q.length_eq,Array.length_toList]at this
   omega
  refine⟨ms',a1,o0h hk (fun k kk=>?_) hl⟩
  obtain⟨e,he,z⟩:=(me k).mp kk
  exact(a2 k).mpr ⟨e,q.mem_iff.mpr he,z⟩
 refine wpAny_pyIter_slot hT PySem.F.slot_set_iter (wpAny_call_entry PySem.F.slot_set_iter hT s0n ?_)
 unfold Builtin.«frozenset.__iter__» Builtin.Frozenset.slot0
 refine wpAny_bind (wpAny_bind (wpAny_pure (wpAny_pure ?_)))
 unfold Builtin.Frozenset.sizeOf
 refine wpAny_bind (wpAny_bind (wpAny_setEntries_of ho d fi (wpAny_pure ?_)))
 unfold setDrawn setsByText
 refine wpAny_bind (wpAny_bind (wpAny_setState_of ho d fi (wpAny_bind (wpAny_bind (wpAny_askSetting (wpAny_pure (wpAny_pure ?_)))))))
 show wpAny _ _ (ite ((!byT w&&(!t.plain&&decide (es.size > 1)))=true) (drawOrder es.size (List.range es.size)>>=_) _) _ _ _
 have hz:es.size<=sizeLine:=fits_of_scanBound bd
 have fin:∀(f:Value) (h1:Heap) (dr:Drawn) (fp:List Addr) (vs:List Value) (ms:List Int) (St:Nat->Heap->Prop),(∀b o,s.heap.get? b=some o->h1.get? b=some o)->s.heap.objs.size<=h1.objs.size->IntsAre vs ms->ms.Perm ks ->
   Walks P w A h1.objs.size fp [h1.objs.size] vs.length (fun i v=>vs[i]? = some v) St->St 0 (h1.push (itO f 0 S es.size ep))->(∀b∈fp,b=S∨s.heap.objs.size<=b) ->
   wpAny (model P w) A.in1 (do let e <- setEpoch S;let x <- newFields "set_iterator" [f,rawInt 0,Value.ref S,rawInt (es.size:Nat),rawInt (e:Nat)];ret x) (fun fin s'=>∃v,fin=Fin.done (Flow.ret v)/\∃T' r,s'.TypeIs v T'/\typeLookup (Value.type T') (Str.ofString "__next__")=pure (some r)/\Q v s') E {s with heap:=h1,drawn:=dr}:=by
  intro f h1 dr fp vs ms St k1 k2 a1 a2 W st hb
  refine wpAny_bind (wpAny_setEpoch_of (s:={s with heap:=h1,drawn:=dr}) (k1 _ _ ho) d fi ?_)
  unfold newFields
  refine wpAny_bind (wpAny_newObj_type (wpAny_pure ⟨_,rfl, "set_iterator",_,⟨_,Heap.get?_push_size _ rfl,rfl⟩,d0u.lookup,?_⟩) (by show 5<=sizeLine+2;decide))
  exact h _ dr _ fp vs ms St (fun b o q=>Heap.get?_push_of_some _ (k1 b o q)) a1 a2 W st hb k2
 by_cases hdr:(!byT w&&(!t.plain&&decide (es.size > 1)))=true
 ·rw[if_pos hdr]
  refine wpAny_bind (v0p _ _ (by simp) fun ps dr hp=>?_)
  have lp:∀p∈ps,p<es.size:=fun p q=>List.mem_range.mp (hp.mem_iff.mp q)
  have ll:ps.length=es.size:=by rw[hp.length_eq];simp
  refine wpAny_bind (wpAny_newTuple ?_ (by rw[List.length_map,ll];exact hz))
  have pp:(ps.filterMap fun p=>es[p]?).Perm es.toList:=(hp.filterMap _).trans (by rw[filterMap_getElem?_range])
  obtain⟨ms',a1,a2⟩:=mp pp
  have nT:s.heap.objs.size≠(s.heap.push {cls:=.type "tuple",data:=.seq (ps.map fun i=>rawInt (i:Nat)).toArray}).objs.size:=by rw[Heap.size_push];exact Nat.ne_of_lt (Nat.lt_succ_self _)
  have nS:S≠(s.heap.push {cls:=.type "tuple",data:=.seq (ps.map fun i=>rawInt (i:Nat)).toArray}).objs.size:=by rw[Heap.size_push];exact Nat.ne_of_lt (Nat.lt_succ_of_lt hlt)
  have W:=x0j (P:=P) (w:=w) (A:=A) hh nS nT d fi ps lp ll
  have el2:(ps.filterMap fun p=>es[p]?).length=((ps.filterMap fun p=>es[p]?).map (·.2)).length:=by rw[List.length_map]
  rw[el2]at W
  refine fin (.ref s.heap.objs.size) _ dr [_,S,s.heap.objs.size] ((ps.filterMap fun p=>es[p]?).map (·.2)) ms' _ (fun b o q=>Heap.get?_push_of_some _ q) (by rw[Heap.size_push];exact Nat.le_succ _) a1 a2 W ⟨Heap.get?_push_size _ rfl,Heap.get?_push_of_some _ (Heap.get?_push_of_some _ ho),Heap.get?_push_of_some _ (Heap.get?_push_size _ rfl)⟩ fun b hb=>?_
  rcases List.mem_cons.mp hb with rfl | hb
  ·exact .inr (by rw[Heap.size_push];exact Nat.le_succ _)
  ·rcases List.mem_cons.mp hb with rfl | hb
   ·exact .inl rfl
   ·rw[List.mem_singleton.mp hb];exact .inr (Nat.le_refl _)
 ·rw[if_neg hdr]
  refine wpAny_bind (wpAny_pure ?_)
  have nS:S≠s.heap.objs.size:=Nat.ne_of_lt hlt
  have hfp:∀b∈[s.heap.objs.size,S],b=S∨s.heap.objs.size<=b:=fun b hb=>by
   rcases List.mem_cons.mp hb with rfl | hb
   ·exact .inr (Nat.le_refl _)
   ·exact .inl (List.mem_singleton.mp hb)
  cases hb:byT w with
  | true =>
   have pp:=a1o (w.params.setOrder S ep) es
   obtain⟨ms',a1,a2⟩:=mp pp
   refine fin (rawInt 0) s.heap s.drawn [s.heap.objs.size,S] _ ms' _ (fun b o q=>q) (Nat.le_refl _) a1 a2 (v0q hh nS d fi _ (fun _=>0) fun i z hi hz' A' E' q hq=>i1e hb hz' d fi ?_) ⟨Heap.get?_push_size _ rfl,Heap.get?_push_of_some _ ho⟩ hfp
   rw[List.getElem?_map,Array.getElem?_toList,Option.map_map]at hq
   exact hq
  | false =>
   obtain⟨l1,l2⟩:=ld hb
   rw[hb]at hdr
   have hpl:(!t.plain&&decide (es.size > 1))=false:=by
    cases z:(!t.plain&&decide (es.size > 1))with
    | false=>rfl
    | true=>rw[z]at hdr;exact absurd rfl hdr
   have sz:t.place.size=es.size:=by
    simp only[SetTable.fits,Bool.and_eq_true,beq_iff_eq]at fi
    exact fi.1
   obtain⟨ms',a1,a2⟩:=mp (l:=es.toList) (.refl _)
   refine fin (rawInt 0) s.heap s.drawn [s.heap.objs.size,S] _ ms' _ (fun b o q=>q) (Nat.le_refl _) a1 a2 (v0q hh nS d fi _ (nxS t) fun i z hi hz' A' E' q hq=>i1f hb hpl l1 hz' d fi ?_) ⟨Heap.get?_push_size _ rfl,Heap.get?_push_of_some _ ho⟩ hfp
   rw[List.length_map,Array.length_toList]at hi
   have hbl:SetTable.below t.place (nxS t i)=i:=by
    cases i with
    | zero=>exact y0t l2
    | succ k =>
     have lk:k<t.place.size:=by omega
     have:=y0u l2 lk
     simpa [nxS,Array.getD,lk] using this
   rw[hbl]
   rw[List.getElem?_map,Array.getElem?_toList]at hq
   by_cases hi':i<es.size
   ·have g1:es[i]? = some es[i]:=Array.getElem?_eq_getElem hi'
    have g2:t.place[i]? = some t.place[i]:=Array.getElem?_eq_getElem (by omega)
    rw[g1]at hq ⊢
    rw[g2]
    have e3:t.place.getD i 0=t.place[i]:=by simp[Array.getD,show i<t.place.size by omega]
    simp only[Option.map_some,nxS,e3]at hq
    exact hq
   ·have g1:es[i]? = none:=Array.getElem?_eq_none (by omega)
    rw[g1]at hq ⊢
    exact hq
end
section
variable {P:Program}{w:World}{A:Around}{E:Value->Shared->Prop}{s:Shared}{S:Addr}
theorem f1e {Q:Bool->Shared->Prop}(hT:s.TypeIs (.ref S) "set")(h:Q false s):wpAny (model P w) A (Builtin.List.listLengthHint (.ref S)) Q E s:=by
 unfold Builtin.List.listLengthHint
 refine wpAny_bind (wpAny_specialOf hT PySem.F.slot_set_len.lookup ?_)
 generalize hid:("set.__len__" : String)=id0
 wp_delta
 rw[show splitId id0=some ("set", "__len__")from by subst hid;decide +kernel]
 subst hid
 refine wpAny_bind (wpAny_isInstance (T := "set") (b:=true) hT (by rw[isSubtype_type];kernel_rfl) ?_)
 refine wpAny_ite_split (fun z=>absurd z (by decide)) (fun _=>wpAny_ite_split (fun _=>wpAny_bind (wpAny_typeOf hT (wpAny_pure h))) (fun z=>absurd (by decide +kernel) z))
theorem o1g {ks:List Int}{R:Result->Shared->Prop}(hh:A.handled=none)(hS:SetI P w s.heap S ks)(hk:ks.Nodup)(hz:ks.length<4096)(L:Addr)(hL:L≠S)(res:Value)(c:Nat)(gL:s.heap.get? L=some {cls:=.type "list",data:=.seq #[] c})
  (hR:∀h' tk dr acc c' ms,(∀b o,b≠L->s.heap.get? b=some o->h'.get? b=some o)->h'.get? L=some {cls:=.type "list",dict:=none,data:=.seq acc c',slots:=#[]}->IntsAre acc.toList ms->ms.Perm ks->R (.ok (.ret res)) {s with heap:=h',toks:=tk,drawn:=dr}) :
  wpAny (model P w) A.in1 (Builtin.List.listExtendWith (.ref L) (.ref S) res)
   (fun fin s'=>match fin with | .done f=>R (.ok f) s' | .again c'=>c'.quiet=true/\codeAny (model P w) A c' R s') (fun e s'=>R (.error e) s') s:=by
 have hT:s.TypeIs (.ref S) "set" := by
  obtain⟨o,_,_,_,ho,ex,_⟩:=hS
  exact⟨_,ho,ex.1⟩
 have lL:=Heap.lt_size gL
 unfold Builtin.List.listExtendWith
 refine wpAny_bind (wpAny_typeOf (T := "set") hT ?_)
 have h1:Builtin.List.listSameRef (.ref L) (.ref S)=false:=by simp[Builtin.List.listSameRef,hL]
 have h2:(Value.type "set" == Value.type "list")=false:=by decide
 have h3:(Value.type "set" == Value.type "tuple")=false:=by decide
 simp only[h1,h2,h3,Bool.or_false,Bool.false_eq_true,if_false]
 refine wpAny_bind (m1n (A:=A.in1) hh hS hk fun h' dr I fp vs ms St kp a1 a2 W st hb hI=>?_)
 have nf:L∉fp:=fun q=>by
  rcases hb L q with e | e
  ·exact hL e
  ·exact absurd lL (Nat.not_lt.mpr e)
 have vl:vs.length<=sizeLine:=by
  have:=IntsAre.length a1
  have:=a2.length_eq
  exact fits_of_scanBound (show vs.length<scanBound by unfold scanBound;omega)
 have key:∀(h:Heap) (c1:Nat),St 0 h->(∀b o,b≠L->s.heap.get? b=some o->h.get? b=some o)->h.get? L=some {cls:=.type "list",data:=.seq #[] c1} ->
   codeAny (model P w) A (.builtin "list.extend.loop" ⟨[.ref L,.ref I,res],[]⟩) R {s with heap:=h,drawn:=dr}:=by
  intro h c1 st' hk' gL'
  refine codeAny_extend_loopS W.toS vl L nf res vs.length 0 _ #[] c1 rfl (Nat.zero_le _) st' gL' (ItemsOf.nil _) fun z acc c2 hm gz ha=>?_
  rw[Moved.eq_with hm]
  refine hR z.heap z.toks dr acc c2 ms (fun b o hb' e=>hm.heap b o (fun q=>?_) (hk' b o hb' e)) gz ?_ a2
  ·rcases List.mem_cons.mp q with e' | q
   ·exact hb' e'
   ·have:=Heap.lt_size e
    rw[List.mem_singleton.mp q]at this
    exact absurd this (Nat.not_lt.mpr hI)
  ·have:acc.toList=vs:=by
    refine List.ext_getElem? fun j=>?_
    rw[Array.getElem?_toList]
    by_cases hj:j<acc.size
    ·have g:acc[j]? = some acc[j]:=Array.getElem?_eq_getElem hj
     rw[g];exact(ha.2 j _ g).symm
    ·have l2:=ha.1
     rw[Array.getElem?_eq_none (by omega),List.getElem?_eq_none (by omega)]
   rw[this];exact a1
 have g1:=kp _ _ gL
 refine wpAny_bind (wpAny_holding (f1e (s:={s with heap:=h',drawn:=dr}) (by obtain⟨o,ho,ec⟩:=hT;exact⟨o,kp _ _ ho,ec⟩) ?_))
 refine wpAny_ite_split (fun _=>?_) (fun _=>wpAny_pure ⟨plainId_quiet PySem.F.plain_extend_loop _,key _ c st (fun b o _ e=>kp b o e) g1⟩)
 refine wpAny_bind (wpAny_rule (wpAny_bind ?_))
 show wpAny _ _ (updateSeq L (·.push .none)>>=fun _=>updateSeq L (·.pop)) _ _ _
 refine wpAny_bind (wpAny_updateSeq g1 rfl ?_)
 have g2:=Heap.get?_update_self (Obj.mapSeq (·.push Value.none)) g1 rfl
 refine wpAny_updateSeq (hz:=by seq_fits) g2 rfl ?_
 have g3:=Heap.get?_update_self (Obj.mapSeq (·.pop)) g2 rfl
 refine wpAny_pure ⟨plainId_quiet PySem.F.plain_extend_loop _,key _ _ (W.frame 0 _ _ st fun b hb o e=>?_) (fun b o hb e=>?_) g3⟩
 ·have nb:L≠b:=fun z=>nf (z▸hb)
  exact(Heap.get?_update_other _ _ nb).trans ((Heap.get?_update_other _ _ nb).trans e)
 ·exact(Heap.get?_update_other _ _ (Ne.symm hb)).trans ((Heap.get?_update_other _ _ (Ne.symm hb)).trans (kp _ _ e))
theorem c1x {ks:List Int}{R:List Value->Shared->Prop}(hh:A.handled=none)(hS:SetI P w s.heap S ks)(hk:ks.Nodup)(hz:ks.length<4096)
  (h:∀h' tk dr vs ms,(∀b o,s.heap.get? b=some o->h'.get? b=some o)->s.heap.objs.size<=h'.objs.size->IntsAre vs ms->ms.Perm ks->R vs {s with heap:=h',toks:=tk,drawn:=dr}):wpAny (model P w) A (collect (.ref S)) R E s:=by
 have lS:S<s.heap.objs.size:=by obtain⟨o,_,_,_,ho,_⟩:=hS;exact Heap.lt_size ho
 unfold collect
 refine wpAny_bind (wpAny_runValue (codeAny_builtin entry_proto_collect' ?_))
 rw[Around.under_plainId PySem.F.plain_proto_collect _]
 refine(show wpAny _ A.in1 (newList []>>=fun l=>again (.builtin "list.__iadd__" ⟨[l,.ref S],[]⟩)) _ _ s from wpAny_bind (wpAny_newObj_type (wpAny_pure ⟨plainId_quiet PySem.F.plain_list_iadd _,codeAny_builtin entry_list_iadd' ?_⟩)))
 rw[Around.under_plainId PySem.F.plain_list_iadd _]
 have gL:(s.heap.push {cls:=.type "list",data:=.seq ([]:List Value).toArray}).get? s.heap.objs.size=some {cls:=.type "list",data:=.seq #[]}:=Heap.get?_push_size _ rfl
 show wpAny _ A.in1 (Builtin.List.listExtendWith (.ref s.heap.objs.size) (.ref S) (.ref s.heap.objs.size)) _ _ _
 have key:=o1g (A:=A) (s:={s with heap:=s.heap.push {cls:=.type "list",data:=.seq ([]:List Value).toArray}})
  (R:=fun(q:Result) (z:Shared)=>∃(h':Heap) (tk:Nat) (dr:Drawn) (acc:Array Value) (c':Nat) (ms:List Int),q = .ok (.ret (.ref s.heap.objs.size))/\z={s with heap:=h',toks:=tk,drawn:=dr}/\(∀b o,s.heap.get? b=some o->h'.get? b=some o)/\h'.get? s.heap.objs.size=some {cls:=.type "list",dict:=none,data:=.seq acc c',slots:=#[]}/\IntsAre acc.toList ms/\ms.Perm ks)
  hh (hS.kept fun o e=>Heap.get?_push_of_some _ e) hk hz s.heap.objs.size (Nat.ne_of_gt lS) (.ref s.heap.objs.size) 0 gL
  (fun h' tk dr acc c' ms k1 g a1 a2=>⟨h',tk,dr,acc,c',ms,rfl,rfl,fun b o e=>k1 b o (Nat.ne_of_lt (Heap.lt_size e)) (Heap.get?_push_of_some _ e),g,a1,a2⟩)
 refine wpAny_mono key (fun fin z x=>?_) fun e z x=>?_
 ·cases fin with
  | done f =>
   obtain⟨h',tk,dr,acc,c',ms,e,rfl,k1,g,a1,a2⟩:=x
   cases e
   exact(show wpAny _ A (load s.heap.objs.size>>=_) _ _ _ from wpAny_bind (wpAny_load g (wpAny_pure (h h' tk dr _ ms k1 (Nat.le_of_lt (Heap.lt_size g)) a1 a2))))
  | again c1 =>
   refine⟨x.1,codeAny_mono x.2 fun q z2 y=>?_⟩
   obtain⟨h',tk,dr,acc,c',ms,rfl,rfl,k1,g,a1,a2⟩:=y
   exact(show wpAny _ A (load s.heap.objs.size>>=_) _ _ _ from wpAny_bind (wpAny_load g (wpAny_pure (h h' tk dr _ ms k1 (Nat.le_of_lt (Heap.lt_size g)) a1 a2))))
 ·obtain⟨_,_,_,_,_,_,e',_⟩:=x
  cases e'
theorem l1c {ks:List Int}{Q:Value->Shared->Prop}(hh:A.handled=none)(hS:SetI P w s.heap S ks)(hk:ks.Nodup)(h64:ks.length<64)
  (h:∀h' tk dr D out e ns',(∀b o,s.heap.get? b=some o->h'.get? b=some o)->s.heap.objs.size<=D->h'.get? D=some (seqObj "list" out e)->IntsAre out.toList ns'->ns'.Perm ks->ns'.Pairwise (· <= ·)->Q (.ref D) {s with heap:=h',toks:=tk,drawn:=dr}) :
  wpAny (model P w) A (call (.builtin "sorted") [.ref S]) Q E s:=by
 refine Calls.call_function_entry kind_sorted plain_sorted entry_sorted (args_sorted1 _) ?_
 unfold Builtin.«sorted»
 refine wpAny_bind (m:=checkCount "sorted" 1 1 _) (wpAny_pure ?_)
 refine wpAny_bind (c1x (A:=A.in1) hh hS hk (by omega) fun h' tk dr vs ms k1 sz a1 a2=>?_)
 have l1:vs.length<64:=by
  have:=IntsAre.length a1
  have:=a2.length_eq
  omega
 refine wpAny_bind (wpAny_newList ?_ (fits_of_scanBound (by unfold scanBound;omega)))
 have gD:(h'.push (seqObj "list" vs.toArray 0)).get? h'.objs.size=some (seqObj "list" vs.toArray 0):=Heap.get?_push_size _ rfl
 refine wpAny_bind (wpAny_holding (wpAny_call_entry slot_list_sort ⟨_,gD,rfl⟩ entry_list_sort (list_sort_tree (s:={s with heap:=h'.push (seqObj "list" vs.toArray 0),toks:=tk,drawn:=dr}) gD a1 l1 fun out ns' b1 b2 b3=>⟨_,rfl,?_⟩) (args_list_sort _)))
 obtain⟨e,ge⟩:=sortedHeap_at (out:=out) gD
 refine wpAny_pure ⟨_,rfl,h _ tk dr h'.objs.size out e ns' (fun b o q=>?_) sz ge b1 (b2.trans a2) b3⟩
 have lb:=Heap.lt_size (k1 b o q)
 rw[sortedHeap_old (Nat.ne_of_lt lb) (by rw[size_push'];exact Nat.lt_succ_of_lt lb)]
 exact Heap.get?_push_of_some _ (k1 b o q)
end
theorem Inv.drawn {X:Cx}{pins:List (Addr×Obj)}{σ:List (Option V)}{H:Hp}{s:Shared}(I:Inv X pins σ H s)(d:Drawn):Inv X pins σ H {s with drawn:=d} :=
 ⟨I.ok,I.os,I.bare,I.base,I.loc,I.cell,I.free,I.freeC,I.pin,I.hok,I.len⟩
theorem b1m (f:Nat->Int):∀(n:Nat) (k:Int),k∈firstMet f n↔∃i,i<n/\f i=k
 | 0,k=>by simp[firstMet_zero]
 | n+1,k=>by
  rw[firstMet_succ,n1b,b1m f n k]
  constructor
  ·rintro(⟨i,h,e⟩ | rfl)
   ·exact⟨i,by omega,e⟩
   ·exact⟨n,by omega,rfl⟩
  ·rintro⟨i,h,e⟩
   by_cases z:i=n
   ·subst z;exact .inr e.symm
   ·exact .inl ⟨i,by omega,e⟩
theorem j0s (f:Nat->Int):∀n,(firstMet f n).Nodup
 | 0=>by simp[firstMet_zero]
 | n+1=>by
  rw[firstMet_succ]
  by_cases h:f n∈firstMet f n
  ·rw[n1c h];exact j0s f n
  ·rw[h1f h,List.nodup_append]
   refine⟨j0s f n,by simp,fun a ha b hb e=>h ?_⟩
   rw[List.mem_singleton.mp hb]at e
   exact e▸ha
theorem i1y (ns:List Int)(k:Int):k∈firstMet (fun i=>ns.getD i 0) ns.length↔k∈ns:=by
 rw[b1m]
 constructor
 ·rintro⟨i,h,e⟩
  rw[List.getD_eq_getElem?_getD,List.getElem?_eq_getElem h]at e
  rw[<- e];exact List.getElem_mem h
 ·intro h
  obtain⟨i,hi,e⟩:=List.getElem_of_mem h
  exact⟨i,hi,by rw[List.getD_eq_getElem?_getD,List.getElem?_eq_getElem hi];exact e⟩
def v0u (K:PySem.W.Frag)(ta:TA):TE:=fun σ H Q=>ta σ H fun vs H1=>∃(p:Addr) (ns:List Int),vs=[.ref p]/\SqL K H1 p (ns.map V.int)/\ns.length<64/\∀ns':List Int,ns'.Pairwise (· < ·)->(∀x,x∈ns'↔x∈ns)->∀l,H1 l=none->Q (.ref l) (upd H1 l (.lst (ns'.map V.int)))
theorem x0u (K:PySem.W.Frag){X:Cx}{a:Expr}{ta:TA}{p p2 pos pos2:Pos}(hc:X.calm=true)(hg1:Gl X "sorted")(hm1:X.mg "sorted" = none)(hg:Gl X "set")(hm:X.mg "set" = none)(ha:PA X [a] ta)(hK:X.K=K:=by rfl)
  (ho:starEach [.Call (.Name "set" p2) [a] [] pos2] X.env=[(false,eval (.Call (.Name "set" p2) [a] [] pos2) X.env)]:=by rfl) (hs:starEach [a] X.env=[(false,eval a X.env)]:=by rfl) (hpl:(backTo pos (starEach [] X.env)).any (·.1)=false:=by rfl) :
  PE X (.Call (.Name "sorted" p) [.Call (.Name "set" p2) [a] [] pos2] [] pos) (v0u K ta):=by
 subst hK
 intro pins s σ H Q I h
 refine Call_ (g0m I hg1 hm1 k0h ?_)
 refine PyProof.Rows.callWith_builtin1 ?_ (by rw[ho];rfl) hpl
 rw[ho]
 show wpAny _ _ (spliced [(false,eval (.Call (.Name "set" p2) [a] [] pos2) X.env)]) _ _ s
 refine Calls.spliced_cons ?_
 refine Call_ (g0m I hg hm h1g (PyProof.Rows.callWith_type1 (thn (ha pos2 pins s σ H _ I h) fun us s1 ⟨vs,H1,I1,r1,q1⟩=>?_) hs rfl))
 obtain⟨l,ns,rfl,hq,hn,q⟩:=q1
 obtain⟨u,rfl,ru⟩:=i0q r1
 cases ru
 obtain⟨its,rv,pl,hz⟩:=I1.list hq
 have hl:its.length=ns.length:=by have:=rv.length;rw[List.length_map]at this;omega
 refine n1v (I1.ok.hd hc) pl.isList (i0m rv) (by rw[List.size_toArray,hl];show _<4096;omega) fun h' tk hS hk=>Calls.spliced_nil ?_
 rw[show its.toArray.size=ns.length by rw[List.size_toArray,hl]]at hS
 have hle:=firstMet_length_le (fun i=>ns.getD i 0) ns.length
 refine l1c (s:={s1 with heap:=h',toks:=tk}) (by exact I1.ok.hd hc) hS (j0s _ _) (by omega) fun h2 tk2 dr D out e ns' k2 sz ge b1 b2 b3=>?_
 have hlen:ns'.length<64:=by rw[b2.length_eq];omega
 have I2:Inv X pins σ H1 {s1 with heap:=h',toks:=tk}:=I1.kept (t':=tk) hk
 have hst:ns'.Pairwise (· < ·):=by
  have nd:ns'.Nodup:=b2.nodup_iff.mpr (j0s _ _)
  exact(List.Pairwise.and b3 nd).imp fun{a b} z=>by have h1:=z.1;have h2:=z.2;omega
 have hm':∀x,x∈ns'↔x∈ns:=fun x=>by rw[b2.mem_iff];exact i1y ns x
 have I3:=(I2.laid (t':=tk2) (o:=.lst (ns'.map V.int)) k2 sz ⟨by rw[List.length_map];exact Nat.le_of_lt (g0d (n:=ns'.length) (by omega)),out.toList,e,j0g b1,by rw[ge]⟩).drawn dr
 exact⟨.ref D,_,I3,rfl,q ns' hst hm' D (I2.hok.fresh sz)⟩
section
variable {K:PySem.W.Frag}{ts:TA}{as:AA}
@[irreducible] def l0t (r:R):AE:=fun ρ q=>match view ρ r with
 | some (.lst ds)=>(match e0y ds with | some ns=>ns.length<64/\(∀ns':List Int,ns'.Pairwise (· < ·)->(∀x,x∈ns'↔x∈ns)->q (.f (ns'.map D.int)) ρ) | none=>False)
 | _=>False
def g1a (as:AA):AE:=fun ρ q=>as ρ fun rs ρ1=>match rs with
 | [r]=>l0t r ρ1 q
 | _=>False
theorem t0i (h:TAok K ts as):TEok K (v0u K ts) (g1a as):=by
 intro F σ ρ H q Q r ha k
 refine h F σ ρ H _ _ r ha fun rs ρ1 vs H1 h1 r1 i1 k1=>?_
 split at h1
 ·obtain⟨x,rfl,ix⟩:=i1.one
  unfold l0t at h1
  split at h1
  ·rename_i ds e
   split at h1
   ·rename_i ns e'
    obtain⟨l,us,rfl,sq,rd⟩:=c0m r1 ix e
    rw[g0o e',g0b]at rd
    rw[rd]at sq
    exact⟨l,ns,rfl,sq,h1.1,fun ns' a1 a2 p hp=>(k.after k1).new r1 (h1.2 ns' a1 a2) (g0b.mpr rfl) hp⟩
   ·exact h1.elim
  ·exact h1.elim
 ·exact h1.elim
theorem u0r {r:R}{ρ:En}{q:Ko}{ns:List Int}(hv:view ρ r=some (.lst (ns.map D.int)))(h64:ns.length<64)(h1:∀ns':List Int,ns'.Pairwise (· < ·)->(∀x,x∈ns'↔x∈ns)->q (.f (ns'.map D.int)) ρ):l0t r ρ q:=by
 unfold l0t
 simp only[hv,g0n]
 exact⟨h64,h1⟩
theorem r0c:∀ {xs ys:List Int},xs.Pairwise (· < ·)->ys.Pairwise (· < ·)->(∀x,x∈xs↔x∈ys)->xs=ys
 | [],[],_,_,_=>rfl
 | [],y::ys,_,_,h=>absurd ((h y).mpr (.head _)) (by simp)
 | x::xs,[],_,_,h=>absurd ((h x).mp (.head _)) (by simp)
 | x::xs,y::ys,h1,h2,h=>by
  obtain⟨a1,b1⟩:=List.pairwise_cons.mp h1
  obtain⟨a2,b2⟩:=List.pairwise_cons.mp h2
  have e:x=y:=by
   rcases List.mem_cons.mp ((h x).mp (.head _))with e | e
   ·exact e
   ·rcases List.mem_cons.mp ((h y).mpr (.head _))with e' | e'
    ·exact e'.symm
    ·have:=a2 x e
     have:=a1 y e'
     omega
  subst e
  congr 1
  refine r0c b1 b2 fun z=>?_
  constructor
  ·intro hz
   rcases List.mem_cons.mp ((h z).mp (.tail _ hz))with e | e
   ·have:=a1 z hz;omega
   ·exact e
  ·intro hz
   rcases List.mem_cons.mp ((h z).mpr (.tail _ hz))with e | e
   ·have:=a2 z hz;omega
   ·exact e
end
end L2
namespace L2
open PySem PySem.Spec PyProof.Rows PySem.W
end L2
namespace L2
open PySem PySem.Spec PyProof.Rows
section
variable {X:Cx}{K:PySem.W.Frag}
open Classical in
noncomputable def eqW (K:PySem.W.Frag)(H:Hp)(d:D)(w:Value):Bool:=decide (∃t e,RelV t w/\RepD K H t e/\eqD e d=true)
open Classical in
theorem h1d {pins:List (Addr×Obj)}{σ:St}{s:Shared}{H:Hp}{d e:D}{t:V}{w:Value}(I:Inv X pins σ H s)(r:RelV t w)(h:RepD X.K H t e):eqW X.K H d w=eqD e d:=by
 unfold eqW
 cases q:eqD e d with
 | true=>exact decide_eq_true ⟨t,e,r,h,q⟩
 | false =>
  refine decide_eq_false ?_
  rintro⟨t',e',r',h',q'⟩
  have:=r'.inj r
  subst this
  rw[l0r I h' h]at q'
  rw[q]at q';cases q'
theorem c1o {pins:List (Addr×Obj)}{σ:St}{s:Shared}{H:Hp}{d:D}(I:Inv X pins σ H s):∀ {xs:List V} {us:List Value} {ds:List D},Vals xs us->RepDs X.K H xs ds->us.any (eqW X.K H d)=ds.any fun e=>eqD e d
 | [],_,[],.nil,_=>rfl
 | v::xs,_,e::ds,.cons h t,r=>by
  unfold RepDs at r
  rw[List.any_cons,List.any_cons,c1o I t r.2,h1d I h r.1]
 | [],_,e::ds,.nil,r=>by unfold RepDs at r;exact r.elim
 | v::xs,_,[],.cons h t,r=>by unfold RepDs at r;exact r.elim
end
section
variable {X:Cx}{K:PySem.W.Frag}
def rInL (neg:Bool)(K:PySem.W.Frag):R2:=fun x y H Q=>∃p xs d ds,y = .ref p/\SqL K H p xs/\RepD K H x d/\RepDs K H xs ds/\(∀e∈ds,e.depth<=60)/\Q (.bl (if neg then !(ds.any fun e=>eqD e d)else ds.any fun e=>eqD e d)) H
theorem m1p {pins:List (Addr×Obj)}{σ:St}{s:Shared}{H:Hp}(hu:X.A.units+64<cLine)(I:Inv X pins σ H s){x:V}{v:Value}{xs:List V}{its:List Value}{d:D}{ds:List D}(r:Vals xs its)(rx:RelV x v)(rd:RepD X.K H x d)(rds:RepDs X.K H xs ds)(ha:∀e∈ds,e.depth<=60) :
  ∀y,y∈its.toArray->SeqAt.EqAt X.A.in1 s y v (eqW X.K H d y):=fun w hw=>by
 have hw':w∈its:=by simpa using hw
 obtain⟨j,hj,rfl⟩:=List.getElem_of_mem hw'
 have hl:=r.length
 have hl2:=rds.length
 obtain⟨z,e1,e2⟩:=r.get (i:=j) (x:=xs[j]'(by omega)) (List.getElem?_eq_getElem _)
 rw[List.getElem?_eq_getElem hj]at e1
 cases e1
 obtain⟨t,g1,g2⟩:=rds.get (i:=j) (d:=ds[j]'(by omega)) (List.getElem?_eq_getElem _)
 rw[List.getElem?_eq_getElem (by omega)]at g1
 cases g1
 rw[h1d I e2 g2]
 exact(w0e I 60 (ha ds[j] (List.getElem_mem _)) (by rw[f0q];omega) e2 rx g2 rd).2
theorem r0g (K:PySem.W.Frag)(hu:X.A.units+64<cLine)(hK:X.K=K:=by rfl):OpR X (compareOp .NotIn) (rInL true K):=by
 subst hK
 intro pins s σ H x y v u Q I rx ry h
 obtain⟨p,xs,d,ds,rfl,hq,rd,rds,ha,q⟩:=h
 cases ry
 obtain⟨its,r,pl,hz⟩:=I.list hq
 refine SeqAt.notIn_listAt (eqW X.K H d) pl.isList (m1p hu I r rx rd rds ha) ⟨.bl _,H,I,?_,q⟩
 show RelV _ (Value.bool (!its.toArray.any (eqW X.K H d)))
 rw[List.any_toArray,c1o I r rds]
 rfl
end
section
variable {K:PySem.W.Frag}
@[irreducible] def gInL (neg:Bool):R->R->AE:=fun r1 r2 ρ q=>match view ρ r1,view ρ r2 with
 | some d,some (.lst ds)=>(∀e∈ds,e.depth<=60)/\q (.d (.bl (if neg then !(ds.any fun e=>eqD e d)else ds.any fun e=>eqD e d))) ρ
 | _,_=>False
theorem p0y {neg:Bool}{r1 r2:R}{ρ:En}{q:Ko}{d:D}{ds:List D}{b:Bool}(h1:view ρ r1=some d)(h2:view ρ r2=some (.lst ds))(hd:∀e∈ds,e.depth<=60)(hb:(ds.any fun e=>eqD e d)=b)(hq:q (.d (.bl (if neg then !b else b))) ρ):gInL neg r1 r2 ρ q:=by
 unfold gInL
 rw[h1,h2]
 subst hb
 exact⟨hd,hq⟩
theorem b1b (neg:Bool):OpOk K (rInL neg K) (gInL neg):=by
 intro F σ ρ H x y r1 r2 q Q a h1 h2 h b
 unfold gInL at h
 split at h
 ·rename_i d ds e1 e2
  obtain⟨l,vs,rfl,sq,rd⟩:=c0m a h2 e2
  exact⟨l,vs,d,ds,rfl,sq,f0a a h1 e1,rd.same c0e,h.1,b.bl a h.2⟩
 ·exact h.elim
end
section
variable {K:PySem.W.Frag}{td:TE}{ad:AE}
def iOr (a b:TI):TI:=fun σ H R=>a σ H R∨b σ H R
theorem n1w {X:Cx}{tg o:Expr}{a b:TI}(ha:PI X tg o a)(hb:PI X tg o b):PI X tg o (iOr a b):=fun pins s σ H R I h=>by
 rcases h with h | h
 ·exact ha pins s σ H R I h
 ·exact hb pins s σ H R I h
def aOrI (a b:AI):AI:=fun ρ q=>a ρ q∨b ρ q
theorem h1w {pin:Nat->Bool}{wa wb:TI}{aa ab:AI}(ha:TIok K pin wa aa)(hb:TIok K pin wb ab):TIok K pin (iOr wa wb) (aOrI aa ab):=fun F σ ρ H q Rk r h k=>by
 rcases h with h | h
 ·exact .inl (ha F σ ρ H q Rk r h k)
 ·exact .inr (hb F σ ρ H q Rk r h k)
end
end L2
namespace L2
open PySem PySem.Spec PyProof.Rows PySem.W
end L2
namespace K69
open PySem PySem.Spec PyProof.Rows L2
def top (i:Nat):Stmt:=PySem.Challenge.pw_fewjoins_k69_whole_no_net_has_fewer.main.body.getD i (.Pass ⟨0,0,0,0⟩)
abbrev l0o:Stmt:=top 1
abbrev b1i:List Str:=["row"]
theorem a1c:b0a b1i ["row"] (a0i l0o):=⟨rfl,rfl,rfl,by decide +kernel,rfl,by decide +kernel,by decide +kernel⟩
abbrev f0n:Stmt:=top 2
abbrev l0a:List Str:=["row"]
theorem q0z:b0a l0a ["row"] (a0i f0n):=⟨rfl,rfl,rfl,by decide +kernel,rfl,by decide +kernel,by decide +kernel⟩
abbrev l0p:Stmt:=top 3
abbrev b1j:List Str:=["one", "other"]
theorem a1d:b0a b1j ["one", "other"] (a0i l0p):=⟨rfl,rfl,rfl,by decide +kernel,rfl,by decide +kernel,by decide +kernel⟩
abbrev p0c:Stmt:=top 5
abbrev e1y:List Str:=["wish", "many", "rows", "classes", "hang", "places", "unlike"]
theorem g0y:b0a e1y ["wish"] (a0i p0c):=⟨rfl,rfl,rfl,by decide +kernel,rfl,by decide +kernel,by decide +kernel⟩
abbrev d0q:Stmt:=top 6
abbrev h0w:List Str:=["rows"]
theorem m0c:b0a h0w ["rows"] (a0i d0q):=⟨rfl,rfl,rfl,by decide +kernel,rfl,by decide +kernel,by decide +kernel⟩
abbrev d0d:Stmt:=top 7
abbrev f0h:List Str:=["rows", "classes", "place", "row", "met"]
theorem d0h:b0a f0h ["rows"] (a0i d0d):=⟨rfl,rfl,rfl,by decide +kernel,rfl,by decide +kernel,by decide +kernel⟩
abbrev g0z:Stmt:=top 8
abbrev r0t:List Str:=["rows", "places", "givens", "place"]
theorem f0w:b0a r0t ["rows", "places"] (a0i g0z):=⟨rfl,rfl,rfl,by decide +kernel,rfl,by decide +kernel,by decide +kernel⟩
abbrev d0a:Stmt:=top 9
abbrev h0k:List Str:=["rows", "places"]
theorem l0c:b0a h0k ["rows", "places"] (a0i d0a):=⟨rfl,rfl,rfl,by decide +kernel,rfl,by decide +kernel,by decide +kernel⟩
abbrev e0b:Stmt:=top 10
abbrev i0v:List Str:=["rows", "classes"]
theorem n0j:b0a i0v ["rows", "classes"] (a0i e0b):=⟨rfl,rfl,rfl,by decide +kernel,rfl,by decide +kernel,by decide +kernel⟩
abbrev i0h:Stmt:=top 12
abbrev u0c:List Str:=["thing", "least", "most"]
theorem t0p:b0a u0c ["thing", "least", "most"] (a0i i0h):=⟨rfl,rfl,rfl,by decide +kernel,rfl,by decide +kernel,by decide +kernel⟩
abbrev i0i:Stmt:=top 13
abbrev u0d:List Str:=["thing", "least", "most"]
theorem t0q:b0a u0d ["thing", "least", "most"] (a0i i0i):=⟨rfl,rfl,rfl,by decide +kernel,rfl,by decide +kernel,by decide +kernel⟩
abbrev f0d:Stmt:=top 15
abbrev n0r:List Str:=["wish", "number", "paper", "many", "rows", "word", "parts"]
theorem d0o:b0a n0r ["wish", "number", "paper"] (a0i f0d):=⟨rfl,rfl,rfl,by decide +kernel,rfl,by decide +kernel,by decide +kernel⟩
abbrev e0t:Stmt:=top 16
abbrev j0r:List Str:=["rows", "thing"]
theorem p0b:b0a j0r ["rows", "thing"] (a0i e0t):=⟨rfl,rfl,rfl,by decide +kernel,rfl,by decide +kernel,by decide +kernel⟩
abbrev d0v:Stmt:=top 17
abbrev h0d:List Str:=["rows", "thing", "told"]
theorem j0j:b0a h0d ["rows", "thing"] (a0i d0v):=⟨rfl,rfl,rfl,by decide +kernel,rfl,by decide +kernel,by decide +kernel⟩
abbrev f0e:Stmt:=top 18
abbrev n0s:List Str:=["rows", "thing", "taken", "places", "givens"]
theorem d0p:b0a n0s ["rows", "thing"] (a0i f0e):=⟨rfl,rfl,rfl,by decide +kernel,rfl,by decide +kernel,by decide +kernel⟩
abbrev d0c:Stmt:=top 19
abbrev h0l:List Str:=["rows", "places"]
theorem l0d:b0a h0l ["rows", "places"] (a0i d0c):=⟨rfl,rfl,rfl,by decide +kernel,rfl,by decide +kernel,by decide +kernel⟩
abbrev g0e:Stmt:=top 21
abbrev m0m:List Str:=["many"]
theorem t0n:b0a m0m ["many"] (a0i g0e):=⟨rfl,rfl,rfl,by decide +kernel,rfl,by decide +kernel,by decide +kernel⟩
abbrev j0m:Stmt:=top 22
abbrev y0b:List Str:=["one", "other"]
theorem x0s:b0a y0b ["one", "other"] (a0i j0m):=⟨rfl,rfl,rfl,by decide +kernel,rfl,by decide +kernel,by decide +kernel⟩
abbrev h0a:Stmt:=top 23
abbrev r0u:List Str:=["net", "words", "many", "joins", "outs", "told", "a", "b"]
theorem c0z:b0a r0u ["net", "words"] (a0i h0a):=⟨rfl,rfl,rfl,by decide +kernel,rfl,by decide +kernel,by decide +kernel⟩
abbrev j0l:Stmt:=top 24
abbrev y0a:List Str:=["net"]
theorem x0r:b0a y0a ["net"] (a0i j0l):=⟨rfl,rfl,rfl,by decide +kernel,rfl,by decide +kernel,by decide +kernel⟩
abbrev j0k:Stmt:=top 26
abbrev r0s:List Str:=["net", "many", "joins", "outs", "stands", "leant", "numbers", "kept", "at", "a", "b"]
theorem c0x:b0a r0s ["net"] (a0i j0k):=⟨rfl,rfl,rfl,by decide +kernel,rfl,by decide +kernel,by decide +kernel⟩
abbrev f0c:Stmt:=top 27
abbrev n0q:List Str:=["rows", "first", "stands", "thing", "row"]
theorem d0n:b0a n0q ["rows"] (a0i f0c):=⟨rfl,rfl,rfl,by decide +kernel,rfl,by decide +kernel,by decide +kernel⟩
abbrev g0f:Stmt:=top 28
abbrev m0n:List Str:=["net", "stands", "many", "joins", "outs", "leant", "at", "a", "b"]
theorem c0y:b0a m0n ["net", "stands"] (a0i g0f):=⟨rfl,rfl,rfl,by decide +kernel,rfl,by decide +kernel,by decide +kernel⟩
abbrev i0f:Stmt:=top 30
abbrev u0a:List Str:=["_law_script"]
theorem t0o:b0a u0a ["_law_script"] (a0i i0f):=⟨rfl,rfl,rfl,by decide +kernel,rfl,by decide +kernel,by decide +kernel⟩
abbrev i0g:Stmt:=top 31
abbrev u0b:List Str:=["_law_tape_here", "_law_many", "_law_found", "_law_spot", "_law_cells", "_law_cell", "_law_seed"]
theorem d0t:b0a u0b ["_law_tape_here", "_law_many"] (a0i i0g):=⟨rfl,rfl,rfl,by decide +kernel,rfl,by decide +kernel,by decide +kernel⟩
abbrev g0h:Stmt:=top 32
abbrev k0l:List Str:=["_law_tape_here", "_law_most", "_law_joins_most", "_law_many", "_law_rows_here", "_law_joins", "_law_way", "_law_turn", "_law_a", "_law_b", "_law_outs"]
theorem c0f:b0a k0l ["_law_tape_here", "_law_most", "_law_joins_most"] (a0i g0h):=⟨rfl,rfl,rfl,by decide +kernel,rfl,by decide +kernel,by decide +kernel⟩
abbrev g0g:Stmt:=top 33
abbrev m0o:List Str:=["_law_net_here", "_law_rows_here", "_law_a", "_law_b"]
theorem g0x:b0a m0o ["_law_net_here"] (a0i g0g):=⟨rfl,rfl,rfl,by decide +kernel,rfl,by decide +kernel,by decide +kernel⟩
abbrev f0m:Stmt:=top 34
abbrev k0z:List Str:=["_law_rows_here", "_law_places", "_law_found", "_law_more", "_law_meeting"]
theorem f0v:b0a k0z ["_law_rows_here", "_law_places"] (a0i f0m):=⟨rfl,rfl,rfl,by decide +kernel,rfl,by decide +kernel,by decide +kernel⟩
abbrev f0b:Stmt:=top 35
abbrev n0p:List Str:=["_law_rows_here", "_law_found", "_law_place", "_law_here", "_law_wider_here"]
theorem c0i:b0a n0p ["_law_rows_here"] (a0i f0b):=⟨rfl,rfl,rfl,by decide +kernel,rfl,by decide +kernel,by decide +kernel⟩
abbrev d0b:Stmt:=top 36
abbrev f0g:List Str:=["_law_tape_here", "_law_rows_here", "_law_places", "_law_place", "_law_there", "_law_row", "_law_classes_here", "_law_some"]
theorem c0n:b0a f0g ["_law_tape_here", "_law_rows_here"] (a0i d0b):=⟨rfl,rfl,rfl,by decide +kernel,rfl,by decide +kernel,by decide +kernel⟩
abbrev a1e:Stmt:=top 37
abbrev g1u:List Str:=["_law_script", "_law_tape_here", "_law_net_here", "_law_made", "_law_rows_here", "_law_wish", "_law_number", "_law_paper", "_law_one"]
theorem i0t:b0a g1u ["_law_script"] (a0i a1e):=⟨rfl,rfl,rfl,by decide +kernel,rfl,by decide +kernel,by decide +kernel⟩
section
variable {P:Program}{w:World}{K:PySem.W.Frag}{mg:Str->Option Value}{base:Heap}
theorem t0u (D:DefN K mg "_law_tape" i0f ["_law_script"])(B:BI mg):OkN P w K mg base 1 "_law_tape" ["_law_script"] (spA K k1e):=by
 refine OkN.imp (sp:=z0u K) ?_ h1y
 refine D.ok t0o (fun vs H Q E h=>?_) (fun f cdv A outer s H vs Q E hr h=>?_)
 ·obtain⟨a,ns,rfl,_⟩:=h
  rfl
 ·obtain⟨a,ns,rfl,hS,k⟩:=h
  refine⟨_,(a0n (b0h (i1n (p0g e0e (w0f (e1g K) (pv 0) a1n (a1m a0r)) (p0g e0e a0r (p0g e0e a0r i1m))) rfl rfl (by simp) (by decide)))),?_⟩
  intro t ht
  have s0:Same H (upd H t (.dK [])):=(Same.refl H).new ht
  refine⟨_,rfl,63,rfl,a,_,rfl,s0.seq hS,fun l hl=>?_⟩
  have ntl:t≠l:=b0k b0l hl
  refine⟨by rw[a0x ntl,b0l],[(Sum.inr ("cells" : Str),V.ref l),(Sum.inr ("spot" : Str),V.int 0),(Sum.inr ("left" : Str),V.int 0)],rfl,(by show 3<=15;decide),?_⟩
  rw[z0p]
  have fin:=k t l ht (s0.free hl) ntl
  have eq:upd (upd (upd H t (.dK [])) l (.lst (cutV (ns.map V.int) none (some 63)))) t (.dK (d0l l 0 0))=upd (upd H l (.lst ((ns.take 63).map V.int))) t (.dK (d0l l 0 0)):=by
   rw[o1i]
   funext b
   unfold upd
   by_cases h1:b=t
   ·rw[if_pos h1,if_pos h1]
   ·rw[if_neg h1,if_neg h1,if_neg h1]
  rw[eq]
  exact fin
theorem t0w (D:DefN K mg "_law_draw" i0g ["_law_tape_here", "_law_many"])(B:BI mg):OkN P w K mg base 1 "_law_draw" ["_law_tape_here", "_law_many"] (spA K d1n):=by
 refine OkN.imp (sp:=z0v K) ?_ j1s
 refine D.ok d0t (fun vs H Q E h=>?_) (fun f cdv A outer s H vs Q E hr h=>?_)
 ·obtain⟨t,c,m,sp,lf,ns,n,rfl,_⟩:=h
  rfl
 ·obtain⟨t,c,m,sp,lf,ns,n,rfl,hT,hC,h1,h2,h3,hn,hm,k⟩:=h
  have hu:=d0x hr
  have hm0:=hm.1
  have gl:DGet H t (kV (Sum.inr "left")) (some (.int lf)):=by rw[<- z0q (c:=c) (sp:=sp)];exact DGet.k hT
  have gs:DGet H t (kV (Sum.inr "spot")) (some (.int sp)):=by rw[<- z0o (c:=c) (lf:=lf)];exact DGet.k hT
  have gc:DGet H t (kV (Sum.inr "cells")) (some (.ref c)):=by rw[<- o0d (sp:=sp) (lf:=lf)];exact DGet.k hT
  refine⟨_,(a0f (f0f (b0w r0i (m0i hu (pv 0) e0e (fun _ _=>rfl)) a0r (c0k _))
   (a0f (b0e (i:=2) d0t.nd rfl (by first | exact Or.inl rfl | exact Or.inr rfl) (b0m j0p (m0i hu (pv 0) e0e (fun _ _=>rfl)) (pv 1)))
   (a0f (m0g hu (pv 0) e0e (b0m p0i (m0i hu (pv 0) e0e (fun _ _=>rfl)) (pv 1)) rfl)
   (a0n (b0h (pv 2)))))
   b0z)
   (a0f (b0e (i:=3) d0t.nd rfl (by first | exact Or.inl rfl | exact Or.inr rfl) (m0i hu (pv 0) e0e (fun _ _=>rfl)))
   (a0f (m0g hu (pv 0) e0e (b0m f0x (pv 3) a0r) rfl)
   (a0f (b0e (i:=4) d0t.nd rfl (by first | exact Or.inl rfl | exact Or.inr rfl) (m0i hu (pv 0) e0e (fun _ _=>rfl)))
   (a0f (b0e (i:=5) d0t.nd rfl (by first | exact Or.inl rfl | exact Or.inr rfl) a0r)
   (a0f (f0f (b0w r0i (a0s (b0d K) rfl B.len_ c0v (a0c (pv 4) a0g)) a0r (c0k _))
   (a0n (b0e (i:=5) d0t.nd rfl (by first | exact Or.inl rfl | exact Or.inr rfl) (c0w (b0b K) (pv 4) (b0m j0p (pv 3) (a0s (b0d K) rfl B.len_ c0v (a0c (pv 4) a0g))) (fun _ _=>rfl))))
   b0z)
   (a0f (f0f (PW.pt (r0e (b0w e1v (pv 5) (b0m a1y a0r a0r) (c0k _)) (p0e (b0w o1a (pv 3) (a0s (b0d K) rfl B.len_ c0v (a0c (pv 4) a0g)) (c0k _)))))
   (a0f (m0g hu (pv 0) e0e (b0m p0i (b0m h0v (pv 5) (b0m a1y a0r a0r)) (pv 1)) rfl)
   (a0n (b0h (b0m j0p (b0m h0v (pv 5) (b0m a1y a0r a0r)) (pv 1)))))
   b0z)
   (a0f (b0e (i:=6) d0t.nd rfl (by first | exact Or.inl rfl | exact Or.inr rfl) (b0m j0p (b0m r0h (b0m f0x (b0m f0x (b0m f0x (b0m j0p (pv 5) a0r) (b0m r0h (b0m r0h a0r (pv 3)) (pv 3))) (b0m r0h a0r (pv 3))) a0r) a0r) a0r))
   (a0n (b0h (b0m j0p (b0m p0i (b0m j0p (b0m r0h (pv 6) (b0m f0x (pv 6) a0r)) a0r) a0r) (pv 1)))))))))))),?_⟩
  refine⟨_,rfl,t,_,rfl,gl,_,_,rfl,rfl,_,rfl,ite2 (fun hl=>?_) fun hl=>?_⟩
  ·refine⟨_,rfl,t,_,rfl,gl,_,rfl,_,_,rfl,rfl,hm0,?_⟩
   refine⟨_,rfl,t,_,rfl,gl,_,rfl,_,_,rfl,rfl,hm,_,rfl,t,_,rfl,DPut.k (k:=Sum.inr "left") hT (g0d (by show 3<=1000;decide)),_,rfl,?_⟩
   rw[p0f]
   exact drawn (Q:=fun z H=>Q (.int z) H) hm0 fun r hr=>k r _ _ hr h1 (by omega) (Int.ediv_nonneg h3 (Int.le_of_lt hm0))
  ·refine⟨_,rfl,t,_,rfl,gs,?_⟩
   refine⟨_,rfl,_,_,rfl,rfl,_,rfl,t,_,rfl,DPut.k (k:=Sum.inr "spot") hT (g0d (by show 3<=1000;decide)),?_⟩
   rw[e1j]
   have hT1:(upd H t (.dK (d0l c (sp+1) lf))) t=some (.dK (d0l c (sp+1) lf)):=b0l
   have hC1:SqL K (upd H t (.dK (d0l c (sp+1) lf))) c (ns.map V.int):=Grow.seq (Grow.refl.upd _) hT hC
   have gr1:Grow t H (upd H t (.dK (d0l c (sp+1) lf))):=Grow.refl.upd _
   have gc1:DGet (upd H t (.dK (d0l c (sp+1) lf))) t (kV (Sum.inr "cells")) (some (.ref c)):=by rw[<- o0d (sp:=sp+1) (lf:=lf)];exact DGet.k hT1
   have kk:∀(r:Nat) (lf':Int),(r:Int)<m->0<=lf'->Q (.int (r:Nat)) (upd (upd H t (.dK (d0l c (sp+1) lf))) t (.dK (d0l c (sp+1) lf'))):=fun r lf' hr hl=>by rw[h1r];exact k r _ _ hr (by omega) (by omega) hl
   have kl:∀(r:Nat),(r:Int)<m->Q (.int (r:Nat)) (upd H t (.dK (d0l c (sp+1) lf))):=fun r hr=>k r _ _ hr (by omega) (by omega) h3
   generalize upd H t (.dK (d0l c (sp+1) lf))=H1 at hT1 hC1 gr1 gc1 kk kl ⊢
   refine⟨_,rfl,t,_,rfl,gc1,?_⟩
   have p18:(10:Int)^(18:Int).toNat=1000000000000000000:=by decide
   have fits:CPow 10 18:=⟨by decide,by decide,by decide⟩
   have pos1:(0:Int)<2147483629:=by decide
   have pos2:(0:Int)<2147483647:=by decide
   have spOk:-(2^64)<sp/\sp<2^64:=by omega
   refine⟨_,rfl,c,_,rfl,.inl hC1,_,_,rfl,rfl,_,rfl,ite2 (fun hl=>?_) fun hl=>?_⟩
   ·have hl':0<ns.length:=by
     have:=of_decide_eq_true hl
     rw[List.length_map]at this
     omega
    have el:((ns.map V.int).length:Int)=ns.length:=by rw[List.length_map]
    have hb0:0<=sp % ((ns.map V.int).length:Int):=Int.emod_nonneg _ (by omega)
    have hb1:sp % ((ns.map V.int).length:Int)<((ns.map V.int).length:Int):=Int.emod_lt_of_pos _ (by omega)
    obtain⟨j,hj⟩:=Int.eq_ofNat_of_zero_le hb0
    have hj':j<ns.length:=by rw[hj]at hb1;omega
    refine⟨_,rfl,_,rfl,_,rfl,c,_,rfl,.inl hC1,_,_,rfl,rfl,(by show(0:Int)<((ns.map V.int).length:Int);omega),.inl ⟨c,_,_,V.int ns[j],rfl,rfl,hC1,?_,?_⟩⟩
    ·rw[hj]
     exact d1f (by simp[hj'])
    ·generalize ns[j]=z
     refine⟨_,rfl,_,_,rfl,rfl,fits,_,_,rfl,rfl,_,rfl,ite2 (fun hz=>?_) fun hz=>?_⟩
     ·refine⟨_,rfl,_,rfl,c,_,rfl,.inl hC1,_,_,rfl,rfl,_,rfl,ite2 (fun hs=>?_) fun hs=>?_⟩
      ·refine⟨_,rfl,_,_,rfl,rfl,fits,_,_,rfl,rfl,_,rfl,_,_,rfl,rfl,hm,_,rfl,t,_,rfl,DPut.k (k:=Sum.inr "left") hT1 (g0d (by show 3<=1000;decide)),?_⟩
       rw[p0f]
       refine⟨_,rfl,_,_,rfl,rfl,fits,_,_,rfl,rfl,_,rfl,_,_,rfl,rfl,hm0,?_⟩
       refine drawn (Q:=fun z H=>Q (.int z) H) hm0 fun r hr=>kk r _ hr (Int.ediv_nonneg ?_ (Int.le_of_lt hm0))
       have hz':=of_decide_eq_true hz
       rw[p18]at hz' ⊢
       omega
      ·refine⟨_,rfl,_,_,rfl,rfl,pos1,_,rfl,_,_,rfl,rfl,.inl ⟨by decide,by decide⟩,_,rfl,_,_,rfl,rfl,.inr spOk,_,_,rfl,rfl,_,rfl,_,_,rfl,rfl,.inl ⟨by decide,by decide⟩,_,_,rfl,rfl,_,_,rfl,rfl,_,_,rfl,rfl,.inr ⟨by decide,by decide⟩,_,_,rfl,rfl,pos2,?_⟩
       refine⟨_,rfl,_,rfl,_,_,rfl,rfl,_,_,rfl,rfl,.inl v0z,_,_,rfl,rfl,pos1,_,_,rfl,rfl,dv64,_,rfl,_,_,rfl,rfl,hm0,?_⟩
       exact drawn (Q:=fun z H=>Q (.int z) H) hm0 fun r hr=>kl r hr
     ·refine⟨_,rfl,_,_,rfl,rfl,pos1,_,rfl,_,_,rfl,rfl,.inl ⟨by decide,by decide⟩,_,rfl,_,_,rfl,rfl,.inr spOk,_,_,rfl,rfl,_,rfl,_,_,rfl,rfl,.inl ⟨by decide,by decide⟩,_,_,rfl,rfl,_,_,rfl,rfl,_,_,rfl,rfl,.inr ⟨by decide,by decide⟩,_,_,rfl,rfl,pos2,?_⟩
      refine⟨_,rfl,_,rfl,_,_,rfl,rfl,_,_,rfl,rfl,.inl v0z,_,_,rfl,rfl,pos1,_,_,rfl,rfl,dv64,_,rfl,_,_,rfl,rfl,hm0,?_⟩
      exact drawn (Q:=fun z H=>Q (.int z) H) hm0 fun r hr=>kl r hr
   ·refine⟨_,rfl,_,_,rfl,rfl,fits,_,_,rfl,rfl,_,rfl,ite2 (fun hz=>?_) fun hz=>?_⟩
    ·refine⟨_,rfl,_,rfl,c,_,rfl,.inl hC1,_,_,rfl,rfl,_,rfl,ite2 (fun hs=>?_) fun hs=>?_⟩
     ·refine⟨_,rfl,_,_,rfl,rfl,fits,_,_,rfl,rfl,_,rfl,_,_,rfl,rfl,hm,_,rfl,t,_,rfl,DPut.k (k:=Sum.inr "left") hT1 (g0d (by show 3<=1000;decide)),?_⟩
      rw[p0f]
      refine⟨_,rfl,_,_,rfl,rfl,fits,_,_,rfl,rfl,_,rfl,_,_,rfl,rfl,hm0,?_⟩
      refine drawn (Q:=fun z H=>Q (.int z) H) hm0 fun r hr=>kk r _ hr (Int.ediv_nonneg ?_ (Int.le_of_lt hm0))
      have hz':=of_decide_eq_true hz
      rw[p18]at hz' ⊢
      omega
     ·refine⟨_,rfl,_,_,rfl,rfl,pos1,_,rfl,_,_,rfl,rfl,.inl ⟨by decide,by decide⟩,_,rfl,_,_,rfl,rfl,.inr spOk,_,_,rfl,rfl,_,rfl,_,_,rfl,rfl,.inl ⟨by decide,by decide⟩,_,_,rfl,rfl,_,_,rfl,rfl,_,_,rfl,rfl,.inr ⟨by decide,by decide⟩,_,_,rfl,rfl,pos2,?_⟩
      refine⟨_,rfl,_,rfl,_,_,rfl,rfl,_,_,rfl,rfl,.inl v0z,_,_,rfl,rfl,pos1,_,_,rfl,rfl,dv64,_,rfl,_,_,rfl,rfl,hm0,?_⟩
      exact drawn (Q:=fun z H=>Q (.int z) H) hm0 fun r hr=>kl r hr
    ·refine⟨_,rfl,_,_,rfl,rfl,pos1,_,rfl,_,_,rfl,rfl,.inl ⟨by decide,by decide⟩,_,rfl,_,_,rfl,rfl,.inr spOk,_,_,rfl,rfl,_,rfl,_,_,rfl,rfl,.inl ⟨by decide,by decide⟩,_,_,rfl,rfl,_,_,rfl,rfl,_,_,rfl,rfl,.inr ⟨by decide,by decide⟩,_,_,rfl,rfl,pos2,?_⟩
     refine⟨_,rfl,_,rfl,_,_,rfl,rfl,_,_,rfl,rfl,.inl v0z,_,_,rfl,rfl,pos1,_,_,rfl,rfl,dv64,_,rfl,_,_,rfl,rfl,hm0,?_⟩
     exact drawn (Q:=fun z H=>Q (.int z) H) hm0 fun r hr=>kl r hr
end
def rw1 (rows:List Nat)(i:Nat):Nat:=rows.getD i 0
def adj (rows:List Nat)(i j:Nat):Prop:=rw1 rows i &&& rw1 rows j≠0
theorem d1g {rows:List Nat}{i j:Nat}(h:adj rows i j):adj rows j i:=by unfold adj at h ⊢;rwa [Nat.and_comm]
inductive Conn (rows:List Nat):Nat->Nat->Prop
 | refl {i:Nat} (h:i<rows.length):Conn rows i i
 | step {i j k:Nat} (c:Conn rows i j) (h:k<rows.length) (a:adj rows j k):Conn rows i k
theorem Conn.lt {rows:List Nat}{i j:Nat}(c:Conn rows i j):i<rows.length/\j<rows.length:=by
 induction c with
 | refl h=>exact⟨h,h⟩
 | step c h a ih=>exact⟨ih.1,h⟩
theorem Conn.trans {rows:List Nat}{i j k:Nat}(c:Conn rows i j)(d:Conn rows j k):Conn rows i k:=by
 induction d with
 | refl h=>exact c
 | step d h a ih=>exact ih.step h a
theorem Conn.one {rows:List Nat}{i j:Nat}(hi:i<rows.length)(hj:j<rows.length)(a:adj rows i j):Conn rows i j:=(Conn.refl hi).step hj a
theorem Conn.symm {rows:List Nat}{i j:Nat}(c:Conn rows i j):Conn rows j i:=by
 induction c with
 | refl h=>exact .refl h
 | step c h a ih=>exact(Conn.one h c.lt.2 (d1g a)).trans ih
open Classical in
noncomputable def comp (rows:List Nat)(p:Nat):List Nat:=(List.range rows.length).filter fun j=>decide (Conn rows p j)
open Classical in
theorem b0p {rows:List Nat}{p j:Nat}:j∈comp rows p↔Conn rows p j:=by
 unfold comp
 rw[List.mem_filter,List.mem_range,decide_eq_true_eq]
 exact⟨fun h=>h.2,fun h=>⟨h.lt.2,h⟩⟩
theorem h0y (rows:List Nat)(p:Nat):(comp rows p).Pairwise (· < ·):=List.Pairwise.filter _ List.pairwise_lt_range
theorem w0a {xs ys:List Nat}(h1:xs.Pairwise (· < ·))(h2:ys.Pairwise (· < ·))(h:∀x,x∈xs↔x∈ys):xs=ys :=
 List.Perm.eq_of_pairwise (le:=(· < ·)) (fun a b _ _ q1 q2=>by omega) h1 h2 ((List.perm_ext_iff_of_nodup (h1.imp fun h=>by omega) (h2.imp fun h=>by omega)).mpr h)
theorem n0b {rows:List Nat}{p q:Nat}(c:Conn rows p q):comp rows p=comp rows q :=
 w0a (h0y rows p) (h0y rows q) fun x=>by rw[b0p,b0p];exact⟨fun h=>c.symm.trans h,fun h=>c.trans h⟩
theorem u0w {rows:List Nat}{S:List Nat}{p:Nat}(up:S.Pairwise (· < ·))(hp:p∈S)(hs:∀j∈S,Conn rows p j)(hc:∀i∈S,∀j,j<rows.length->adj rows i j->j∈S):S=comp rows p:=by
 refine w0a up (h0y rows p) fun x=>?_
 rw[b0p]
 refine⟨hs x,fun c=>?_⟩
 induction c with
 | refl h=>exact hp
 | step c h a ih=>exact hc _ ih _ h a
structure Cl (rows:List Nat)(k:Nat)(cls:List (List Nat)):Prop where
 inc:∀C∈cls,C.Pairwise (· < ·)
 ne:∀C∈cls,C≠[]
 cov:∀j,j<k->∃C∈cls,j∈C
 lt:∀C∈cls,∀j∈C,j<k
 dj:∀C∈cls,∀C'∈cls,∀j,j∈C->j∈C'->C=C'
 nd:cls.Nodup
 con:∀C∈cls,∀i∈C,∀j∈C,Conn rows i j
 cl:∀C∈cls,∀i∈C,∀j,j<k->adj rows i j->j∈C
theorem Cl.start {rows:List Nat}:Cl rows 0 []:=⟨(fun _ h=>nomatch h),(fun _ h=>nomatch h),(fun j h=>by omega),(fun _ h=>nomatch h),(fun _ h=>nomatch h),List.nodup_nil,(fun _ h=>nomatch h),(fun _ h=>nomatch h)⟩
def f0p (rows:List Nat)(k:Nat)(C:List Nat):Bool:=C.any fun i=>rw1 rows i &&& rw1 rows k != 0
theorem j0t {rows:List Nat}{k:Nat}{C:List Nat}:f0p rows k C=true↔∃i∈C,adj rows i k:=by
 unfold f0p adj
 rw[List.any_eq_true]
 simp
def metC (rows:List Nat)(k:Nat)(cls:List (List Nat)):List (List Nat):=cls.filter (f0p rows k)
def farC (rows:List Nat)(k:Nat)(cls:List (List Nat)):List (List Nat):=cls.filter fun C=>!f0p rows k C
theorem Cl.flat {rows:List Nat}{k:Nat}{cls:List (List Nat)}(c:Cl rows k cls):((metC rows k cls).flatten++[k]).Nodup:=by
 have sub:∀C∈metC rows k cls,C∈cls:=fun C h=>(List.mem_filter.mp h).1
 have nd:(metC rows k cls).Nodup:=List.Pairwise.filter _ c.nd
 have fl:(metC rows k cls).flatten.Nodup:=by
  generalize metC rows k cls=M at sub nd
  induction M with
  | nil=>exact List.nodup_nil
  | cons C M ih =>
   rw[List.flatten_cons]
   have hC:=sub C (List.mem_cons_self ..)
   obtain⟨n1,n2⟩:=List.nodup_cons.mp nd
   refine List.nodup_append.mpr ⟨(c.inc C hC).imp fun h=>by omega,ih (fun C' h=>sub C' (List.mem_cons_of_mem _ h)) n2,fun a ha b hb e=>?_⟩
   subst e
   obtain⟨C',hC',hb'⟩:=List.mem_flatten.mp hb
   have:=c.dj C hC C' (sub C' (List.mem_cons_of_mem _ hC')) a ha hb'
   subst this
   exact n1 hC'
 refine List.nodup_append.mpr ⟨fl,List.nodup_cons.mpr ⟨(fun h=>nomatch h),List.nodup_nil⟩,fun a ha b hb e=>?_⟩
 rw[List.mem_singleton.mp hb]at e
 subst e
 obtain⟨C,hC,ha'⟩:=List.mem_flatten.mp ha
 have:=c.lt C (sub C hC) _ ha'
 omega
theorem Cl.next {rows:List Nat}{k:Nat}{cls:List (List Nat)}(c:Cl rows k cls)(hk:k<rows.length){N:List Nat}(pm:N.Perm ((metC rows k cls).flatten++[k]))(up:N.Pairwise (· <= ·)):Cl rows (k+1) (farC rows k cls++[N]):=by
 have hm:∀j,j∈N↔(∃C∈cls,f0p rows k C=true/\j∈C)∨j=k:=fun j=>by
  rw[pm.mem_iff,List.mem_append,List.mem_flatten,List.mem_singleton]
  constructor
  ·rintro(⟨C,hC,h⟩ | h)
   ·exact .inl ⟨C,(List.mem_filter.mp hC).1,(List.mem_filter.mp hC).2,h⟩
   ·exact .inr h
  ·rintro(⟨C,h1,h2,h3⟩ | h)
   ·exact .inl ⟨C,List.mem_filter.mpr ⟨h1,h2⟩,h3⟩
   ·exact .inr h
 have hup:N.Pairwise (· < ·):=by
  have nd:N.Nodup:=pm.nodup_iff.mpr c.flat
  exact(List.Pairwise.and up nd).imp fun{a b} z=>by have h1:=z.1;have h2:=z.2;omega
 have far:∀C,C∈farC rows k cls↔C∈cls/\f0p rows k C=false:=fun C=>by
  unfold farC
  rw[List.mem_filter]
  simp
 have cases':∀C,C∈farC rows k cls++[N]↔(C∈cls/\f0p rows k C=false)∨C=N:=fun C=>by rw[List.mem_append,far,List.mem_singleton]
 have conN:∀i∈N,Conn rows i k:=fun i hi=>by
  rcases(hm i).mp hi with⟨C,h1,h2,h3⟩ | h
  ·obtain⟨x,hx,a⟩:=j0t.mp h2
   exact(c.con C h1 i h3 x hx).step hk a
  ·subst h;exact .refl hk
 have kN:k∈N:=(hm k).mpr (.inr rfl)
 refine⟨fun C h=>?_,fun C h=>?_,fun j hj=>?_,fun C h j hj=>?_,fun C h C' h' j h1 h2=>?_,?_,fun C h i hi j hj=>?_,fun C h i hi j hj a=>?_⟩
 ·rcases(cases' C).mp h with q | rfl
  ·exact c.inc C q.1
  ·exact hup
 ·rcases(cases' C).mp h with q | rfl
  ·exact c.ne C q.1
  ·exact List.ne_nil_of_mem kN
 ·rcases Nat.lt_or_ge j k with g | g
  ·obtain⟨C,h1,h2⟩:=c.cov j g
   cases hmm:f0p rows k C with
   | true=>exact⟨N,(cases' N).mpr (.inr rfl),(hm j).mpr (.inl ⟨C,h1,hmm,h2⟩)⟩
   | false=>exact⟨C,(cases' C).mpr (.inl ⟨h1,hmm⟩),h2⟩
  ·have:j=k:=by omega
   subst this
   exact⟨N,(cases' N).mpr (.inr rfl),kN⟩
 ·rcases(cases' C).mp h with q | rfl
  ·have:=c.lt C q.1 j hj;omega
  ·rcases(hm j).mp hj with⟨C,h1,h2,h3⟩ | h
   ·have:=c.lt C h1 j h3;omega
   ·omega
 ·have fN:∀C,C∈cls->f0p rows k C=false->j∈C->j∈N->False:=fun C q1 q2 h1 h2=>by
   rcases(hm j).mp h2 with⟨C2,e1,e2,e3⟩ | e
   ·have:=c.dj C q1 C2 e1 j h1 e3
    subst this
    rw[q2]at e2;cases e2
   ·have:=c.lt C q1 j h1;omega
  rcases(cases' C).mp h with q | rfl
  ·rcases(cases' C').mp h' with q' | rfl
   ·exact c.dj C q.1 C' q'.1 j h1 h2
   ·exact(fN C q.1 q.2 h1 h2).elim
  ·rcases(cases' C').mp h' with q' | rfl
   ·exact(fN C' q'.1 q'.2 h2 h1).elim
   ·rfl
 ·refine List.nodup_append.mpr ⟨List.Pairwise.filter _ c.nd,List.nodup_cons.mpr ⟨(fun h=>nomatch h),List.nodup_nil⟩,fun a ha b hb e=>?_⟩
  rw[List.mem_singleton.mp hb]at e
  subst e
  have:=((far _).mp ha).1
  have:=c.lt _ this k kN
  omega
 ·rcases(cases' C).mp h with q | rfl
  ·exact c.con C q.1 i hi j hj
  ·exact(conN i hi).trans (conN j hj).symm
 ·rcases(cases' C).mp h with q | rfl
  ·rcases Nat.lt_or_ge j k with g | g
   ·exact c.cl C q.1 i hi j g a
   ·have:j=k:=by omega
    subst this
    have:f0p rows j C=true:=j0t.mpr ⟨i,hi,a⟩
    rw[q.2]at this;cases this
  ·rcases Nat.lt_or_ge j k with g | g
   ·rcases(hm i).mp hi with⟨C,h1,h2,h3⟩ | e
    ·exact(hm j).mpr (.inl ⟨C,h1,h2,c.cl C h1 i h3 j g a⟩)
    ·subst e
     obtain⟨C,h1,h2⟩:=c.cov j g
     exact(hm j).mpr (.inl ⟨C,h1,j0t.mpr ⟨j,h2,d1g a⟩,h2⟩)
   ·have:j=k:=by omega
    subst this;exact kN
theorem Cl.all {rows:List Nat}{cls:List (List Nat)}(c:Cl rows rows.length cls){C:List Nat}:C∈cls↔∃p,p<rows.length/\C=comp rows p:=by
 constructor
 ·intro h
  obtain⟨p,hp⟩:=List.exists_mem_of_ne_nil C (c.ne C h)
  exact⟨p,c.lt C h p hp,u0w (c.inc C h) hp (fun j hj=>c.con C h p hp j hj) (fun i hi j hj a=>c.cl C h i hi j hj a)⟩
 ·rintro⟨p,hp,rfl⟩
  obtain⟨C,h1,h2⟩:=c.cov p hp
  rw[<- u0w (c.inc C h1) h2 (fun j hj=>c.con C h1 p h2 j hj) (fun i hi j hj a=>c.cl C h1 i hi j hj a)]
  exact h1
open Classical in
noncomputable def a0u (rows:List Nat)(n:Nat):List (List Nat):=((List.range n).filter fun p=>decide (∀j,Conn rows p j->p<=j)).map (comp rows)
theorem m1e {p:Nat->Prop}(h:∃n,p n):∃n,p n/\∀k,p k->n<=k:=by
 obtain⟨n,hn⟩:=h
 induction n using Nat.strongRecOn with
 | ind n ih =>
  by_cases g:∃m,m<n/\p m
  ·obtain⟨m,h1,h2⟩:=g
   exact ih m h1 h2
  ·refine⟨n,hn,fun k hk=>?_⟩
   rcases Nat.lt_or_ge k n with z | z
   ·exact absurd ⟨k,z,hk⟩ g
   ·exact z
open Classical in
theorem g0r {rows:List Nat}{n:Nat}(hn:n<=rows.length){p:Nat}(hp:p<rows.length):comp rows p∈a0u rows n↔∃q,q<n/\Conn rows p q:=by
 unfold a0u
 rw[List.mem_map]
 constructor
 ·rintro⟨q,hq,e⟩
  obtain⟨h1,h2⟩:=List.mem_filter.mp hq
  have h1:=List.mem_range.mp h1
  refine⟨q,h1,?_⟩
  have:q∈comp rows p:=by rw[<- e,b0p];exact .refl (by omega)
  exact b0p.mp this
 ·rintro⟨q,h1,h2⟩
  obtain⟨l,l1,l2⟩:=m1e (p:=fun j=>Conn rows p j) ⟨q,h2⟩
  refine⟨l,List.mem_filter.mpr ⟨List.mem_range.mpr (by have:=l2 q h2;omega),decide_eq_true fun j c=>l2 j (l1.trans c)⟩,(n0b l1).symm⟩
theorem y0o {rows:List Nat}{n:Nat}(hn:n<rows.length):(comp rows n∈a0u rows n->a0u rows (n+1)=a0u rows n)/\(comp rows n∉a0u rows n->a0u rows (n+1)=a0u rows n++[comp rows n]):=by
 have key:comp rows n∈a0u rows n↔¬ ∀j,Conn rows n j->n<=j:=by
  rw[g0r (Nat.le_of_lt hn) hn]
  constructor
  ·rintro⟨q,h1,h2⟩ h
   have:=h q h2
   omega
  ·intro h
   apply Classical.byContradiction
   intro z
   refine h fun j c=>?_
   rcases Nat.lt_or_ge j n with g | g
   ·exact absurd ⟨j,g,c⟩ z
   ·exact g
 constructor
 ·intro h
  have h':=key.mp h
  unfold a0u
  rw[List.range_succ,List.filter_append,List.map_append,List.filter_cons_of_neg (by simpa using h')]
  simp
 ·intro h
  have h':∀j,Conn rows n j->n<=j:=by
   apply Classical.byContradiction
   intro z
   exact h (key.mpr z)
  unfold a0u
  rw[List.range_succ,List.filter_append,List.map_append,List.filter_cons_of_pos (by simpa using h')]
  simp
def castL (C:List Nat):List Int:=C.map fun x=>((x:Nat):Int)
open Classical in
theorem s0o {rows:List Nat}{n:Nat}(hn:n<=rows.length):((a0u rows n).map castL).Pairwise leL:=by
 unfold a0u
 rw[List.map_map]
 refine List.pairwise_map.mpr ?_
 refine List.Pairwise.imp_of_mem (fun{p q} hp hq lt=>?_) (List.Pairwise.filter _ List.pairwise_lt_range)
 obtain⟨p1,p2⟩:=List.mem_filter.mp hp
 obtain⟨q1,q2⟩:=List.mem_filter.mp hq
 have p2:=of_decide_eq_true p2
 have q2:=of_decide_eq_true q2
 have p1:=List.mem_range.mp p1
 have q1:=List.mem_range.mp q1
 have head:∀x,x<rows.length->(∀j,Conn rows x j->x<=j)->∃r,comp rows x=x::r:=fun x hx h=>by
  have hm:x∈comp rows x:=b0p.mpr (.refl hx)
  have up:=h0y rows x
  cases hc:comp rows x with
  | nil=>rw[hc]at hm;cases hm
  | cons y r =>
   rw[hc]at hm up
   have hy:Conn rows x y:=b0p.mp (by rw[hc];exact List.mem_cons_self ..)
   have:=h y hy
   rcases List.mem_cons.mp hm with e | e
   ·exact⟨r,by rw[e]⟩
   ·have:=(List.pairwise_cons.mp up).1 x e
    omega
 obtain⟨r1,e1⟩:=head p (by omega) p2
 obtain⟨r2,e2⟩:=head q (by omega) q2
 show HT.lexLt (castL (comp rows q)) (castL (comp rows p))=false
 rw[e1,e2]
 show HT.lexLt (((q:Nat):Int)::r2.map _) (((p:Nat):Int)::r1.map _)=false
 rw[HT.lexLt_cons,if_neg (by omega)]
 exact decide_eq_false (by omega)
open Classical in
theorem q0g {rows:List Nat}{n:Nat}(hn:n<=rows.length):(a0u rows n).Nodup:=by
 unfold a0u
 refine List.pairwise_map.mpr ?_
 refine List.Pairwise.imp_of_mem (fun{p q} hp hq lt e=>?_) (List.Pairwise.filter _ List.pairwise_lt_range)
 obtain⟨q1,q2⟩:=List.mem_filter.mp hq
 have q2:=of_decide_eq_true q2
 have q1:=List.mem_range.mp q1
 have p1:=List.mem_range.mp (List.mem_filter.mp hp).1
 have:p∈comp rows q:=by rw[<- e,b0p];exact .refl (by omega)
 have:=q2 p (b0p.mp this)
 omega
theorem Cl.sorted {rows:List Nat}{cls:List (List Nat)}(c:Cl rows rows.length cls){nss:List (List Int)}(pm:nss.Perm (cls.map castL))(so:nss.Pairwise leL):nss=(a0u rows rows.length).map castL:=by
 refine t0l (pm.trans (List.Perm.map _ ?_)) so (s0o (Nat.le_refl _))
 refine(List.perm_ext_iff_of_nodup c.nd (q0g (Nat.le_refl _))).mpr fun C=>?_
 rw[c.all]
 constructor
 ·rintro⟨p,hp,rfl⟩
  exact(g0r (Nat.le_refl _) hp).mpr ⟨p,hp,.refl hp⟩
 ·intro h
  unfold a0u at h
  obtain⟨p,hp,rfl⟩:=List.mem_map.mp h
  exact⟨p,List.mem_range.mp (List.mem_filter.mp hp).1,rfl⟩
def e0z (m:Nat)(rs:List Nat):D:=.tup [nD m,.tup (a0e rs)]
def v0m:ASp:=fun ss q=>∃r:Nat,ss=[nv r]/\r<4096/\q (.f (a0e (c0a r))) [nv r]
def k0t:ASp:=fun ss q=>∃r:Nat,ss=[nv r]/\r<4096/\q (.d (nD (c0a r).length)) [nv r]
theorem u0q {r:Nat}(h:1<=r):0<(c0a r).length:=by
 have:r.log2∈c0a r:=by
  unfold c0a
  rw[List.mem_filter,List.mem_range]
  have h0:r≠0:=by omega
  refine⟨by unfold l0k;rw[if_neg h0];omega,?_⟩
  exact Nat.testBit_log2 h0
 exact List.length_pos_of_mem this
theorem m1s {r:Nat}(h:r<4096):(c0a r).length<=12:=by
 unfold c0a
 have:=List.length_filter_le r.testBit (List.range (l0k r))
 rw[List.length_range]at this
 have hb:l0k r<=12:=L2.j1z (m:=12) (by omega)
 omega
def lstN (t:List Nat):D:=.lst (a0e t)
theorem g0l (C:List Nat):lstI (castL C)=lstN C:=by unfold lstI lstN castL a0e;rw[List.map_map];rfl
structure d0i (rows:List Nat):Prop where
 l1:1<=rows.length
 l24:rows.length<=24
 r:∀r∈rows,1<=r/\r<4096
theorem d0i.at {rows:List Nat}(h:d0i rows){i:Nat}(hi:i<rows.length):1<=rw1 rows i/\rw1 rows i<4096:=h.r _ (by unfold rw1;rw[List.getD_eq_getElem?_getD,List.getElem?_eq_getElem hi];exact List.getElem_mem hi)
def orN (rows:List Nat)(C:List Nat):Nat:=C.foldl (fun a i=>a ||| rw1 rows i) 0
def wt (r:Nat):Nat:=(c0a r).length
section
variable {n:Nat}{js:List Nat}{c:En->Prop}{g:AG}{tc:AT}{te:AE}{q:List D->En->Prop}
theorem g0s {α:Type}(h:α->D)(p:α->Bool)(f:α->D){xs:List α}{ρ:En}(hc:c ρ)(hs:∀x acc (N:List D->En->Prop),x∈xs->N (if p x=true then acc++[f x]else acc) ρ->h1s n js g tc te ρ (h x) acc N)
  (hd:q ((xs.filter p).map f) ρ):j0c n js c g tc te q (xs.map h) [] ρ:=by
 refine f0s (fun k acc ρ'=>ρ'=ρ/\acc=((xs.take k).filter p).map f) (fun k acc ρ' _ h=>h.1▸hc) ?_ ?_ ρ ⟨rfl,rfl⟩
 ·rintro k d acc _ N hk ⟨rfl,rfl⟩ hN
  rw[List.getElem?_map]at hk
  obtain⟨x,e1,rfl⟩:=Option.map_eq_some_iff.mp hk
  refine hs x _ N (List.mem_of_getElem? e1) (hN _ _ ⟨rfl,?_⟩)
  rw[List.take_add_one,e1,Option.toList_some,List.filter_append,List.map_append]
  cases hp:p x <;> simp[hp]
 ·rintro acc _ ⟨rfl,rfl⟩
  rw[List.length_map,List.take_length];exact hd
end
theorem v0s {κ:Type} [DecidableEq κ](k k':κ)(d:D):∀(kvs:List (κ×D)),valD (putD kvs k d) k'=if k'=k then some d else valD kvs k':=by
 have rep:∀kvs:List (κ×D),(kvs.any fun kv=>decide (kv.1=k))=true->valD (kvs.map fun kv=>if kv.1=k then(kv.1,d)else kv) k'=if k'=k then some d else valD kvs k':=by
  intro kvs
  induction kvs with
  | nil=>intro h;cases h
  | cons p r ih =>
   intro h
   rw[List.map_cons]
   by_cases e:p.1=k
   ·rw[if_pos e]
    by_cases e':k'=k
    ·rw[if_pos e']
     simp[valD,List.find?_cons,e,e']
    ·rw[if_neg e']
     have ne:¬p.1=k':=fun z=>e' (z.symm.trans e)
     have tail:∀r:List (κ×D),valD (r.map fun kv=>if kv.1=k then(kv.1,d)else kv) k'=valD r k':=by
      intro r
      induction r with
      | nil=>rfl
      | cons q r ih =>
       rw[List.map_cons]
       by_cases eq:q.1=k
       ·have nq:¬q.1=k':=fun z=>e' (z.symm.trans eq)
        rw[if_pos eq]
        unfold valD at ih ⊢
        rw[List.find?_cons_of_neg (by simpa using nq),List.find?_cons_of_neg (by simpa using nq)]
        exact ih
       ·rw[if_neg eq]
        by_cases nq:q.1=k'
        ·unfold valD
         rw[List.find?_cons_of_pos (by simpa using nq),List.find?_cons_of_pos (by simpa using nq)]
        ·unfold valD at ih ⊢
         rw[List.find?_cons_of_neg (by simpa using nq),List.find?_cons_of_neg (by simpa using nq)]
         exact ih
     have t:=tail r
     unfold valD at t ⊢
     rw[List.find?_cons_of_neg (by simpa using ne),List.find?_cons_of_neg (by simpa using ne)]
     exact t
   ·rw[if_neg e]
    have h':(r.any fun kv=>decide (kv.1=k))=true:=by simpa [e] using h
    have ih':=ih h'
    by_cases ek:p.1=k'
    ·have nk:¬k'=k:=fun z=>e (ek.trans z)
     rw[if_neg nk]
     unfold valD
     rw[List.find?_cons_of_pos (by simpa using ek),List.find?_cons_of_pos (by simpa using ek)]
    ·unfold valD at ih' ⊢
     rw[List.find?_cons_of_neg (by simpa using ek),List.find?_cons_of_neg (by simpa using ek)]
     exact ih'
 intro kvs
 unfold putD
 split
 ·rename_i h;exact rep kvs h
 ·rename_i h
  have hn:∀kv∈kvs,¬kv.1=k:=fun kv hkv e=>h (List.any_eq_true.mpr ⟨kv,hkv,decide_eq_true e⟩)
  unfold valD
  rw[List.find?_append]
  by_cases e':k'=k
  ·rw[if_pos e']
   have:(kvs.find? fun kv=>decide (kv.1=k'))=none:=List.find?_eq_none.mpr fun kv hkv=>by rw[e'];simpa using hn kv hkv
   rw[this]
   simp[List.find?_cons,e']
  ·rw[if_neg e']
   have:([(k,d)].find? fun kv=>decide (kv.1=k'))=none:=by rw[List.find?_cons_of_neg (by simpa using fun z:k=k'=>e' z.symm)];rfl
   rw[this]
   cases (kvs.find? fun kv=>decide (kv.1=k')) <;> rfl
def stN (R:List Nat):List Nat:=(List.range R.length).map (fst1 R)
theorem g0v (R:List Nat):(stN R).length=R.length:=by simp[stN]
theorem j0i {R:List Nat}{t:Nat}(h:t<R.length):(stN R).getD t 0=fst1 R t:=by
 rw[s0h (by rw[g0v];exact h)]
 simp[stN]
def metD (R:List Nat)(k:Nat)(kvs:List (Key×D)):Prop:=∀r:Nat,valD kvs (.inl (r:Int))=if r∈R.take k then some (nD (R.idxOf r))else none
def d1m:ASp:=fun ss q=>∃R:List Nat,ss=[.vl (.lst (a0e R))]/\R.length<=1000/\q (.f (a0e (stN R))) [.vl (.lst (a0e R))]
def u0l (M:Nat->Bool)(kvs:List (Key×D)):Prop:=∀t:Nat,(valD kvs (.inl (t:Int))).isSome=M t
theorem p0p {M:Nat->Bool}{kvs:List (Key×D)}(h:u0l M kvs)(x:Nat)(d:D):u0l (fun t=>M t||t==x) (putD kvs (.inl (x:Int)) d):=fun t=>by
 rw[v0s]
 by_cases e:t=x
 ·subst e;simp
 ·have:¬(Sum.inl (t:Int):Key) = .inl (x:Int):=fun z=>e (by injection z with z;omega)
  rw[if_neg this,h t]
  simp[e]
def d1k:ASp:=fun ss q=>∃(N:Net),ss=[.vl (netD N),.ow (a0e (stN (b0g N)))]/\n0i N/\∀kvs,u0l (b0s N) kvs->q (.n (.dk kvs)) [.vl (netD N),.ow (a0e (stN (b0g N)))]
def STid:ASp:=fun ss q=>∃N:Net,ss=[.vl (netD N)]/\n0i N/\q (.d (netD (tidN N))) [.vl (netD N)]
theorem d1v {i j:Nat}{d1 d2:D}{ρ:En}{k:En->Prop}(h:k (pt (pt ρ i (.vl d1)) j (.vl d2))):y0m 2 (k0a (j0z i) (k0a (j0z j) gaNil)) (.tup [d1,d2]) ρ k:=h
theorem r0x {m:Nat}{f:Nat->Nat}{p:Nat×Nat}{r:List (Nat×Nat)}{k:Nat}{M:Nat->Bool}{t:Nat}:h0f m f (p::r) k M t=(h0f m f r (k+1) M t||(h0f m f r (k+1) M (m+k)&&(t==f p.1||t==f p.2))):=rfl
theorem w0t (n:Nat)(xs:List Nat):inD (nD n) (a0e xs)=xs.contains n:=by
 unfold inD a0e
 rw[List.any_map]
 induction xs with
 | nil=>rfl
 | cons x xs ih =>
  rw[List.any_cons,List.contains_cons,ih]
  congr 1
  show eqD (nD x) (nD n)=(n==x)
  unfold eqD
  show decide ((x:Int)=(n:Int))=(n==x)
  by_cases h:n=x
  ·subst h;simp
  ·have:¬((x:Int)=(n:Int)):=by omega
   simp[h,this]
theorem c1e {neg:Bool}{r2:R}{ρ:En}{q:Ko}{xs:List Nat}{n:Nat}(hv:view ρ r2=some (.lst (a0e xs)))(hq:q (.d (.bl (if neg then !xs.contains n else xs.contains n))) ρ):gIn neg (.d (nD n)) r2 ρ q:=by
 unfold gIn
 have e1:view ρ (.d (nD n))=some (nD n):=rfl
 rw[e1,hv]
 refine⟨⟨rfl,List.all_eq_true.mpr fun d hd=>?_⟩,?_⟩
 ·obtain⟨x,_,rfl⟩:=List.mem_map.mp hd;rfl
 ·rw[w0t];exact hq
theorem m1u {neg:Bool}{r2:R}{ρ:En}{q:Ko}{xs:List Nat}{n:Nat}(hv:view ρ r2=some (.tup (a0e xs)))(hq:q (.d (.bl (if neg then !xs.contains n else xs.contains n))) ρ):gIn neg (.d (nD n)) r2 ρ q:=by
 unfold gIn
 have e1:view ρ (.d (nD n))=some (nD n):=rfl
 rw[e1,hv]
 refine⟨⟨rfl,List.all_eq_true.mpr fun d hd=>?_⟩,?_⟩
 ·obtain⟨x,_,rfl⟩:=List.mem_map.mp hd;rfl
 ·rw[w0t];exact hq
theorem f1k (P:Nat->Bool)(xs:List Nat)(x:Nat):a0e ((xs++[x]).filter P)=if P x=true then a0e (xs.filter P)++[nD x]else a0e (xs.filter P):=by
 rw[List.filter_append]
 unfold a0e
 rw[List.map_append]
 cases h:P x <;> simp[h]
theorem s0j:∀a b:List Nat,eqDs (a0e a) (a0e b)=decide (a=b)
 | [],[]=>rfl
 | [],_::_=>rfl
 | _::_,[]=>rfl
 | x::a,y::b=>by
  show(eqD (nD x) (nD y)&&eqDs (a0e a) (a0e b))=_
  rw[s0j a b]
  have:eqD (nD x) (nD y)=decide (x=y):=by
   unfold eqD
   show decide (((x:Nat):Int)=((y:Nat):Int))=_
   rw[decide_eq_decide];omega
  rw[this,Bool.eq_iff_iff]
  simp
theorem q0c (a b:List Nat):eqD (lstN a) (lstN b)=decide (a=b):=by
 unfold lstN
 show eqDs (a0e a) (a0e b)=_
 exact s0j a b
theorem m0k {rows:List Nat}{r:Nat}:∀(C:List Nat) (a:Nat),(C.foldl (fun a i=>a ||| rw1 rows i) a) &&& r=0↔a &&& r=0/\∀i∈C,rw1 rows i &&& r=0
 | [],a=>by simp
 | i::C,a=>by
  rw[List.foldl_cons,m0k C,Nat.and_or_distrib_right]
  have or0:∀x y:Nat,x ||| y=0↔x=0/\y=0:=fun x y=>by
   constructor
   ·intro h
    constructor
    ·apply Nat.eq_of_testBit_eq
     intro k
     have:=congrArg (fun z=>z.testBit k) h
     simp only[Nat.testBit_or,Nat.zero_testBit,Bool.or_eq_false_iff]at this
     rw[this.1,Nat.zero_testBit]
    ·apply Nat.eq_of_testBit_eq
     intro k
     have:=congrArg (fun z=>z.testBit k) h
     simp only[Nat.testBit_or,Nat.zero_testBit,Bool.or_eq_false_iff]at this
     rw[this.2,Nat.zero_testBit]
   ·rintro⟨rfl,rfl⟩;rfl
  rw[or0]
  simp only[List.mem_cons,forall_eq_or_imp]
  exact and_assoc
theorem w0q {rows:List Nat}{k:Nat}{C:List Nat}:f0p rows k C=(orN rows C &&& rw1 rows k != 0):=by
 rw[Bool.eq_iff_iff,j0t]
 unfold orN adj
 rw[bne_iff_ne,ne_eq,m0k]
 constructor
 ·rintro⟨i,hi,h⟩ ⟨_,z⟩
  exact h (z i hi)
 ·intro h
  apply Classical.byContradiction
  intro z
  refine h ⟨Nat.zero_and _,fun i hi=>?_⟩
  apply Classical.byContradiction
  intro y
  exact z ⟨i,hi,y⟩
theorem w0k {rows:List Nat}(h:d0i rows):∀(C:List Nat) (a:Nat),(∀i∈C,i<rows.length)->a<4096->C.foldl (fun a i=>a ||| rw1 rows i) a<4096
 | [],a,_,ha=>ha
 | i::C,a,hC,ha=>by
  rw[List.foldl_cons]
  exact w0k h C _ (fun j hj=>hC j (List.mem_cons_of_mem _ hj)) (Nat.or_lt_two_pow (n:=12) ha (h.at (hC i (List.mem_cons_self ..))).2)
theorem f1t {rows:List Nat}{C:List Nat}(h:C∈a0u rows rows.length):(∀i∈C,i<rows.length)/\C≠[]:=by
 unfold a0u at h
 obtain⟨p,hp,rfl⟩:=List.mem_map.mp h
 have:=List.mem_range.mp (List.mem_filter.mp hp).1
 exact⟨fun i hi=>(b0p.mp hi).lt.2,List.ne_nil_of_mem (b0p.mpr (.refl this))⟩
theorem j0q {C:List Nat}{n:Nat}(h:C.Pairwise (· < ·))(hb:∀x∈C,x<n):C.length<=n:=by
 have h2:=List.Nodup.length_le_of_subset (h.imp fun h=>by omega) (l₂:=List.range n) fun x hx=>List.mem_range.mpr (hb x hx)
 rwa [List.length_range]at h2
open Classical in
theorem c1u (rows:List Nat):(a0u rows rows.length).length<=rows.length:=by
 unfold a0u
 rw[List.length_map]
 refine Nat.le_trans (List.length_filter_le _ _) ?_
 rw[List.length_range];exact Nat.le_refl _
theorem f1u (rows:List Nat)(p:Nat):(comp rows p).length<=rows.length:=j0q (h0y rows p) fun x hx=>(b0p.mp hx).lt.2
theorem Cl.few {rows:List Nat}{k:Nat}{cls:List (List Nat)}(c:Cl rows k cls){C:List Nat}(h:C∈cls):C.length<=k:=j0q (c.inc C h) (c.lt C h)
def mnI:List Int->Int
 | []=>0
 | x::xs=>xs.foldl min x
theorem p0n:∀(xs:List Int) (x:Int),(xs.foldl min x∈x::xs)/\∀a∈x::xs,xs.foldl min x<=a
 | [],x=>⟨by simp,by simp⟩
 | y::xs,x=>by
  rw[List.foldl_cons]
  obtain⟨h1,h2⟩:=p0n xs (min x y)
  refine⟨?_,fun a ha=>?_⟩
  ·rcases List.mem_cons.mp h1 with e | e
   ·rw[e]
    rcases Int.le_total x y with g | g
    ·rw[Int.min_eq_left g];simp
    ·rw[Int.min_eq_right g];simp
   ·exact List.mem_cons_of_mem _ (List.mem_cons_of_mem _ e)
  ·have hm:=h2 (min x y) (List.mem_cons_self ..)
   rcases List.mem_cons.mp ha with rfl | ha
   ·omega
   ·rcases List.mem_cons.mp ha with rfl | ha
    ·omega
    ·exact h2 a (List.mem_cons_of_mem _ ha)
theorem g1w {ns:List Int}{M:Int}(h:M∈ns)(hl:∀a∈ns,M<=a):mnI ns=M:=by
 cases ns with
 | nil=>cases h
 | cons x xs =>
  obtain⟨h1,h2⟩:=p0n xs x
  have a:=hl _ h1
  have b:=h2 M h
  show xs.foldl min x=M
  omega
def rsD (b:Bool)(rows:List Nat):D:=if b=true then .lst (a0e rows)else .tup (a0e rows)
def t0d:ASp:=fun ss q=>∃(b:Bool) (rows C:List Nat),ss=[.vl (rsD b rows),.vl (lstN C)]/\d0i rows/\(∀i∈C,i<rows.length)/\C.length<=100/\q (.d (nD (orN rows C))) [.vl (rsD b rows),.vl (lstN C)]
def l0x:ASp:=fun ss q=>∃(b:Bool) (rows:List Nat),ss=[.vl (rsD b rows)]/\d0i rows/\q (.f ((a0u rows rows.length).map lstN)) [.vl (rsD b rows)]
def n0z (rows:List Nat)(L:List (List Nat)):Int:=(L.map fun C=>((wt (orN rows C):Nat):Int) - 1).sum
def unlL (rows ps:List Nat):Int:=(ps.length:Int)+mnI (ps.map fun p=>((wt (rw1 rows p):Nat):Int)) - 2
noncomputable def b1x (rows:List Nat):Int:=n0z rows (a0u rows rows.length)
def q0s (rows:List Nat)(L:List (List Nat)):Prop:=L.length<=24/\∀C∈L,C≠[]/\C.length<=24/\∀i∈C,i<rows.length
def g1c:ASp:=fun ss q=>∃(rows:List Nat) (L:List (List Nat)) (s1:Sv),(s1 = .ow (L.map lstN)∨s1 = .vl (.lst (L.map lstN)))/\ss=[.vl (.tup (a0e rows)),s1]/\d0i rows/\q0s rows L/\q (.d (.int (n0z rows L))) [.vl (.tup (a0e rows)),s1]
theorem n0a {rows:List Nat}(hR:d0i rows):q0s rows (a0u rows rows.length):=by
 have l24:=hR.l24
 refine⟨by have:=c1u rows;omega,fun C hC=>?_⟩
 obtain⟨h1,h2⟩:=f1t hC
 refine⟨h2,?_,h1⟩
 unfold a0u at hC
 obtain⟨p,_,rfl⟩:=List.mem_map.mp hC
 have:=f1u rows p
 omega
def fpl (rows:List Nat):List Nat:=(List.range rows.length).filter fun p=>decide (1<wt (rw1 rows p)) && !((rows.take p).contains (rw1 rows p))
def v0n:ASp:=fun ss q=>∃rows:List Nat,ss=[.vl (.tup (a0e rows))]/\d0i rows/\q (.f (a0e (fpl rows))) [.vl (.tup (a0e rows))]
def unlZ (rows:List Nat):Int:=unlL rows (fpl rows)
noncomputable def y0k (rows:List Nat):D:=.tup [.int (b1x rows),.tup [.str "hang",.lst ((a0u rows rows.length).map lstN)]]
def unlD (rows:List Nat):D:=.tup [.int (unlZ rows),.tup [.str "unlike",.lst (a0e (fpl rows))]]
open Classical in
noncomputable def bndD (rows:List Nat):D:=if fpl rows=[]then y0k rows else if b1x rows<=unlZ rows then unlD rows else y0k rows
theorem h1b {rows:List Nat}{p:Nat}(h:p∈fpl rows):p<rows.length:=List.mem_range.mp (List.mem_filter.mp h).1
theorem u0s (rows:List Nat):(fpl rows).length<=rows.length:=by
 unfold fpl
 refine Nat.le_trans (List.length_filter_le _ _) ?_
 rw[List.length_range];exact Nat.le_refl _
def SUnl:ASp:=fun ss q=>∃(rows ps:List Nat) (s1:Sv),(s1 = .ow (a0e ps)∨s1 = .vl (lstN ps))/\ss=[.vl (.tup (a0e rows)),s1]/\d0i rows/\ps≠[]/\ps.length<=24/\(∀p∈ps,p<rows.length)/\q (.d (.int (unlL rows ps))) [.vl (.tup (a0e rows)),s1]
def d1o:ASp:=fun ss q=>∃(m:Nat) (rows:List Nat),ss=[.vl (e0z m rows)]/\d0i rows/\q (.d (bndD rows)) [.vl (e0z m rows)]
section
variable {P:Program}{w:World}{K:PySem.W.Frag}{mg:Str->Option Value}{base:Heap}
theorem r0l (dn:DefN K mg "givens_of" f0n ["row"])(B:BI mg):OkN P w K mg base 1 "givens_of" ["row"] (spA K v0m):=by
 refine dn.aok2 (k:=0) q0z (fun j=>j==0) [] v0m rfl (fun f cdv A outer s H E hr=>have hu:=d0x hr;⟨_,(a0n (b0h (e0l ["given"] [0] rfl (Blk.of (a0i f0n) l0a) (e0d rfl B.range_ (a0c (i1p K PySem.F.plainAttrs_int PySem.F.slot_int_bit_length PySem.F.type_int_bit_length i1x (pv 0)) a0g)) (fun _ _ _ _ nd=>(a0q (i:=0) nd rfl (by first | exact Or.inl rfl | exact Or.inr rfl))) (fun _ _ _ _=>(k0j (g0i K (b0m r0j (b0m l1w (pv 1) (pv 0)) a0r) (fun _=>rfl)))) (fun _ _ _ _=>(pv 0))))),(a0w (b0t (d0z (a0a (e1a a0b) a0d)) (a0h rfl) (i0e (a0l b0j (a0l k0k a0b a0b) a0t)) a0b))⟩) ?_
 rintro ss q ⟨r,rfl,hr,hq⟩
 refine⟨rfl,rfl,?_⟩
 have hb:l0k r<=12:=by
  unfold l0k
  split
  ·omega
  ·rename_i h0
   have:=(Nat.log2_lt h0).mpr (show r<2^12 by omega)
   omega
 have eb:((Builtin.Int.intBits (r:Int):Nat):Int)=((l0k r:Nat):Int):=by rw[f1x]
 refine⟨⟨by omega,by omega⟩,by rw[e0c];omega,?_⟩
 refine f0s (fun k acc ρ=>acc=a0e ((List.range k).filter r.testBit)/\ρ=[nv r]) (fun _ _ _ _ _=>trivial) ?_ ?_ _ ⟨rfl,rfl⟩
 ·rintro k d acc _ M hk ⟨rfl,rfl⟩ hM
  obtain⟨lt,rfl⟩:=l0q hk
  rw[Int.zero_add]
  refine⟨Int.natCast_nonneg _,?_⟩
  show if(Builtin.bitAnd ((r:Int) / 2^((k:Int).toNat)) 1 != 0)=true then M (a0e ((List.range k).filter r.testBit)++[nD k]) [nv r]else M (a0e ((List.range k).filter r.testBit)) [nv r]
  rw[k1a]
  cases e:r.testBit k with
  | true=>exact hM _ _ ⟨by rw[List.range_succ,List.filter_append,<- c0r];simp[e],rfl⟩
  | false=>exact hM _ _ ⟨by rw[List.range_succ,List.filter_append];simp[e],rfl⟩
 rintro acc _ ⟨rfl,rfl⟩
 rw[e0c,eb,Int.toNat_natCast]
 exact hq
theorem b1d (dn:DefN K mg "weight" l0o ["row"])(B:BI mg)(g_givens_of:OkN P w K mg base 1 "givens_of" ["row"] (spA K v0m)):OkN P w K mg base 2 "weight" ["row"] (spA K k0t):=by
 refine dn.aok2 (k:=1) a1c (fun j=>j==0) [] k0t rfl (fun f cdv A outer s H E hr=>have hu:=d0x hr;⟨_,(a0n (b0h (a0s (b0d K) rfl B.len_ c0v (a0c (b0x g_givens_of (hr.mono (by decide)) (a0c (pv 0) a0g)) a0g)))),(a0w (b0f b0v (a0a (a0o (a0a a0b a0d)) a0d)))⟩) ?_
 rintro ss q ⟨r,rfl,hr,hq⟩
 refine⟨rfl,rfl,rfl,r,rfl,hr,?_⟩
 show q (.d (.int (((a0e (c0a r)).length:Nat):Int))) [nv r]
 rw[a0k];exact hq
theorem r0m (dn:DefN K mg "givens_in" g0z ["rows", "places"])(B:BI mg):OkN P w K mg base 1 "givens_in" ["rows", "places"] (spA K t0d):=by
 refine dn.aok2 (k:=0) f0w (fun j=>j==0||j==1) [.un,.un] t0d rfl (fun f cdv A outer s H E hr=>have hu:=d0x hr;⟨_,(a0f (b0e (i:=2) f0w.nd rfl (by first | exact Or.inl rfl | exact Or.inr rfl) a0r)
  (a0f (g0j PassesOwn.never rfl (c0d K (pv 1)) (a0q (i:=3) f0w.nd rfl (by first | exact Or.inl rfl | exact Or.inr rfl))
  (a0n (g1r (i:=2) f0w.nd rfl (by first | exact Or.inl rfl | exact Or.inr rfl) (c0w (b0b K) (pv 0) (pv 3) (fun _ _=>rfl)) g1y)))
  (a0n (b0h (pv 2))))),(a0j (a0y a0t rfl)
  (a0j (e0k (pin:=(fun j=>j==1)) (b0n a0b) (a0h rfl)
  (z0y (a0l b0r a0b a0b) rfl))
  (a0w a0b)))⟩) ?_
 rintro ss q ⟨b,rows,C,rfl,hR,hC,hl,hq⟩
 cases b
 ·refine⟨rfl,rfl,?_⟩
  refine k0c nD (fun k ρ=>∃s3,ρ=[.vl (.tup (a0e rows)),.vl (lstN C),nv (orN rows (C.take k)),s3]) (fun _ _ _=>trivial) ?_ ?_ ⟨.un,rfl⟩
  ·rintro k p _ M hk ⟨s3,rfl⟩ hM
   have hp:=hC p (List.mem_of_getElem? hk)
   refine h0x (i:=p) (ds:=a0e rows) (d:=nD (rw1 rows p)) rfl (by rw[show rw1 rows p=rows.getD p 0 from rfl];exact e0i hp) ?_
   refine hM _ ⟨nv p,?_⟩
   have e:orN rows (C.take (k+1))=orN rows (C.take k) ||| rw1 rows p:=by
    unfold orN
    rw[List.take_add_one,hk,List.foldl_append];rfl
   rw[e,<- x0z (w0j _ _)]
   rfl
  ·rintro _ ⟨s3,rfl⟩
   rw[List.take_length]
   exact hq
 ·refine⟨rfl,rfl,?_⟩
  refine k0c nD (fun k ρ=>∃s3,ρ=[.vl (.lst (a0e rows)),.vl (lstN C),nv (orN rows (C.take k)),s3]) (fun _ _ _=>trivial) ?_ ?_ ⟨.un,rfl⟩
  ·rintro k p _ M hk ⟨s3,rfl⟩ hM
   have hp:=hC p (List.mem_of_getElem? hk)
   refine c1d (i:=p) (ds:=a0e rows) (d:=nD (rw1 rows p)) rfl (by rw[show rw1 rows p=rows.getD p 0 from rfl];exact e0i hp) ?_
   refine hM _ ⟨nv p,?_⟩
   have e:orN rows (C.take (k+1))=orN rows (C.take k) ||| rw1 rows p:=by
    unfold orN
    rw[List.take_add_one,hk,List.foldl_append];rfl
   rw[e,<- x0z (w0j _ _)]
   rfl
  ·rintro _ ⟨s3,rfl⟩
   rw[List.take_length]
   exact hq
theorem p0k (dn:DefN K mg "classes_of" d0d ["rows"])(B:BI mg)(g_givens_in:OkN P w K mg base 1 "givens_in" ["rows", "places"] (spA K t0d)):OkN P w K mg base 2 "classes_of" ["rows"] (spA K l0x):=by
 refine dn.aok2 (k:=1) d0h (fun j=>j==0) [.un,.un,.un,.un] l0x rfl (fun f cdv A outer s H E hr=>have hu:=d0x hr;⟨_,(a0f (b0e (i:=1) d0h.nd rfl (by first | exact Or.inl rfl | exact Or.inr rfl) (h0r a0g))
  (a0f (g0j PassesOwn.never rfl (n1w (p0h K rfl B.enumerate_ (a0c (pv 0) a0g)) (a1q K rfl B.enumerate_ (a0c (pv 0) a0g))) (d0k K (n:=2) rfl (a0v (a0q (i:=2) d0h.nd rfl (by first | exact Or.inl rfl | exact Or.inr rfl)) (a0v (a0q (i:=3) d0h.nd rfl (by first | exact Or.inl rfl | exact Or.inr rfl)) d0j)))
  (a0f (b0e (i:=4) d0h.nd rfl (by first | exact Or.inl rfl | exact Or.inr rfl) (e0l ["places"] [0,3] rfl (Blk.of (a0i d0d) f0h) (c0d K (pv 1)) (fun _ _ _ _ nd=>(a0q (i:=0) nd rfl (by first | exact Or.inl rfl | exact Or.inr rfl))) (fun _ _ _ _=>(k0j (g0i K (b0m r0j (b0x g_givens_in (hr.mono (by decide)) (a0c (pv 1) (a0c (pv 0) a0g))) (pv 2)) (fun _=>rfl)))) (fun _ _ _ _=>(pv 0))))
  (a0f (i0y (i:=1) ["places"] [4] d0h.nd rfl (by first | exact Or.inl rfl | exact Or.inr rfl) rfl (Blk.of (a0i d0d) f0h) (c0d K (pv 1)) (fun _ _ _ _ nd=>(a0q (i:=0) nd rfl (by first | exact Or.inl rfl | exact Or.inr rfl))) (fun _ _ _ _=>(k0j (b0w (r0g K hr.units) (pv 0) (pv 1) rfl))) (fun _ _ _ _=>(pv 0)))
  (a0n (f0o (h0t K PySem.F.plainAttrs_list PySem.F.slot_list_append PySem.F.type_list_append d0g (pv 1) (a0c (a0s (n0f K) rfl B.sorted_ k0h (a0c (b0m (i1s K) (e1r ["other", "places"] [] rfl (Blk.of (a0i d0d) f0h) (c0d K (pv 4)) (fun _ _ _ _ nd=>(a0q (i:=1) nd rfl (by first | exact Or.inl rfl | exact Or.inr rfl))) (fun _ _ _ _=>d0e) (fun _ _ _ _=>(c0d K (pv 1))) (fun _ _ _ _ nd=>(a0q (i:=0) nd rfl (by first | exact Or.inl rfl | exact Or.inr rfl))) (fun _ _ _ _=>d0e) (fun _ _ _ _=>(pv 0))) (h0r (a0c (pv 2) a0g))) a0g)) a0g)))))))
  (a0n (b0h (a0s (v0c K hr.units) rfl B.sorted_ k0h (a0c (pv 1) a0g)))))),(a0j (a0y (f0k a0d) rfl)
  (a0j (e0k (pin:=(fun j=>j==0)) (h1w (k0i (a0a a0b a0d)) (q0x (a0a a0b a0d))) (c0l (a0p (a0h rfl) (a0p (a0h rfl) b0y (fun _ _ _=>b0i)) (fun _ _ _=>b0i)))
  (a0j (a0y (b0t (b0n a0b) (a0h rfl) (i0e (a0l b0j (a0o (a0a a0b (a0a a0b a0d))) a0b)) a0b) rfl)
  (a0j (g0w (b0t (b0n a0b) (a0h rfl) (b0c (a0l (b1b true) a0b a0b)) a0b) rfl)
  (e0a (f0l a0b (a0a (b0f n0e (a0a (a0l i1t (z0i (n2:=1) (b0n a0b) (a0h rfl) c0h (b0n a0b) (a0h rfl) c0h a0b) (f0k (a0a a0b a0d))) a0d)) a0d))))))
  (a0w (b0f v0b (a0a a0b a0d)))))⟩) ?_
 rintro ss q ⟨b,rows,rfl,hR,hq⟩
 have l24:=hR.l24
 cases b
 ·refine⟨rfl,rfl,?_⟩
  refine cutS (fun ρ=>ρ=[.vl (.tup (a0e rows)),.ow [],.un,.un,.un]) (fun M hM=>⟨by simp,hM _ rfl⟩) ?_
  rintro _ rfl
  refine cutS (fun ρ=>∃cls s2 s3 s4,ρ=[.vl (.tup (a0e rows)),.ow (cls.map lstN),s2,s3,s4]/\Cl rows rows.length cls/\cls.length<=24) (fun M hM=>.inl (f0y (fun k ρ=>k<=rows.length/\∃cls s2 s3 s4,ρ=[.vl (.tup (a0e rows)),.ow (cls.map lstN),s2,s3,s4]/\Cl rows k cls/\cls.length<=k) (fun _ _ _ _=>trivial) ?_ ?_ _ ⟨Nat.zero_le _,[],.un,.un,.un,rfl,Cl.start,Nat.le_refl _⟩)) ?_
  ·rintro k d _ M2 hk ⟨_,cls,s2,s3,s4,rfl,hc,hcl⟩ hM2
   obtain⟨x,ex,rfl⟩:=e0g hk
   rw[List.getElem?_map]at ex
   obtain⟨r,er,rfl⟩:=Option.map_eq_some_iff.mp ex
   have lt:k<rows.length:=(List.getElem?_eq_some_iff.mp er).1
   have er':rw1 rows k=r:=by unfold rw1;rw[List.getD_eq_getElem?_getD,er];rfl
   rw[Nat.zero_add]
   refine d1v ?_
   show aSeq _ _ _ [.vl (.tup (a0e rows)),.ow (cls.map lstN),nv k,nv r,s4]
   refine cutS (fun ρ=>ρ=[.vl (.tup (a0e rows)),.ow (cls.map lstN),nv k,nv r,.ow ((metC rows k cls).map lstN)]) (fun M3 hM3=>⟨rfl,by rw[List.length_map];omega,?_⟩) ?_
   ·refine g0s lstN (f0p rows k) lstN rfl (fun C acc M4 hC hM4=>?_) (hM3 _ rfl)
    have cin:=hc.lt C hC
    refine⟨rfl,false,rows,C,rfl,hR,fun i hi=>by have:=cin i hi;omega,by have:=hc.few hC;omega,?_⟩
    have e2:truD (.int (Builtin.bitAnd ((orN rows C:Nat):Int) ((r:Nat):Int)))=f0p rows k C:=by
     rw[j0f,w0q,er']
     show((((orN rows C &&& r:Nat):Int)) != 0)=_
     rw[Bool.eq_iff_iff]
     simp
    show if truD (.int (Builtin.bitAnd ((orN rows C:Nat):Int) ((r:Nat):Int)))=true then _ else _
    rw[e2]
    cases hm:f0p rows k C with
    | true=>rw[hm]at hM4;exact hM4
    | false=>rw[hm]at hM4;exact hM4
   rintro _ rfl
   refine cutS (fun ρ=>ρ=[.vl (.tup (a0e rows)),.ow ((farC rows k cls).map lstN),nv k,nv r,.ow ((metC rows k cls).map lstN)]) (fun M3 hM3=>⟨rfl,by rw[List.length_map];omega,?_⟩) ?_
   ·refine g0s lstN (fun C=>!f0p rows k C) lstN rfl (fun C acc M4 hC hM4=>?_) (hM3 _ rfl)
    have e2:(((metC rows k cls).map lstN).any fun e=>eqD e (lstN C))=f0p rows k C:=by
     rw[List.any_map,Bool.eq_iff_iff,List.any_eq_true]
     constructor
     ·rintro⟨C',h1,h2⟩
      have h3:eqD (lstN C') (lstN C)=true:=h2
      rw[q0c]at h3
      have:=of_decide_eq_true h3
      subst this
      exact(List.mem_filter.mp h1).2
     ·intro h
      refine⟨C,List.mem_filter.mpr ⟨hC,h⟩,?_⟩
      show eqD (lstN C) (lstN C)=true
      exact i0o _
    refine p0y rfl rfl (fun e he=>?_) e2 ?_
    ·obtain⟨C',_,rfl⟩:=List.mem_map.mp he
     exact e0n _
    ·cases hm:f0p rows k C with
     | true=>rw[hm]at hM4;exact hM4
     | false=>rw[hm]at hM4;exact hM4
   rintro _ rfl
   have fl:(metC rows k cls).flatten.length<=24:=by
    have nd:=hc.flat
    have:=List.Nodup.length_le_of_subset nd (l₂:=List.range (k+1)) fun x hx=>?_
    ·rw[List.length_append,List.length_range,List.length_singleton]at this;omega
    ·rw[List.mem_range]
     rcases List.mem_append.mp hx with z | z
     ·obtain⟨C,h1,h2⟩:=List.mem_flatten.mp z
      have:=hc.lt C (List.mem_filter.mp h1).1 x h2
      omega
     ·rw[List.mem_singleton.mp z];omega
   have fc:(farC rows k cls).length<=cls.length:=List.length_filter_le _ _
   have hml:(metC rows k cls).length<=cls.length:=List.length_filter_le _ _
   have fa:(metC rows k cls).flatMap a0e=a0e (metC rows k cls).flatten:=by
    unfold a0e
    rw[List.map_flatten,List.flatMap_def]
   refine⟨rfl,s0r lstN a0e rfl (fun C acc M4 hC hacc hM4=>?_) ?_ ?_⟩
   ·obtain⟨ys,hy1,rfl,hy2⟩:=hacc
    have yl:(ys.flatMap a0e).length<=ys.length*24:=by
     clear hM4 hy1
     induction ys with
     | nil=>simp
     | cons y ys ih =>
      have h1:=ih fun z hz=>hy2 z (List.mem_cons_of_mem _ hz)
      have h2:=hc.few (List.mem_filter.mp (hy2 y (List.mem_cons_self ..))).1
      rw[List.flatMap_cons,List.length_append,a0k,List.length_cons];omega
    have cl24:=hc.few (List.mem_filter.mp hC).1
    have y24:ys.length*24<=24*24:=Nat.mul_le_mul (by omega) (Nat.le_refl _)
    refine s0q (fun j ac ρ=>ac=ys.flatMap a0e++a0e (C.take j)/\ρ=[.un,.vl (lstN C)]) ?_ ?_ ?_ _ _ ⟨by simp[a0e],rfl⟩
    ·rintro j ac ρ _ ⟨rfl,rfl⟩
     rw[List.length_append,a0k,List.length_take]
     exact⟨by first | rfl | trivial,by omega⟩
    ·rintro j d ac _ N2 hj ⟨rfl,rfl⟩ hN2
     unfold a0e at hj
     rw[List.getElem?_map]at hj
     obtain⟨y,ey,rfl⟩:=Option.map_eq_some_iff.mp hj
     refine hN2 _ _ ⟨?_,rfl⟩
     rw[List.take_add_one,ey,Option.toList_some,List.append_assoc]
     unfold a0e
     rw[List.map_append];rfl
    ·rintro ac _ ⟨rfl,rfl⟩
     rw[a0k,List.take_length]
     exact hM4
   ·rw[fa,a0k];omega
   ·rw[fa]
    refine⟨by simp,by rw[a0k];show _+1<=_;omega,?_⟩
    refine i0n (ns:=castL ((metC rows k cls).flatten++[k])) ?_ ?_ fun ns' pm up=>?_
    ·show some (D.lst (a0e (metC rows k cls).flatten++[nD k]))=_
     unfold castL a0e
     rw[List.map_map,List.map_append];rfl
    ·unfold castL;rw[List.length_map,List.length_append,List.length_singleton];omega
    ·have nn:∀x∈ns',∃y:Nat,x=(y:Int):=fun x hx=>by
      have:=pm.mem_iff.mp hx
      unfold castL at this
      obtain⟨y,_,rfl⟩:=List.mem_map.mp this
      exact⟨y,rfl⟩
     have eN:castL (ns'.map Int.toNat)=ns':=by
      unfold castL
      rw[List.map_map]
      conv=>rhs;rw[<- List.map_id ns']
      refine List.map_congr_left fun x hx=>?_
      obtain⟨y,rfl⟩:=nn x hx
      rfl
     have pN:(ns'.map Int.toNat).Perm ((metC rows k cls).flatten++[k]):=by
      have:=pm.map Int.toNat
      refine this.trans (List.Perm.of_eq ?_)
      unfold castL
      rw[List.map_map]
      conv=>rhs;rw[<- List.map_id ((metC rows k cls).flatten++[k])]
      exact List.map_congr_left fun x _=>rfl
     have uN:(ns'.map Int.toNat).Pairwise (· <= ·):=List.pairwise_map.mpr (List.Pairwise.imp (fun h=>by omega) up)
     have hnext:=hc.next lt pN uN
     generalize ns'.map Int.toNat=N at eN pN uN hnext
     subst eN
     refine⟨by rw[List.length_map];omega,hM2 _ ⟨by omega,farC rows k cls++[N],nv k,nv r,.ow ((metC rows k cls).map lstN),?_,hnext,by rw[List.length_append,List.length_singleton];omega⟩⟩
     rw[List.map_append]
     show[Sv.vl (.tup (a0e rows)),.ow ((farC rows k cls).map lstN++[lstI (castL N)]),nv k,nv r,_]=_
     rw[g0l]
     rfl
  ·rintro _ ⟨_,cls,s2,s3,s4,rfl,hc,hcl⟩
   have e:(g0q 0 (a0e rows)).length=rows.length:=by rw[c0p,a0k]
   rw[e]at hc hcl
   exact hM _ ⟨cls,s2,s3,s4,rfl,hc,by omega⟩
  rintro _ ⟨cls,s2,s3,s4,rfl,hc,hcl⟩
  refine o0p (nss:=cls.map castL) ?_ (by rw[List.length_map];omega) (fun ns hns=>?_) fun nss' pm so=>?_
  ·show some (D.lst (cls.map lstN))=_
   rw[List.map_map]
   congr 2
   exact List.map_congr_left fun C _=>(g0l C).symm
  ·obtain⟨C,hC,rfl⟩:=List.mem_map.mp hns
   have:=hc.few hC
   refine⟨by unfold castL;rw[List.length_map];omega,fun x hx=>?_⟩
   unfold castL at hx
   obtain⟨y,hy,rfl⟩:=List.mem_map.mp hx
   have:=hc.lt C hC y hy
   omega
  ·have:=hc.sorted pm so
   subst this
   have e:((a0u rows rows.length).map castL).map lstI=(a0u rows rows.length).map lstN:=by
    rw[List.map_map]
    exact List.map_congr_left fun C _=>g0l C
   rw[e]
   exact hq
 ·refine⟨rfl,rfl,?_⟩
  refine cutS (fun ρ=>ρ=[.vl (.lst (a0e rows)),.ow [],.un,.un,.un]) (fun M hM=>⟨by simp,hM _ rfl⟩) ?_
  rintro _ rfl
  refine cutS (fun ρ=>∃cls s2 s3 s4,ρ=[.vl (.lst (a0e rows)),.ow (cls.map lstN),s2,s3,s4]/\Cl rows rows.length cls/\cls.length<=24) (fun M hM=>.inr (f0y (fun k ρ=>k<=rows.length/\∃cls s2 s3 s4,ρ=[.vl (.lst (a0e rows)),.ow (cls.map lstN),s2,s3,s4]/\Cl rows k cls/\cls.length<=k) (fun _ _ _ _=>trivial) ?_ ?_ _ ⟨Nat.zero_le _,[],.un,.un,.un,rfl,Cl.start,Nat.le_refl _⟩)) ?_
  ·rintro k d _ M2 hk ⟨_,cls,s2,s3,s4,rfl,hc,hcl⟩ hM2
   obtain⟨x,ex,rfl⟩:=e0g hk
   rw[List.getElem?_map]at ex
   obtain⟨r,er,rfl⟩:=Option.map_eq_some_iff.mp ex
   have lt:k<rows.length:=(List.getElem?_eq_some_iff.mp er).1
   have er':rw1 rows k=r:=by unfold rw1;rw[List.getD_eq_getElem?_getD,er];rfl
   rw[Nat.zero_add]
   refine d1v ?_
   show aSeq _ _ _ [.vl (.lst (a0e rows)),.ow (cls.map lstN),nv k,nv r,s4]
   refine cutS (fun ρ=>ρ=[.vl (.lst (a0e rows)),.ow (cls.map lstN),nv k,nv r,.ow ((metC rows k cls).map lstN)]) (fun M3 hM3=>⟨rfl,by rw[List.length_map];omega,?_⟩) ?_
   ·refine g0s lstN (f0p rows k) lstN rfl (fun C acc M4 hC hM4=>?_) (hM3 _ rfl)
    have cin:=hc.lt C hC
    refine⟨rfl,true,rows,C,rfl,hR,fun i hi=>by have:=cin i hi;omega,by have:=hc.few hC;omega,?_⟩
    have e2:truD (.int (Builtin.bitAnd ((orN rows C:Nat):Int) ((r:Nat):Int)))=f0p rows k C:=by
     rw[j0f,w0q,er']
     show((((orN rows C &&& r:Nat):Int)) != 0)=_
     rw[Bool.eq_iff_iff]
     simp
    show if truD (.int (Builtin.bitAnd ((orN rows C:Nat):Int) ((r:Nat):Int)))=true then _ else _
    rw[e2]
    cases hm:f0p rows k C with
    | true=>rw[hm]at hM4;exact hM4
    | false=>rw[hm]at hM4;exact hM4
   rintro _ rfl
   refine cutS (fun ρ=>ρ=[.vl (.lst (a0e rows)),.ow ((farC rows k cls).map lstN),nv k,nv r,.ow ((metC rows k cls).map lstN)]) (fun M3 hM3=>⟨rfl,by rw[List.length_map];omega,?_⟩) ?_
   ·refine g0s lstN (fun C=>!f0p rows k C) lstN rfl (fun C acc M4 hC hM4=>?_) (hM3 _ rfl)
    have e2:(((metC rows k cls).map lstN).any fun e=>eqD e (lstN C))=f0p rows k C:=by
     rw[List.any_map,Bool.eq_iff_iff,List.any_eq_true]
     constructor
     ·rintro⟨C',h1,h2⟩
      have h3:eqD (lstN C') (lstN C)=true:=h2
      rw[q0c]at h3
      have:=of_decide_eq_true h3
      subst this
      exact(List.mem_filter.mp h1).2
     ·intro h
      refine⟨C,List.mem_filter.mpr ⟨hC,h⟩,?_⟩
      show eqD (lstN C) (lstN C)=true
      exact i0o _
    refine p0y rfl rfl (fun e he=>?_) e2 ?_
    ·obtain⟨C',_,rfl⟩:=List.mem_map.mp he
     exact e0n _
    ·cases hm:f0p rows k C with
     | true=>rw[hm]at hM4;exact hM4
     | false=>rw[hm]at hM4;exact hM4
   rintro _ rfl
   have fl:(metC rows k cls).flatten.length<=24:=by
    have nd:=hc.flat
    have:=List.Nodup.length_le_of_subset nd (l₂:=List.range (k+1)) fun x hx=>?_
    ·rw[List.length_append,List.length_range,List.length_singleton]at this;omega
    ·rw[List.mem_range]
     rcases List.mem_append.mp hx with z | z
     ·obtain⟨C,h1,h2⟩:=List.mem_flatten.mp z
      have:=hc.lt C (List.mem_filter.mp h1).1 x h2
      omega
     ·rw[List.mem_singleton.mp z];omega
   have fc:(farC rows k cls).length<=cls.length:=List.length_filter_le _ _
   have hml:(metC rows k cls).length<=cls.length:=List.length_filter_le _ _
   have fa:(metC rows k cls).flatMap a0e=a0e (metC rows k cls).flatten:=by
    unfold a0e
    rw[List.map_flatten,List.flatMap_def]
   refine⟨rfl,s0r lstN a0e rfl (fun C acc M4 hC hacc hM4=>?_) ?_ ?_⟩
   ·obtain⟨ys,hy1,rfl,hy2⟩:=hacc
    have yl:(ys.flatMap a0e).length<=ys.length*24:=by
     clear hM4 hy1
     induction ys with
     | nil=>simp
     | cons y ys ih =>
      have h1:=ih fun z hz=>hy2 z (List.mem_cons_of_mem _ hz)
      have h2:=hc.few (List.mem_filter.mp (hy2 y (List.mem_cons_self ..))).1
      rw[List.flatMap_cons,List.length_append,a0k,List.length_cons];omega
    have cl24:=hc.few (List.mem_filter.mp hC).1
    have y24:ys.length*24<=24*24:=Nat.mul_le_mul (by omega) (Nat.le_refl _)
    refine s0q (fun j ac ρ=>ac=ys.flatMap a0e++a0e (C.take j)/\ρ=[.un,.vl (lstN C)]) ?_ ?_ ?_ _ _ ⟨by simp[a0e],rfl⟩
    ·rintro j ac ρ _ ⟨rfl,rfl⟩
     rw[List.length_append,a0k,List.length_take]
     exact⟨by first | rfl | trivial,by omega⟩
    ·rintro j d ac _ N2 hj ⟨rfl,rfl⟩ hN2
     unfold a0e at hj
     rw[List.getElem?_map]at hj
     obtain⟨y,ey,rfl⟩:=Option.map_eq_some_iff.mp hj
     refine hN2 _ _ ⟨?_,rfl⟩
     rw[List.take_add_one,ey,Option.toList_some,List.append_assoc]
     unfold a0e
     rw[List.map_append];rfl
    ·rintro ac _ ⟨rfl,rfl⟩
     rw[a0k,List.take_length]
     exact hM4
   ·rw[fa,a0k];omega
   ·rw[fa]
    refine⟨by simp,by rw[a0k];show _+1<=_;omega,?_⟩
    refine i0n (ns:=castL ((metC rows k cls).flatten++[k])) ?_ ?_ fun ns' pm up=>?_
    ·show some (D.lst (a0e (metC rows k cls).flatten++[nD k]))=_
     unfold castL a0e
     rw[List.map_map,List.map_append];rfl
    ·unfold castL;rw[List.length_map,List.length_append,List.length_singleton];omega
    ·have nn:∀x∈ns',∃y:Nat,x=(y:Int):=fun x hx=>by
      have:=pm.mem_iff.mp hx
      unfold castL at this
      obtain⟨y,_,rfl⟩:=List.mem_map.mp this
      exact⟨y,rfl⟩
     have eN:castL (ns'.map Int.toNat)=ns':=by
      unfold castL
      rw[List.map_map]
      conv=>rhs;rw[<- List.map_id ns']
      refine List.map_congr_left fun x hx=>?_
      obtain⟨y,rfl⟩:=nn x hx
      rfl
     have pN:(ns'.map Int.toNat).Perm ((metC rows k cls).flatten++[k]):=by
      have:=pm.map Int.toNat
      refine this.trans (List.Perm.of_eq ?_)
      unfold castL
      rw[List.map_map]
      conv=>rhs;rw[<- List.map_id ((metC rows k cls).flatten++[k])]
      exact List.map_congr_left fun x _=>rfl
     have uN:(ns'.map Int.toNat).Pairwise (· <= ·):=List.pairwise_map.mpr (List.Pairwise.imp (fun h=>by omega) up)
     have hnext:=hc.next lt pN uN
     generalize ns'.map Int.toNat=N at eN pN uN hnext
     subst eN
     refine⟨by rw[List.length_map];omega,hM2 _ ⟨by omega,farC rows k cls++[N],nv k,nv r,.ow ((metC rows k cls).map lstN),?_,hnext,by rw[List.length_append,List.length_singleton];omega⟩⟩
     rw[List.map_append]
     show[Sv.vl (.lst (a0e rows)),.ow ((farC rows k cls).map lstN++[lstI (castL N)]),nv k,nv r,_]=_
     rw[g0l]
     rfl
  ·rintro _ ⟨_,cls,s2,s3,s4,rfl,hc,hcl⟩
   have e:(g0q 0 (a0e rows)).length=rows.length:=by rw[c0p,a0k]
   rw[e]at hc hcl
   exact hM _ ⟨cls,s2,s3,s4,rfl,hc,by omega⟩
  rintro _ ⟨cls,s2,s3,s4,rfl,hc,hcl⟩
  refine o0p (nss:=cls.map castL) ?_ (by rw[List.length_map];omega) (fun ns hns=>?_) fun nss' pm so=>?_
  ·show some (D.lst (cls.map lstN))=_
   rw[List.map_map]
   congr 2
   exact List.map_congr_left fun C _=>(g0l C).symm
  ·obtain⟨C,hC,rfl⟩:=List.mem_map.mp hns
   have:=hc.few hC
   refine⟨by unfold castL;rw[List.length_map];omega,fun x hx=>?_⟩
   unfold castL at hx
   obtain⟨y,hy,rfl⟩:=List.mem_map.mp hx
   have:=hc.lt C hC y hy
   omega
  ·have:=hc.sorted pm so
   subst this
   have e:((a0u rows rows.length).map castL).map lstI=(a0u rows rows.length).map lstN:=by
    rw[List.map_map]
    exact List.map_congr_left fun C _=>g0l C
   rw[e]
   exact hq
theorem n0l (dn:DefN K mg "hang_number" e0b ["rows", "classes"])(B:BI mg)(g_weight:OkN P w K mg base 2 "weight" ["row"] (spA K k0t))(g_givens_in:OkN P w K mg base 1 "givens_in" ["rows", "places"] (spA K t0d)):OkN P w K mg base 3 "hang_number" ["rows", "classes"] (spA K g1c):=by
 refine dn.aok2 (k:=2) n0j (fun j=>j==0||j==1) [] g1c rfl (fun f cdv A outer s H E hr=>have hu:=d0x hr;⟨_,(a0n (b0h (a0s (d1a K rfl) rfl B.sum_ n1e (a0c (e0l ["places"] [0] rfl (Blk.of (a0i e0b) i0v) (c0d K (pv 1)) (fun _ _ _ _ nd=>(a0q (i:=0) nd rfl (by first | exact Or.inl rfl | exact Or.inr rfl))) (fun _ _ _ _=>d0e) (fun _ _ _ _=>(b0m h0v (b0x g_weight (hr.mono (by decide)) (a0c (b0x g_givens_in (hr.mono (by decide)) (a0c (pv 1) (a0c (pv 0) a0g))) a0g)) a0r))) a0g)))),(a0w (b0f f1v (a0a (b0t (b0n a0b) (a0h rfl) c0h (a0l b0j (a0o (a0a (a0o (a0a a0b (a0a a0b a0d))) a0d)) a0t)) a0d)))⟩) ?_
 rintro ss q ⟨rows,L,s1,hs,rfl,hR,⟨hl,hL⟩,hq⟩
 have bd:∀C∈L,1<=wt (orN rows C)/\wt (orN rows C)<=12:=fun C hC=>by
  obtain⟨h2,_,h1⟩:=hL C hC
  refine⟨?_,m1s (w0k hR C 0 h1 (by decide))⟩
  obtain⟨i,hi⟩:=List.exists_mem_of_ne_nil C h2
  refine u0q (Nat.pos_of_ne_zero fun z=>?_)
  have z':orN rows C &&& rw1 rows i=0:=by rw[z];exact Nat.zero_and _
  have:=((m0k C 0).mp z').2 i hi
  rw[Nat.and_self]at this
  have:=(hR.at (h1 i hi)).1
  omega
 have sm:∀L:List (List Nat),(∀C∈L,1<=wt (orN rows C)/\wt (orN rows C)<=12)->0<=(L.map fun C=>((wt (orN rows C):Nat):Int) - 1).sum/\(L.map fun C=>((wt (orN rows C):Nat):Int) - 1).sum<=12*L.length:=by
  intro L
  induction L with
  | nil=>intro _;simp
  | cons C L ih =>
   intro h
   have h1:=ih fun C' z=>h C' (List.mem_cons_of_mem _ z)
   have h2:=h C (List.mem_cons_self ..)
   rw[List.map_cons,List.sum_cons,List.length_cons]
   omega
 have:=sm _ bd
 have l24:=hR.l24
 rcases hs with rfl | rfl
 ·refine⟨rfl,rfl,?_⟩
  refine⟨rfl,by rw[List.length_map];omega,?_⟩
  refine c0q lstN (fun C=>.int (((wt (orN rows C):Nat):Int) - 1)) rfl (fun C acc M hC hM=>?_) ?_
  ·obtain⟨h2,h3,h1⟩:=hL C hC
   exact⟨rfl,false,rows,C,rfl,hR,h1,by omega,rfl,orN rows C,rfl,w0k hR C 0 h1 (by decide),hM⟩
  ·refine c1a (ns:=L.map fun C=>((wt (orN rows C):Nat):Int) - 1) (by rw[List.map_map];rfl) (fun n hn=>?_) ?_ hq
   ·obtain⟨C,hC,rfl⟩:=List.mem_map.mp hn
    have:=bd C hC
    omega
   ·omega
 ·refine⟨rfl,rfl,?_⟩
  refine⟨by rw[List.length_map];omega,?_⟩
  refine c0q lstN (fun C=>.int (((wt (orN rows C):Nat):Int) - 1)) trivial (fun C acc M hC hM=>?_) ?_
  ·obtain⟨h2,h3,h1⟩:=hL C hC
   exact⟨rfl,false,rows,C,rfl,hR,h1,by omega,rfl,orN rows C,rfl,w0k hR C 0 h1 (by decide),hM⟩
  ·refine c1a (ns:=L.map fun C=>((wt (orN rows C):Nat):Int) - 1) (by rw[List.map_map];rfl) (fun n hn=>?_) ?_ hq
   ·obtain⟨C,hC,rfl⟩:=List.mem_map.mp hn
    have:=bd C hC
    omega
   ·omega
theorem l0e (dn:DefN K mg "unlike_number" d0a ["rows", "places"])(B:BI mg)(g_weight:OkN P w K mg base 2 "weight" ["row"] (spA K k0t)):OkN P w K mg base 3 "unlike_number" ["rows", "places"] (spA K SUnl):=by
 refine dn.aok2 (k:=2) l0c (fun j=>j==0||j==1) [] SUnl rfl (fun f cdv A outer s H E hr=>have hu:=d0x hr;⟨_,(a0n (b0h (b0m h0v (b0m f0x (a0s (b0d K) rfl B.len_ c0v (a0c (pv 1) a0g)) (a0s (d1b K rfl) rfl B.min_ d1c (a0c (e0l ["place"] [0] rfl (Blk.of (a0i d0a) h0k) (c0d K (pv 1)) (fun _ _ _ _ nd=>(a0q (i:=0) nd rfl (by first | exact Or.inl rfl | exact Or.inr rfl))) (fun _ _ _ _=>d0e) (fun _ _ _ _=>(b0x g_weight (hr.mono (by decide)) (a0c (c0w (b0b K) (pv 1) (pv 0) (fun _ _=>rfl)) a0g)))) a0g))) a0r))),(a0w (a0l b0j (a0l b0j (b0f b0v (a0a a0b a0d)) (b0f c1z (a0a (b0t (b0n a0b) (a0h rfl) c0h (a0o (a0a (a0l b0r a0b a0b) a0d))) a0d))) a0t))⟩) ?_
 rintro ss q ⟨rows,ps,s1,hs,rfl,hR,hne,hfl,hp1,hq⟩
 have l24:=hR.l24
 rcases hs with rfl | rfl
 ·refine⟨rfl,rfl,?_⟩
  refine⟨rfl,by rw[a0k];omega,?_⟩
  refine c0q nD (fun p=>nD (wt (rw1 rows p))) rfl (fun p acc M hp hM=>?_) ?_
  ·have h1:=hp1 p hp
   refine h0x (i:=p) (ds:=a0e rows) (d:=nD (rw1 rows p)) rfl (by rw[show rw1 rows p=rows.getD p 0 from rfl];exact e0i h1) ?_
   exact⟨rfl,rw1 rows p,rfl,(hR.at h1).2,hM⟩
  ·refine w0w (ns:=ps.map fun p=>((wt (rw1 rows p):Nat):Int)) (by rw[List.map_map];rfl) (fun z=>hne (List.map_eq_nil_iff.mp z)) fun M h1 h2=>?_
   have:=g1w h1 h2
   unfold unlL at hq
   rw[this]at hq
   rw[a0k]
   exact hq
 ·refine⟨rfl,rfl,?_⟩
  refine⟨by rw[a0k];omega,?_⟩
  refine c0q nD (fun p=>nD (wt (rw1 rows p))) trivial (fun p acc M hp hM=>?_) ?_
  ·have h1:=hp1 p hp
   refine h0x (i:=p) (ds:=a0e rows) (d:=nD (rw1 rows p)) rfl (by rw[show rw1 rows p=rows.getD p 0 from rfl];exact e0i h1) ?_
   exact⟨rfl,rw1 rows p,rfl,(hR.at h1).2,hM⟩
  ·refine w0w (ns:=ps.map fun p=>((wt (rw1 rows p):Nat):Int)) (by rw[List.map_map];rfl) (fun z=>hne (List.map_eq_nil_iff.mp z)) fun M h1 h2=>?_
   have:=g1w h1 h2
   unfold unlL at hq
   rw[this]at hq
   rw[a0k]
   exact hq
theorem m0l (dn:DefN K mg "first_places" d0q ["rows"])(B:BI mg)(g_weight:OkN P w K mg base 2 "weight" ["row"] (spA K k0t)):OkN P w K mg base 3 "first_places" ["rows"] (spA K v0n):=by
 refine dn.aok2 (k:=2) m0c (fun j=>j==0) [] v0n rfl (fun f cdv A outer s H E hr=>have hu:=d0x hr;⟨_,(a0n (b0h (e0l ["place", "row"] [0] rfl (Blk.of (a0i d0q) h0w) (p0h K rfl B.enumerate_ (a0c (pv 0) a0g)) (fun _ _ _ _ nd=>(d0k K (n:=2) rfl (a0v (a0q (i:=0) nd rfl (by first | exact Or.inl rfl | exact Or.inr rfl)) (a0v (a0q (i:=1) nd rfl (by first | exact Or.inl rfl | exact Or.inr rfl)) d0j)))) (fun _ _ _ _=>(k0j (PW.pt (r0e (b0w r0i (b0x g_weight (hr.mono (by decide)) (a0c (pv 1) a0g)) a0r (c0k _)) (p0e (b0w (h0c K) (pv 1) (w0f (i1g K) (pv 2) a1n (a1m (pv 0))) rfl)))))) (fun _ _ _ _=>(pv 0))))),(a0w (b0t (k0i (a0a a0b a0d)) (c0l (a0p (a0h rfl) (a0p (a0h rfl) b0y (fun _ _ _=>b0i)) (fun _ _ _=>b0i))) (l0n (b0c (a0l e0m (a0o (a0a a0b a0d)) a0t)) (b0c (a0l (b1c true) a0b (h1u a0b h1t (z0d a0b))))) a0b))⟩) ?_
 rintro ss q ⟨rows,rfl,hR,hq⟩
 have l24:=hR.l24
 have en:(g0q 0 (a0e rows)).length=rows.length:=by rw[c0p,a0k]
 refine⟨rfl,rfl,?_⟩
 refine⟨by rw[en];omega,?_⟩
 refine f0s (fun k acc ρ=>k<=rows.length/\acc=a0e ((List.range k).filter fun p=>decide (1<wt (rw1 rows p)) && !((rows.take p).contains (rw1 rows p)))/\ρ=[.vl (.tup (a0e rows))]) (fun _ _ _ _ _=>trivial) ?_ ?_ _ ⟨Nat.zero_le _,rfl,rfl⟩
 ·rintro k d acc _ M hk ⟨_,rfl,rfl⟩ hM
  obtain⟨x,ex,rfl⟩:=e0g hk
  rw[List.getElem?_map]at ex
  obtain⟨r,er,rfl⟩:=Option.map_eq_some_iff.mp ex
  have lt:k<rows.length:=(List.getElem?_eq_some_iff.mp er).1
  have er':rw1 rows k=r:=by unfold rw1;rw[List.getD_eq_getElem?_getD,er];rfl
  rw[Nat.zero_add]
  have fs:=f1k (fun p=>decide (1<wt (rw1 rows p)) && !((rows.take p).contains (rw1 rows p))) (List.range k) k
  rw[<- List.range_succ]at fs
  refine d1v ?_
  refine⟨rfl,r,rfl,by rw[<- er'];exact(hR.at lt).2,?_⟩
  have e1:decide ((1:Int)<(((c0a r).length:Nat):Int))=decide (1<wt (rw1 rows k)):=by
   rw[er',decide_eq_decide];unfold wt;omega
  show if decide ((1:Int)<(((c0a r).length:Nat):Int))=true then _ else _
  rw[e1]
  cases h1:decide (1<wt (rw1 rows k))with
  | false=>exact hM _ _ ⟨by omega,by rw[fs];simp[h1],rfl⟩
  | true =>
   have ec:cutD (a0e rows) none (some ((k:Nat):Int))=a0e (rows.take k):=by
    rw[c1t];unfold a0e;rw[List.map_take]
   show gIn true (.d (nD r)) (.d (.tup (cutD (a0e rows) none (some ((k:Nat):Int))))) _ _
   rw[ec]
   refine m1u (xs:=rows.take k) rfl ?_
   rw[<- er']at *
   cases h2:(rows.take k).contains (rw1 rows k)with
   | true=>exact hM _ _ ⟨by omega,by rw[fs];simp only[h1,h2];rfl,rfl⟩
   | false=>exact hM _ _ ⟨by omega,by rw[fs];simp only[h1,h2];rfl,rfl⟩
 ·rintro acc _ ⟨_,rfl,rfl⟩
  rw[en]
  exact hq
theorem e1x (dn:DefN K mg "bound" p0c ["wish"])(B:BI mg)(g_classes_of:OkN P w K mg base 2 "classes_of" ["rows"] (spA K l0x))(g_first_places:OkN P w K mg base 3 "first_places" ["rows"] (spA K v0n))(g_hang_number:OkN P w K mg base 3 "hang_number" ["rows", "classes"] (spA K g1c))(g_unlike_number:OkN P w K mg base 3 "unlike_number" ["rows", "places"] (spA K SUnl)):OkN P w K mg base 4 "bound" ["wish"] (spA K d1o):=by
 refine dn.aok2 (k:=3) g0y (fun j=>j==0) [.un,.un,.un,.un,.un,.un] d1o rfl (fun f cdv A outer s H E hr=>have hu:=d0x hr;⟨_,(a0f (m0h (pv 0) (d0k K (n:=2) rfl (a0v (a0q (i:=1) g0y.nd rfl (by first | exact Or.inl rfl | exact Or.inr rfl)) (a0v (a0q (i:=2) g0y.nd rfl (by first | exact Or.inl rfl | exact Or.inr rfl)) d0j))))
  (a0f (b0e (i:=3) g0y.nd rfl (by first | exact Or.inl rfl | exact Or.inr rfl) (b0x g_classes_of (hr.mono (by decide)) (a0c (pv 2) a0g)))
  (a0f (b0e (i:=4) g0y.nd rfl (by first | exact Or.inl rfl | exact Or.inr rfl) (g0k (a0c (b0x g_hang_number (hr.mono (by decide)) (a0c (pv 2) (a0c (pv 3) a0g))) (a0c (g0k (a0c e0e (a0c (pv 3) a0g))) a0g))))
  (a0f (b0e (i:=5) g0y.nd rfl (by first | exact Or.inl rfl | exact Or.inr rfl) (b0x g_first_places (hr.mono (by decide)) (a0c (pv 2) a0g)))
  (a0f (f0f (i0u (g0i K (pv 5) (fun _=>rfl)))
  (a0n (b0h (pv 4)))
  b0z)
  (a0f (b0e (i:=6) g0y.nd rfl (by first | exact Or.inl rfl | exact Or.inr rfl) (g0k (a0c (b0x g_unlike_number (hr.mono (by decide)) (a0c (pv 2) (a0c (pv 5) a0g))) (a0c (g0k (a0c e0e (a0c (pv 5) a0g))) a0g))))
  (a0n (b0h (e1o (b0w e1v (c0w (b0b K) (pv 6) a0r (fun _ _=>rfl)) (c0w (b0b K) (pv 4) a0r (fun _ _=>rfl)) (c0k _)) (pv 6) (pv 4)))))))))),(a0j (i0x a0b (c0l (a0p (a0h rfl) (a0p (a0h rfl) b0y (fun _ _ _=>b0i)) (fun _ _ _=>b0i))))
  (a0j (a0y (a0o (a0a a0b a0d)) rfl)
  (a0j (a0y (e0j (a0a (a0o (a0a a0b (a0a a0b a0d))) (a0a (e0j (a0a h0p (a0a a0b a0d))) a0d))) rfl)
  (a0j (a0y (a0o (a0a a0b a0d)) rfl)
  (a0j (d0m (e0o (i0e a0b))
  (a0w a0b)
  b0q)
  (a0j (a0y (e0j (a0a (a0o (a0a a0b (a0a a0b a0d))) (a0a (e0j (a0a h0p (a0a a0b a0d))) a0d))) rfl)
  (a0w (k1r (b0c (a0l e0m (a0l b0r a0b a0t) (a0l b0r a0b a0t))) a0b a0b))))))))⟩) ?_
 rintro ss q ⟨m,rows,rfl,hR,hq⟩
 have l24:=hR.l24
 refine⟨rfl,rfl,?_⟩
 refine cutS (fun ρ=>ρ=[.vl (e0z m rows),nv m,.vl (.tup (a0e rows)),.un,.un,.un,.un]) (fun M hM=>hM _ rfl) ?_
 rintro _ rfl
 refine cutS (fun ρ=>ρ=[.vl (e0z m rows),nv m,.vl (.tup (a0e rows)),.ow ((a0u rows rows.length).map lstN),.un,.un,.un]) (fun M hM=>⟨rfl,false,rows,rfl,hR,hM _ rfl⟩) ?_
 rintro _ rfl
 refine cutS (fun ρ=>∃s3,ρ=[.vl (e0z m rows),nv m,.vl (.tup (a0e rows)),s3,.vl (y0k rows),.un,.un]) (fun M hM=>⟨rfl,rows,_,_,.inl rfl,rfl,hR,n0a hR,by simp,by simp,hM _ ⟨_,rfl⟩⟩) ?_
 rintro _ ⟨s3,rfl⟩
 refine cutS (fun ρ=>ρ=[.vl (e0z m rows),nv m,.vl (.tup (a0e rows)),s3,.vl (y0k rows),.ow (a0e (fpl rows)),.un]) (fun M hM=>⟨rfl,rows,rfl,hR,hM _ rfl⟩) ?_
 rintro _ rfl
 by_cases hf:fpl rows=[]
 ·unfold bndD at hq
  rw[if_pos hf]at hq
  refine cutS (fun _=>False) (fun M hM=>?_) (fun _ z=>z.elim)
  rw[hf]
  exact hq
 ·unfold bndD at hq
  rw[if_neg hf]at hq
  obtain⟨p,ps,hp⟩:∃p ps,fpl rows=p::ps:=by
   cases h:fpl rows with
   | nil=>exact absurd h hf
   | cons p ps=>exact⟨p,ps,rfl⟩
  refine cutS (fun ρ=>ρ=[.vl (e0z m rows),nv m,.vl (.tup (a0e rows)),s3,.vl (y0k rows),.ow (a0e (fpl rows)),.un]) (fun M hM=>?_) ?_
  ·rw[hp]
   rw[hp]at hM
   exact hM _ rfl
  rintro _ rfl
  refine cutS (fun ρ=>∃s5,ρ=[.vl (e0z m rows),nv m,.vl (.tup (a0e rows)),s3,.vl (y0k rows),s5,.vl (unlD rows)]) (fun M hM=>⟨rfl,rows,_,_,.inl rfl,rfl,hR,hf,by have:=u0s rows;omega,fun p hp=>h1b hp,by simp,by simp,hM _ ⟨_,rfl⟩⟩) ?_
  rintro _ ⟨s5,rfl⟩
  refine h0x (i:=0) (ds:=[.int (unlZ rows),.tup [.str "unlike",.lst (a0e (fpl rows))]]) (d:=.int (unlZ rows)) rfl rfl ?_
  refine h0x (i:=0) (ds:=[.int (b1x rows),.tup [.str "hang",.lst ((a0u rows rows.length).map lstN)]]) (d:=.int (b1x rows)) rfl rfl ?_
  by_cases g:b1x rows<=unlZ rows
  ·rw[if_pos g]at hq
   refine ite2 (fun _=>hq) fun z=>absurd (decide_eq_true g) z
  ·rw[if_neg g]at hq
   refine ite2 (fun z=>absurd (of_decide_eq_true z) g) fun _=>hq
end
def bits (js:List (Nat×Nat))(m t:Nat):Nat:=(js.foldl a0m (a0z m)).getD t 0
theorem g1v {l:List Nat}(nd:l.Nodup){i j:Nat}(hi:i<l.length)(hj:j<l.length)(e:l[i]=l[j]):i=j:=by
 have pw:=List.pairwise_iff_getElem.mp nd
 rcases Nat.lt_trichotomy i j with g | g | g
 ·exact absurd e (pw i j hi hj g)
 ·exact g
 ·exact absurd e.symm (pw j i hj hi g)
theorem r0q {m:Nat}:∀ {js:List (Nat×Nat)} {p:Nat×Nat},okIx m (js++[p])->okIx m js
 | [],_,_=>trivial
 | q::js,p,h=>⟨h.1,h.2.1,r0q h.2.2⟩
theorem part {m:Nat}:∀(n:Nat) (js:List (Nat×Nat)),js.length=n->okIx m js->∃(f rep:Nat->Nat),(∀t,t<m+js.length->∀x,(bits js m t).testBit x=true->f x=f (rep t))/\∃I:List Nat,I.Nodup/\m<=I.length+js.length/\∀y∈I,∃x,x<m/\f x=y
 | 0,js,hl,_=>by
  have:js=[]:=List.length_eq_zero_iff.mp hl
  subst this
  refine⟨id,id,fun t ht x hx=>?_,List.range m,List.nodup_range,by simp,fun y hy=>⟨y,List.mem_range.mp hy,rfl⟩⟩
  have ht:t<m:=by simpa using ht
  unfold bits at hx
  rw[List.foldl_nil,a1u ht,Nat.one_shiftLeft,Nat.testBit_two_pow]at hx
  have:=of_decide_eq_true hx
  exact this.symm
 | n+1,js,hl,hix=>by
  obtain⟨js',p,rfl⟩:∃js' p,js=js'++[p]:=by
   rcases List.eq_nil_or_concat js with e | ⟨a,b,e⟩
   ·subst e;simp at hl
   ·exact⟨a,b,by rw[e,List.concat_eq_append]⟩
  have hl':js'.length=n:=by simpa using hl
  have hix':okIx m js':=r0q hix
  obtain⟨p1,p2⟩:=i0l hix (i:=js'.length) (p:=p) (by simp)
  obtain⟨f,rep,h1,I,i1,i2,i3⟩:=part n js' hl' hix'
  have len':(js'.foldl a0m (a0z m)).length=m+js'.length:=by rw[f0z,d0f]
  have old:∀t,t<m+js'.length->bits (js'++[p]) m t=bits js' m t:=fun t ht=>by
   unfold bits
   rw[List.foldl_append]
   exact m0v (by omega)
  have new:bits (js'++[p]) m (m+js'.length)=bits js' m p.1 ^^^ bits js' m p.2:=by
   unfold bits
   rw[List.foldl_append,<- len']
   exact b1z
  refine⟨fun x=>if f x=f (rep p.2)then f (rep p.1)else f x,fun t=>if t=m+js'.length then rep p.1 else rep t,fun t ht x hx=>?_,I.erase (f (rep p.2)),i1.erase _,?_,fun y hy=>?_⟩
  ·rw[List.length_append,List.length_singleton]at ht
   by_cases e:t=m+js'.length
   ·subst e
    rw[new,Nat.testBit_xor]at hx
    dsimp only
    rw[if_pos rfl]
    have hx':(bits js' m p.1).testBit x=true∨(bits js' m p.2).testBit x=true:=by
     cases h1:(bits js' m p.1).testBit x with
     | true=>exact .inl rfl
     | false =>
      rw[h1]at hx
      exact .inr (by simpa using hx)
    rcases hx' with g | g
    ·rw[h1 p.1 (by omega) x g]
    ·rw[h1 p.2 (by omega) x g,if_pos rfl]
     split <;> rfl
   ·rw[old t (by omega)]at hx
    dsimp only
    rw[if_neg e,h1 t (by omega) x hx]
  ·rw[List.length_append,List.length_singleton]
   have:=List.length_erase (a:=f (rep p.2)) (l:=I)
   split at this <;> omega
  ·have hm:y∈I:=List.mem_of_mem_erase hy
   have hne:y≠f (rep p.2):=fun e=>by
    subst e
    exact(i1.not_mem_erase) hy
   obtain⟨x,x1,x2⟩:=i3 y hm
   exact⟨x,x1,by show(if f x=f (rep p.2)then f (rep p.1)else f x)=y;rw[x2,if_neg hne]⟩
theorem w0y {m:Nat}{f:Nat->Nat}{I D:List Nat}(i1:I.Nodup)(i3:∀y∈I,∃x,x<m/\f x=y)(d1:D.Nodup)(d2:∀x∈D,x<m)(d3:∀x∈D,∃e,e<m/\e∉D/\f e=f x):D.length+I.length<=m:=by
 have h1:I.length<=(((List.range m).filter fun x=>!D.contains x).map f).length:=List.Nodup.length_le_of_subset i1 fun y hy=>by
  obtain⟨x,x1,x2⟩:=i3 y hy
  rw[List.mem_map]
  by_cases h:x∈D
  ·obtain⟨e,e1,e2,e3⟩:=d3 x h
   exact⟨e,List.mem_filter.mpr ⟨List.mem_range.mpr e1,by simpa using e2⟩,by rw[e3,x2]⟩
  ·exact⟨x,List.mem_filter.mpr ⟨List.mem_range.mpr x1,by simpa using h⟩,x2⟩
 rw[List.length_map]at h1
 have h2:(D++(List.range m).filter fun x=>!D.contains x).length<=(List.range m).length:=List.Nodup.length_le_of_subset (List.nodup_append.mpr ⟨d1,List.Pairwise.filter _ List.nodup_range,fun a ha b hb e=>by
  subst e
  have:=(List.mem_filter.mp hb).2
  simp[ha]at this⟩) fun x hx=>by
  rcases List.mem_append.mp hx with h | h
  ·exact List.mem_range.mpr (d2 x h)
  ·exact(List.mem_filter.mp h).1
 rw[List.length_append,List.length_range]at h2
 omega
theorem k0o {r x:Nat}:x∈c0a r↔r.testBit x=true:=by
 unfold c0a
 rw[List.mem_filter,List.mem_range]
 refine⟨fun h=>h.2,fun h=>⟨?_,h⟩⟩
 apply Classical.byContradiction
 intro z
 have:r.testBit x=false:=by
  apply Nat.testBit_lt_two_pow
  unfold l0k at z
  split at z
  ·rename_i e;rw[e];exact Nat.two_pow_pos x
  ·exact Nat.lt_of_lt_of_le Nat.lt_log2_self (Nat.pow_le_pow_right (by decide) (by omega))
 rw[this]at h;cases h
theorem w0v (r:Nat):(c0a r).Nodup:=by
 unfold c0a
 exact List.Pairwise.filter _ List.nodup_range
theorem n1q {m:Nat}{js:List (Nat×Nat)}(hix:okIx m js){t:Nat}(ht:t<m+js.length)(hb:bits js m t<2^m):wt (bits js m t)<=js.length+1:=by
 obtain⟨f,rep,h1,I,i1,i2,i3⟩:=part _ js rfl hix
 unfold wt
 cases hg:c0a (bits js m t)with
 | nil=>simp
 | cons g gs =>
  have nd:=w0v (bits js m t)
  rw[hg]at nd
  obtain⟨n1,n2⟩:=List.nodup_cons.mp nd
  have mem:∀x∈g::gs,x<m/\f x=f (rep t):=fun x hx=>by
   rw[<- hg]at hx
   have hx':=k0o.mp hx
   refine⟨?_,h1 t ht x hx'⟩
   apply Classical.byContradiction
   intro z
   have:(bits js m t).testBit x=false:=Nat.testBit_lt_two_pow (Nat.lt_of_lt_of_le hb (Nat.pow_le_pow_right (by decide) (by omega)))
   rw[this]at hx';cases hx'
  have:=w0y i1 i3 n2 (fun x hx=>(mem x (List.mem_cons_of_mem _ hx)).1) fun x hx=>⟨g,(mem g (List.mem_cons_self ..)).1,n1,by rw[(mem g (List.mem_cons_self ..)).2,(mem x (List.mem_cons_of_mem _ hx)).2]⟩
  rw[List.length_cons]
  omega
def subR (rows C:List Nat):List Nat:=C.map (rw1 rows)
open Classical in
noncomputable def n0y (rows C:List Nat):Bool:=decide ((a0u (subR rows C) (subR rows C).length).length=1)
theorem f1z {rows:List Nat}(h:(a0u rows rows.length).length=1){i j:Nat}(hi:i<rows.length)(hj:j<rows.length):Conn rows i j:=by
 have mi:=(g0r (Nat.le_refl rows.length) hi).mpr ⟨i,hi,.refl hi⟩
 have mj:=(g0r (Nat.le_refl rows.length) hj).mpr ⟨j,hj,.refl hj⟩
 obtain⟨a,ea⟩:=List.length_eq_one_iff.mp h
 rw[ea,List.mem_singleton]at mi mj
 have:j∈comp rows i:=by rw[mi,<- mj,b0p];exact .refl hj
 exact b0p.mp this
theorem f1r {rows:List Nat}(h1:1<=rows.length)(h:∀i j,i<rows.length->j<rows.length->Conn rows i j):(a0u rows rows.length).length=1:=by
 have m0:=(g0r (Nat.le_refl rows.length) (p:=0) h1).mpr ⟨0,h1,.refl h1⟩
 have nd:=q0g (Nat.le_refl rows.length) (rows:=rows)
 have all:∀C∈a0u rows rows.length,C=comp rows 0:=fun C hC=>by
  unfold a0u at hC
  obtain⟨p,hp,rfl⟩:=List.mem_map.mp hC
  exact n0b (h p 0 (List.mem_range.mp (List.mem_filter.mp hp).1) h1)
 have:=List.Nodup.length_le_of_subset nd (l₂:=[comp rows 0]) fun C hC=>by rw[all C hC];exact List.mem_singleton.mpr rfl
 have h2:0<(a0u rows rows.length).length:=List.length_pos_of_mem m0
 rw[List.length_singleton]at this
 omega
theorem o0e {rows C:List Nat}{i:Nat}(hi:i<C.length):rw1 (subR rows C) i=rw1 rows (C.getD i 0):=by
 unfold subR
 show(C.map (rw1 rows)).getD i 0=_
 rw[List.getD_eq_getElem?_getD,List.getElem?_map,List.getElem?_eq_getElem hi,List.getD_eq_getElem?_getD,List.getElem?_eq_getElem hi]
 rfl
theorem e0w (rows C:List Nat):(subR rows C).length=C.length:=by unfold subR;exact List.length_map _
theorem y0j {rows:List Nat}{p:Nat}(hp:p<rows.length):n0y rows (comp rows p)=true:=by
 unfold n0y
 refine decide_eq_true (f1r ?_ fun i j hi hj=>?_)
 ·rw[e0w]
  exact List.length_pos_of_mem (b0p.mpr (.refl hp))
 ·have key:∀x,Conn rows p x->∃k,k<(comp rows p).length/\(comp rows p).getD k 0=x/\∀k0,k0<(comp rows p).length->(comp rows p).getD k0 0=p->Conn (subR rows (comp rows p)) k0 k:=fun x c=>by
   induction c with
   | refl h =>
    have hm:p∈comp rows p:=b0p.mpr (.refl h)
    obtain⟨k,hk,e⟩:=List.getElem_of_mem hm
    refine⟨k,hk,by rw[List.getD_eq_getElem?_getD,List.getElem?_eq_getElem hk];exact e,fun k0 h0 e0=>?_⟩
    have nd:(comp rows p).Nodup:=(h0y rows p).imp fun h=>by omega
    have:k0=k:=by
     have e1:(comp rows p)[k0]=p:=by rw[List.getD_eq_getElem?_getD,List.getElem?_eq_getElem h0]at e0;exact e0
     exact g1v nd h0 hk (e1.trans e.symm)
    subst this
    exact .refl (by rw[e0w];exact hk)
   | step c h a ih =>
    rename_i y z
    obtain⟨k,hk,e,hc⟩:=ih
    have hm:z∈comp rows p:=b0p.mpr (c.step h a)
    obtain⟨k2,hk2,e2⟩:=List.getElem_of_mem hm
    have e2':(comp rows p).getD k2 0=z:=by rw[List.getD_eq_getElem?_getD,List.getElem?_eq_getElem hk2];exact e2
    refine⟨k2,hk2,e2',fun k0 h0 e0=>(hc k0 h0 e0).step (by rw[e0w];exact hk2) ?_⟩
    unfold adj
    rw[o0e hk,o0e hk2,e,e2']
    exact a
  have hm:p∈comp rows p:=b0p.mpr (.refl hp)
  obtain⟨k0,hk0,e0⟩:=List.getElem_of_mem hm
  have e0':(comp rows p).getD k0 0=p:=by rw[List.getD_eq_getElem?_getD,List.getElem?_eq_getElem hk0];exact e0
  have nd:(comp rows p).Nodup:=(h0y rows p).imp fun h=>by omega
  have toI:∀i,i<(comp rows p).length->Conn (subR rows (comp rows p)) k0 i:=fun i hi=>by
   have hmi:(comp rows p)[i]∈comp rows p:=List.getElem_mem hi
   obtain⟨k,hk,e,hc⟩:=key _ (b0p.mp hmi)
   have e1:(comp rows p)[k]=(comp rows p)[i]:=by rw[List.getD_eq_getElem?_getD,List.getElem?_eq_getElem hk]at e;exact e
   have:k=i:=g1v nd hk hi e1
   subst this
   exact hc k0 hk0 e0'
  rw[e0w]at hi hj
  exact(toI i hi).symm.trans (toI j hj)
def plOk (ps:List Nat):Bool:=decide (ps≠[]/\ps.Pairwise (· < ·))
def i0r (rows ps:List Nat):Bool:=plOk ps&&decide ((subR rows ps).Nodup)&&ps.all fun p=>decide (1<wt (rw1 rows p))
noncomputable def q0j (rows:List Nat):List (List Nat)->Nat->Bool
 | [],_=>true
 | C::L,tk=>plOk C&&n0y rows C&&decide (tk &&& orN rows C=0)&&q0j rows L (tk ||| orN rows C)
noncomputable def h0z (rows:List Nat)(L:List (List Nat)):Bool:=decide (L≠[])&&q0j rows L 0
theorem x0d {rows:List Nat}:∀ {L:List (List Nat)} {tk:Nat},q0j rows L tk=true->(∀C∈L,plOk C=true/\n0y rows C=true/\tk &&& orN rows C=0)/\L.Pairwise fun C C'=>orN rows C &&& orN rows C'=0
 | [],_,_=>⟨(fun _ h=>nomatch h),List.Pairwise.nil⟩
 | C::L,tk,h=>by
  unfold q0j at h
  rw[Bool.and_eq_true,Bool.and_eq_true,Bool.and_eq_true]at h
  obtain⟨⟨⟨h1,h2⟩,h3⟩,h4⟩:=h
  have h3:=of_decide_eq_true h3
  obtain⟨i1,i2⟩:=x0d h4
  have or0:∀ {x y z:Nat},(x ||| y) &&& z=0->x &&& z=0/\y &&& z=0:=fun{x y z} e=>by
   have:=(m0k (rows:=[y]) (r:=z) [0] x).mp (by show(x ||| rw1 [y] 0) &&& z=0;exact e)
   exact⟨this.1,this.2 0 (by simp)⟩
  refine⟨fun C' hC'=>?_,List.pairwise_cons.mpr ⟨fun C' hC'=>(or0 (i1 C' hC').2.2).2,i2⟩⟩
  rcases List.mem_cons.mp hC' with rfl | hC'
  ·exact⟨h1,h2,h3⟩
  ·obtain⟨j1,j2,j3⟩:=i1 C' hC'
   exact⟨j1,j2,(or0 j3).1⟩
structure d1q (m:Nat)(js:List (Nat×Nat))(rows:List Nat):Prop where
 ix:okIx m js
 made:∀i,i<rows.length->∃t,t<m+js.length/\bits js m t=rw1 rows i
 lt:∀i,i<rows.length->rw1 rows i<2^m
theorem g0a {a b x:Nat}(h:a &&& b=0)(ha:a.testBit x=true)(hb:b.testBit x=true):False:=by
 have:=congrArg (fun z=>z.testBit x) h
 simp[Nat.testBit_and,ha,hb]at this
theorem i0k {rows C:List Nat}{x:Nat}:(orN rows C).testBit x=true↔∃i∈C,(rw1 rows i).testBit x=true:=by
 have go:∀(C:List Nat) (a:Nat),(C.foldl (fun a i=>a ||| rw1 rows i) a).testBit x=(a.testBit x||C.any fun i=>(rw1 rows i).testBit x):=by
  intro C
  induction C with
  | nil=>intro a;simp
  | cons i C ih=>intro a;rw[List.foldl_cons,ih,Nat.testBit_or,List.any_cons,Bool.or_assoc]
 unfold orN
 rw[go,Nat.zero_testBit,Bool.false_or,List.any_eq_true]
theorem j1l {m:Nat}{js:List (Nat×Nat)}{rows:List Nat}(M:d1q m js rows){L:List (List Nat)}(hL:∀C∈L,∀i∈C,i<rows.length)(h1:∀i,i<rows.length->1<=rw1 rows i)(ok:h0z rows L=true):n0z rows L<=(js.length:Int):=by
 unfold h0z at ok
 rw[Bool.and_eq_true]at ok
 obtain⟨c1,c2⟩:=x0d ok.2
 obtain⟨f,rep,g1,I,i1,i2,i3⟩:=part _ js rfl M.ix
 have one:∀C∈L,∀x y,(orN rows C).testBit x=true->(orN rows C).testBit y=true->f x=f y:=fun C hC x y hx hy=>by
  obtain⟨i,hi,bx⟩:=i0k.mp hx
  obtain⟨j,hj,bY⟩:=i0k.mp hy
  have val:∀i∈C,∃c,∀x,(rw1 rows i).testBit x=true->f x=c:=fun i hi=>by
   obtain⟨t,ht,e⟩:=M.made i (hL C hC i hi)
   exact⟨f (rep t),fun x hx=>g1 t ht x (by rw[e];exact hx)⟩
  have hT:=of_decide_eq_true (c1 C hC).2.1
  obtain⟨ki,hki,ei⟩:=List.getElem_of_mem hi
  obtain⟨kj,hkj,ej⟩:=List.getElem_of_mem hj
  have cn:=f1z hT (i:=ki) (j:=kj) (by rw[e0w];exact hki) (by rw[e0w];exact hkj)
  have walk:∀ {a b:Nat},Conn (subR rows C) a b->∀x y,(rw1 (subR rows C) a).testBit x=true->(rw1 (subR rows C) b).testBit y=true->f x=f y:=fun{a b} c=>by
   induction c with
   | refl h =>
    intro x y hx hy
    rw[e0w]at h
    rw[o0e h]at hx hy
    have hm:C.getD a 0∈C:=by
     rw[List.getD_eq_getElem?_getD,List.getElem?_eq_getElem h];exact List.getElem_mem h
    obtain⟨c,hc⟩:=val _ hm
    rw[hc x hx,hc y hy]
   | step c h a ih =>
    rename_i b' z
    intro x y hx hy
    have hb':=c.lt.2
    rw[e0w]at h hb'
    unfold adj at a
    obtain⟨s,hs⟩:∃s,(rw1 (subR rows C) b' &&& rw1 (subR rows C) z).testBit s=true:=by
     apply Classical.byContradiction
     intro nz
     refine a (Nat.eq_of_testBit_eq fun s=>?_)
     rw[Nat.zero_testBit]
     cases q:(rw1 (subR rows C) b' &&& rw1 (subR rows C) z).testBit s with
     | false=>rfl
     | true=>exact absurd ⟨s,q⟩ nz
    rw[Nat.testBit_and,Bool.and_eq_true]at hs
    have e1:=ih x s hx hs.1
    have hz2:=hs.2
    rw[o0e h]at hz2 hy
    have hm:C.getD z 0∈C:=by
     rw[List.getD_eq_getElem?_getD,List.getElem?_eq_getElem h];exact List.getElem_mem h
    obtain⟨c',hc'⟩:=val _ hm
    rw[e1,hc' s hz2,hc' y hy]
  refine walk cn x y ?_ ?_
  ·rw[o0e hki,List.getD_eq_getElem?_getD,List.getElem?_eq_getElem hki];rw[ei.symm]at bx;exact bx
  ·rw[o0e hkj,List.getD_eq_getElem?_getD,List.getElem?_eq_getElem hkj];rw[ej.symm]at bY;exact bY
 have ltm:∀C∈L,∀x,(orN rows C).testBit x=true->x<m:=fun C hC x hx=>by
  obtain⟨i,hi,bx⟩:=i0k.mp hx
  apply Classical.byContradiction
  intro z
  have:(rw1 rows i).testBit x=false:=Nat.testBit_lt_two_pow (Nat.lt_of_lt_of_le (M.lt i (hL C hC i hi)) (Nat.pow_le_pow_right (by decide) (by omega)))
  rw[this]at bx;cases bx
 have hne:∀C∈L,c0a (orN rows C)≠[]:=fun C hC=>by
  have hp:=of_decide_eq_true (c1 C hC).1
  obtain⟨i,hi⟩:=List.exists_mem_of_ne_nil C hp.1
  have h0:=h1 i (hL C hC i hi)
  have hpos:=u0q h0
  obtain⟨x,hx⟩:=List.exists_mem_of_length_pos hpos
  exact List.ne_nil_of_mem (k0o.mpr (i0k.mpr ⟨i,hi,k0o.mp hx⟩))
 have tl:∀C,(c0a (orN rows C)).tail.length=wt (orN rows C) - 1:=fun C=>by unfold wt;rw[List.length_tail]
 have sumE:n0z rows L=(((L.flatMap fun C=>(c0a (orN rows C)).tail).length:Nat):Int):=by
  have:∀L:List (List Nat),(∀C∈L,c0a (orN rows C)≠[])->n0z rows L=(((L.flatMap fun C=>(c0a (orN rows C)).tail).length:Nat):Int):=by
   intro L
   induction L with
   | nil=>intro _;rfl
   | cons C L ih =>
    intro h
    have h2:=ih fun C' z=>h C' (List.mem_cons_of_mem _ z)
    have h3:0<wt (orN rows C):=by unfold wt;exact List.length_pos_iff.mpr (h C (List.mem_cons_self ..))
    unfold n0z at h2 ⊢
    rw[List.map_cons,List.sum_cons,h2,List.flatMap_cons,List.length_append,tl]
    omega
  exact this L hne
 have dmem:∀x,x∈(L.flatMap fun C=>(c0a (orN rows C)).tail)↔∃C∈L,x∈(c0a (orN rows C)).tail:=fun x=>List.mem_flatMap
 have inb:∀ {C x},x∈(c0a (orN rows C)).tail->(orN rows C).testBit x=true:=fun{C x} h=>k0o.mp (List.mem_of_mem_tail h)
 have sep:∀C∈L,∀C'∈L,∀x,(orN rows C).testBit x=true->(orN rows C').testBit x=true->C=C':=fun C hC C' hC' x hx hx'=>by
  apply Classical.byContradiction
  intro ne
  rcases List.getElem_of_mem hC with⟨i,hi,ei⟩
  rcases List.getElem_of_mem hC' with⟨j,hj,ej⟩
  have ij:i≠j:=fun e=>by subst e;exact ne (ei.symm.trans ej)
  have pw:=List.pairwise_iff_getElem.mp c2
  rcases Nat.lt_or_gt_of_ne ij with g | g
  ·have:=pw i j hi hj g
   rw[ei,ej]at this
   exact g0a this hx hx'
  ·have:=pw j i hj hi g
   rw[ei,ej]at this
   exact g0a this hx' hx
 have nd:(L.flatMap fun C=>(c0a (orN rows C)).tail).Nodup:=by
  rw[List.flatMap_def]
  have go:∀L':List (List Nat),(∀C∈L',C∈L)->(L'.Pairwise fun C C'=>orN rows C &&& orN rows C'=0)->(L'.map fun C=>(c0a (orN rows C)).tail).flatten.Nodup:=by
   intro L'
   induction L' with
   | nil=>intro _ _;exact List.nodup_nil
   | cons C L' ih =>
    intro hs hp
    obtain⟨p1,p2⟩:=List.pairwise_cons.mp hp
    rw[List.map_cons,List.flatten_cons]
    refine List.nodup_append.mpr ⟨?_,ih (fun C' z=>hs C' (List.mem_cons_of_mem _ z)) p2,fun a ha b hb e=>?_⟩
    ·have:=w0v (orN rows C)
     exact this.sublist (List.tail_sublist _)
    ·subst e
     obtain⟨l,hl,hb'⟩:=List.mem_flatten.mp hb
     obtain⟨C',hC',rfl⟩:=List.mem_map.mp hl
     exact g0a (p1 C' hC') (inb ha) (inb hb')
  exact go L (fun C h=>h) c2
 have:=w0y i1 i3 nd (fun x hx=>by
  obtain⟨C,hC,h⟩:=(dmem x).mp hx
  exact ltm C hC x (inb h)) fun x hx=>by
  obtain⟨C,hC,h⟩:=(dmem x).mp hx
  have hn:=hne C hC
  cases hg:c0a (orN rows C)with
  | nil=>exact absurd hg hn
  | cons g gs =>
   have hgm:(orN rows C).testBit g=true:=k0o.mp (by rw[hg];exact List.mem_cons_self ..)
   refine⟨g,ltm C hC g hgm,fun z=>?_,one C hC g x hgm (inb h)⟩
   obtain⟨C',hC',h'⟩:=(dmem g).mp z
   have:=sep C hC C' hC' g hgm (inb h')
   subst this
   have nd:=w0v (orN rows C)
   rw[hg]at nd h'
   exact(List.nodup_cons.mp nd).1 h'
 rw[sumE]
 omega
theorem k1h {m t:Nat}(h:t<m):wt (bits [] m t)=1:=by
 unfold bits wt
 rw[List.foldl_nil,a1u h,Nat.one_shiftLeft]
 have nd:=w0v (2^t)
 have h1:(c0a (2^t)).length<=[t].length:=List.Nodup.length_le_of_subset nd fun x hx=>by
  have:=k0o.mp hx
  rw[Nat.testBit_two_pow]at this
  exact List.mem_singleton.mpr (of_decide_eq_true this).symm
 have h2:0<(c0a (2^t)).length:=u0q (Nat.two_pow_pos t)
 rw[List.length_singleton]at h1
 omega
theorem s0x {m:Nat}{js:List (Nat×Nat)}{k t:Nat}(ht:t<m+(js.take k).length):bits (js.take k) m t=bits js m t:=by
 unfold bits
 have e:js.foldl a0m (a0z m)=(js.drop k).foldl a0m ((js.take k).foldl a0m (a0z m)):=by
  rw[<- List.foldl_append,List.take_append_drop]
 rw[e]
 exact(f0i (by rw[f0z,d0f];exact ht)).symm
theorem k1p {m:Nat}{js:List (Nat×Nat)}{rows:List Nat}(M:d1q m js rows){ps:List Nat}(hp:∀p∈ps,p<rows.length)(ok:i0r rows ps=true):unlL rows ps<=(js.length:Int):=by
 unfold i0r at ok
 rw[Bool.and_eq_true,Bool.and_eq_true]at ok
 obtain⟨⟨o1,o2⟩,o3⟩:=ok
 obtain⟨hne,up⟩:=of_decide_eq_true o1
 have nd:=of_decide_eq_true o2
 rw[List.all_eq_true]at o3
 have thing:∀p∈ps,∃j,j<js.length/\bits js m (m+j)=rw1 rows p:=fun p h=>by
  obtain⟨t,ht,e⟩:=M.made p (hp p h)
  have w:=of_decide_eq_true (o3 p h)
  rcases Nat.lt_or_ge t m with g | g
  ·exfalso
   have e2:bits [] m t=bits js m t:=s0x (k:=0) (js:=js) (by simpa using g)
   have:=k1h g
   rw[e2,e]at this
   omega
  ·exact⟨t - m,by omega,by rw[show m+(t - m)=t by omega];exact e⟩
 have hch:∃T:List Nat,T.length=ps.length/\(∀j∈T,j<js.length)/\T.map (fun j=>bits js m (m+j))=subR rows ps:=by
  clear hne up nd o1 o2 o3
  induction ps with
  | nil=>exact⟨[],rfl,(fun _ h=>nomatch h),rfl⟩
  | cons p ps ih =>
   obtain⟨T,t1,t2,t3⟩:=ih (fun q h=>hp q (List.mem_cons_of_mem _ h)) (fun q h=>thing q (List.mem_cons_of_mem _ h))
   obtain⟨j,j1,j2⟩:=thing p (List.mem_cons_self ..)
   refine⟨j::T,by simp[t1],fun x hx=>?_,?_⟩
   ·rcases List.mem_cons.mp hx with rfl | h
    ·exact j1
    ·exact t2 x h
   ·unfold subR at t3 ⊢
    rw[List.map_cons,List.map_cons,t3,j2]
 obtain⟨T,t1,t2,t3⟩:=hch
 have tnd:T.Nodup:=by
  rw[<- t3]at nd
  exact List.Pairwise.imp (fun h e=>h (by rw[e])) (List.pairwise_map.mp nd)
 obtain⟨j0,m0,l0⟩:=m1e (p:=fun j=>j∈T) (by
  obtain⟨p,h⟩:=List.exists_mem_of_ne_nil ps hne
  have:0<T.length:=by rw[t1];exact List.length_pos_of_mem h
  exact List.exists_mem_of_length_pos this)
 have cnt:T.length<=js.length - j0:=by
  have:=List.Nodup.length_le_of_subset (List.pairwise_map.mpr (tnd.imp_of_mem (S:=fun a b=>a - j0≠b - j0) fun{a b} ha hb h e=>h (by have:=l0 a ha;have:=l0 b hb;omega))) (l₁:=T.map (· - j0)) (l₂:=List.range (js.length - j0)) fun x hx=>by
   obtain⟨y,hy,rfl⟩:=List.mem_map.mp hx
   have:=t2 y hy
   have:=l0 y hy
   exact List.mem_range.mpr (by omega)
  rwa [List.length_map,List.length_range]at this
 have hj0:=t2 j0 m0
 have hin:bits js m (m+j0)∈subR rows ps:=by rw[<- t3];exact List.mem_map.mpr ⟨j0,m0,rfl⟩
 unfold subR at hin
 obtain⟨p0,hp0,e0⟩:=List.mem_map.mp hin
 have tl:(js.take (j0+1)).length=j0+1:=by rw[List.length_take];omega
 have eb:bits (js.take (j0+1)) m (m+j0)=bits js m (m+j0):=s0x (by rw[tl];omega)
 have hw:=n1q (r0p (j0+1) M.ix) (t:=m+j0) (by rw[tl];omega) (by rw[eb,<- e0];exact M.lt p0 (hp p0 hp0))
 rw[eb,<- e0,tl]at hw
 have mn:mnI (ps.map fun p=>((wt (rw1 rows p):Nat):Int))<=((wt (rw1 rows p0):Nat):Int):=by
  have hm:((wt (rw1 rows p0):Nat):Int)∈ps.map fun p=>((wt (rw1 rows p):Nat):Int):=List.mem_map.mpr ⟨p0,hp0,rfl⟩
  cases h:ps.map fun p=>((wt (rw1 rows p):Nat):Int)with
  | nil=>rw[h]at hm;cases hm
  | cons x xs =>
   rw[h]at hm
   exact(p0n xs x).2 _ hm
 unfold unlL
 omega
theorem m1y {rows:List Nat}(h:fpl rows≠[]):i0r rows (fpl rows)=true:=by
 unfold i0r
 rw[Bool.and_eq_true,Bool.and_eq_true]
 have up:(fpl rows).Pairwise (· < ·):=List.Pairwise.filter _ List.pairwise_lt_range
 refine⟨⟨decide_eq_true ⟨h,up⟩,decide_eq_true ?_⟩,List.all_eq_true.mpr fun p hp=>?_⟩
 ·unfold subR
  refine List.pairwise_map.mpr (up.imp_of_mem fun{a b} ha hb lt e=>?_)
  have:=(List.mem_filter.mp hb).2
  rw[Bool.and_eq_true]at this
  have hb2:=this.2
  have la:=List.mem_range.mp (List.mem_filter.mp ha).1
  have:rw1 rows b∈rows.take b:=by
   rw[<- e]
   unfold rw1
   rw[List.getD_eq_getElem?_getD,List.getElem?_eq_getElem la]
   exact List.mem_iff_getElem.mpr ⟨a,by rw[List.length_take];omega,by rw[List.getElem_take];rfl⟩
  rw[List.contains_iff_mem.mpr this]at hb2
  cases hb2
 ·have:=(List.mem_filter.mp hp).2
  rw[Bool.and_eq_true]at this
  exact this.1
theorem x0c {rows:List Nat}:∀ {L:List (List Nat)} {tk:Nat},(∀C∈L,plOk C=true/\n0y rows C=true/\tk &&& orN rows C=0)->(L.Pairwise fun C C'=>orN rows C &&& orN rows C'=0)->q0j rows L tk=true
 | [],_,_,_=>rfl
 | C::L,tk,h,hp=>by
  obtain⟨h1,h2,h3⟩:=h C (List.mem_cons_self ..)
  obtain⟨p1,p2⟩:=List.pairwise_cons.mp hp
  unfold q0j
  rw[Bool.and_eq_true,Bool.and_eq_true,Bool.and_eq_true]
  refine⟨⟨⟨h1,h2⟩,decide_eq_true h3⟩,x0c (fun C' hC'=>?_) p2⟩
  obtain⟨j1,j2,j3⟩:=h C' (List.mem_cons_of_mem _ hC')
  refine⟨j1,j2,?_⟩
  exact(m0k (rows:=[orN rows C]) (r:=orN rows C') [0] tk).mpr ⟨j3,fun i hi=>by rw[List.mem_singleton.mp hi];exact p1 C' hC'⟩
theorem f1s {rows:List Nat}(h1:1<=rows.length):h0z rows (a0u rows rows.length)=true:=by
 unfold h0z
 rw[Bool.and_eq_true]
 have m0:=(g0r (Nat.le_refl rows.length) (p:=0) h1).mpr ⟨0,h1,.refl h1⟩
 have each:∀C∈a0u rows rows.length,∃p,p<rows.length/\C=comp rows p:=fun C hC=>by
  unfold a0u at hC
  obtain⟨p,hp,rfl⟩:=List.mem_map.mp hC
  exact⟨p,List.mem_range.mp (List.mem_filter.mp hp).1,rfl⟩
 refine⟨decide_eq_true (List.ne_nil_of_mem m0),x0c (fun C hC=>?_) ?_⟩
 ·obtain⟨p,hp,rfl⟩:=each C hC
  exact⟨decide_eq_true ⟨List.ne_nil_of_mem (b0p.mpr (.refl hp)),h0y rows p⟩,y0j hp,Nat.zero_and _⟩
 ·refine(q0g (Nat.le_refl rows.length)).imp_of_mem fun{C C'} hC hC' ne=>?_
  obtain⟨p,hp,rfl⟩:=each C hC
  obtain⟨p',hp',rfl⟩:=each C' hC'
  apply Classical.byContradiction
  intro z
  obtain⟨s,hs⟩:∃s,(orN rows (comp rows p) &&& orN rows (comp rows p')).testBit s=true:=by
   apply Classical.byContradiction
   intro nz
   refine z (Nat.eq_of_testBit_eq fun s=>?_)
   rw[Nat.zero_testBit]
   cases q:(orN rows (comp rows p) &&& orN rows (comp rows p')).testBit s with
   | false=>rfl
   | true=>exact absurd ⟨s,q⟩ nz
  rw[Nat.testBit_and,Bool.and_eq_true]at hs
  obtain⟨i,hi,bi⟩:=i0k.mp hs.1
  obtain⟨j,hj,bj⟩:=i0k.mp hs.2
  have ci:=b0p.mp hi
  have cj:=b0p.mp hj
  have a:adj rows i j:=fun e=>g0a e bi bj
  exact ne ((n0b ci).trans ((n0b (Conn.one ci.lt.2 cj.lt.2 a)).trans (n0b cj).symm))
def q0o:ASp:=fun ss q=>∃rows C:List Nat,ss=[.vl (.tup (a0e rows)),.vl (lstN C)]/\d0i rows/\(∀i∈C,i<rows.length)/\C.length<=24/\q (.d (.bl (plOk C))) [.vl (.tup (a0e rows)),.vl (lstN C)]
def v0i:ASp:=fun ss q=>∃rows ps:List Nat,ss=[.vl (.tup (a0e rows)),.vl (lstN ps)]/\d0i rows/\(∀i∈ps,i<rows.length)/\ps.length<=24/\(subR rows ps).Nodup/\q (.d (.bl (i0r rows ps))) [.vl (.tup (a0e rows)),.vl (lstN ps)]
def d1l:ASp:=fun ss q=>∃rows C:List Nat,ss=[.vl (.tup (a0e rows)),.vl (lstN C)]/\d0i rows/\(∀i∈C,i<rows.length)/\C≠[]/\C.length<=24/\q (.d (.bl (n0y rows C))) [.vl (.tup (a0e rows)),.vl (lstN C)]
def v0o:ASp:=fun ss q=>∃(rows:List Nat) (L:List (List Nat)),ss=[.vl (.tup (a0e rows)),.vl (.lst (L.map lstN))]/\d0i rows/\q0s rows L/\q (.d (.bl (h0z rows L))) [.vl (.tup (a0e rows)),.vl (.lst (L.map lstN))]
def d1j:ASp:=fun ss q=>∃(m:Nat) (rows:List Nat) (z:Int),d0i rows/\((∃ps:List Nat,ss=[.vl (e0z m rows),.vl (.int z),.vl (.tup [.str "unlike",lstN ps])]/\(∀i∈ps,i<rows.length)/\ps.length<=24/\(subR rows ps).Nodup/\q (.d (.bl (i0r rows ps&&decide (z<=unlL rows ps)))) [.vl (e0z m rows),.vl (.int z),.vl (.tup [.str "unlike",lstN ps])])
 ∨ ∃L:List (List Nat),ss=[.vl (e0z m rows),.vl (.int z),.vl (.tup [.str "hang",.lst (L.map lstN)])]/\q0s rows L/\q (.d (.bl (h0z rows L&&decide (z<=n0z rows L)))) [.vl (e0z m rows),.vl (.int z),.vl (.tup [.str "hang",.lst (L.map lstN)])])
theorem d0i.sub {rows C:List Nat}(h:d0i rows)(hC:∀i∈C,i<rows.length)(hn:C≠[])(hl:C.length<=24):d0i (subR rows C):=by
 refine⟨?_,by rw[e0w];exact hl,fun r hr=>?_⟩
 ·rw[e0w]
  exact List.length_pos_iff.mpr hn
 ·unfold subR at hr
  obtain⟨i,hi,rfl⟩:=List.mem_map.mp hr
  exact h.at (hC i hi)
theorem f0t (xs:List Nat):(castL xs).map D.int=a0e xs:=by unfold castL a0e;rw[List.map_map];rfl
theorem s0k:∀a b:List Int,eqDs (a.map D.int) (b.map D.int)=decide (a=b)
 | [],[]=>rfl
 | [],_::_=>rfl
 | _::_,[]=>rfl
 | x::a,y::b=>by
  show(eqD (.int x) (.int y)&&eqDs (a.map D.int) (b.map D.int))=_
  rw[s0k a b]
  have:eqD (.int x) (.int y)=decide (x=y):=rfl
  rw[this,Bool.eq_iff_iff]
  simp
section
variable {P:Program}{w:World}{K:PySem.W.Frag}{mg:Str->Option Value}{base:Heap}
theorem t0x (dn:DefN K mg "is_whole" i0h ["thing", "least", "most"])(B:BI mg):OkN P w K mg base 1 "is_whole" ["thing", "least", "most"] (spA K q0q):=by
 refine dn.aok2 (k:=0) t0p (fun j=>j==0||j==1||j==2) [] q0q rfl (fun f cdv A outer s H E hr=>have hu:=d0x hr;⟨_,(a0n (b0h (m0j (a0s (i0b K) rfl B.isinstance_ e0h (a0c (pv 0) (a0c (a1r rfl B.int_ n1f) a0g))) (m0j (l1t (a0s (i0b K) rfl B.isinstance_ e0h (a0c (pv 0) (a0c (a1r rfl B.bool_ j1y) a0g)))) (o0i (w0g e1u e1u (pv 1) (pv 0) (pv 2))))))),(a0w (g0u (b0f k0f (a0a a0b (a0a q0v a0d))) (g0u (d1x (b0f k0f (a0a a0b (a0a q0v a0d)))) (q0w e0m e0m a0b a0b a0b))))⟩) ?_
 rintro ss q ⟨d,lo,hi,rfl,hq⟩
 refine⟨rfl,rfl,?_⟩
 cases d with
 | non=>exact c0t rfl s0c hq
 | str _=>exact c0t rfl s0b hq
 | tup _=>exact c0t rfl n0t hq
 | lst _=>exact c0t rfl p0s hq
 | bl b=>exact c0t rfl p0u (c0t rfl n0x hq)
 | int i =>
  refine c0t rfl s0d (c0t rfl p0t ?_)
  refine iteT (ite2 (fun h=>?_) fun h=>?_)
  ·rw[show l0z lo hi (.int i)=decide (i<=hi)by simp[l0z,of_decide_eq_true h]]at hq
   exact hq
  ·rw[show l0z lo hi (.int i)=false by simp[l0z];intro h';exact absurd (decide_eq_true h') h]at hq
   exact hq
theorem t0y (dn:DefN K mg "is_tuple" i0i ["thing", "least", "most"])(B:BI mg):OkN P w K mg base 1 "is_tuple" ["thing", "least", "most"] (spA K q0r):=by
 refine dn.aok2 (k:=0) t0q (fun j=>j==0||j==1||j==2) [] q0r rfl (fun f cdv A outer s H E hr=>have hu:=d0x hr;⟨_,(a0n (b0h (m0j (a0s (i0b K) rfl B.isinstance_ e0h (a0c (pv 0) (a0c (a1r rfl B.tuple_ i0p) a0g))) (o0i (w0g e1u e1u (pv 1) (a0s (b0d K) rfl B.len_ c0v (a0c (pv 0) a0g)) (pv 2)))))),(a0w (g0u (b0f k0f (a0a a0b (a0a q0v a0d))) (q0w e0m e0m a0b (b0f b0v (a0a a0b a0d)) a0b)))⟩) ?_
 rintro ss q ⟨d,lo,hi,rfl,hq⟩
 refine⟨rfl,rfl,?_⟩
 cases d with
 | non=>exact c0t rfl n0v hq
 | str _=>exact c0t rfl n0u hq
 | int _=>exact c0t rfl n0w hq
 | lst _=>exact c0t rfl m0r hq
 | bl b=>exact c0t rfl m0s hq
 | tup ds =>
  refine c0t rfl l0h ?_
  refine iteT (ite2 (fun h=>?_) fun h=>?_)
  ·rw[show tupB lo hi (.tup ds)=decide ((ds.length:Int)<=hi)by simp[tupB,of_decide_eq_true h]]at hq
   exact hq
  ·rw[show tupB lo hi (.tup ds)=false by simp[tupB];intro h';exact absurd (decide_eq_true h') h]at hq
   exact hq
theorem p0m (dn:DefN K mg "are_places" e0t ["rows", "thing"])(B:BI mg)(g_is_whole:OkN P w K mg base 1 "is_whole" ["thing", "least", "most"] (spA K q0q)):OkN P w K mg base 2 "are_places" ["rows", "thing"] (spA K q0o):=by
 refine dn.aok2 (k:=1) p0b (fun j=>j==0||j==1) [] q0o rfl (fun f cdv A outer s H E hr=>have hu:=d0x hr;⟨_,(a0f (f0f (PW.pt (i1l (i0u (m0f (a0s (i0b K) rfl B.isinstance_ e0h (a0c (pv 1) (a0c (a1r rfl B.list_ k0r) a0g))))) (a1j (i0u (g0i K (pv 1) (fun _=>rfl))))))
  (a0n (b0h h0u))
  b0z)
  (a0f (f0f (i0u (m0f (a0s (s0w K rfl) rfl B.all_ h1h (a0c (e0l ["place"] [0] rfl (Blk.of (a0i e0t) j0r) (c0d K (pv 1)) (fun _ _ _ _ nd=>(a0q (i:=0) nd rfl (by first | exact Or.inl rfl | exact Or.inr rfl))) (fun _ _ _ _=>d0e) (fun _ _ _ _=>(b0x g_is_whole (hr.mono (by decide)) (a0c (pv 0) (a0c a0r (a0c (b0m h0v (a0s (b0d K) rfl B.len_ c0v (a0c (pv 1) a0g)) a0r) a0g)))))) a0g))))
  (a0n (b0h h0u))
  b0z)
  (a0n (b0h (h0s (k0x K hr.units) (pv 1) (x0u K rfl rfl B.sorted_ rfl B.set_ (a0c (pv 1) a0g)) (c0k _)))))),(a0j (d0m (t0h (e0o (k0v (b0f k0f (a0a a0b (a0a q0v a0d))))) (e0o (i0e a0b)))
  (a0w e0r)
  b0q)
  (a0j (d0m (e0o (k0v (b0f x0g (a0a (b0t (b0n a0b) (a0h rfl) c0h (a0o (a0a a0b (a0a a0t (a0a (a0l b0j (b0f b0v (a0a a0b a0d)) a0t) a0d))))) a0d))))
  (a0w e0r)
  b0q)
  (a0w (a0l k0y a0b (t0i (a0a a0b a0d))))))⟩) ?_
 rintro ss q ⟨rows,C,rfl,hR,hC,hl,hq⟩
 have l24:=hR.l24
 refine⟨rfl,rfl,?_⟩
 cases C with
 | nil=>exact c0t rfl e0q hq
 | cons c C =>
  refine cutS (fun ρ=>ρ=[.vl (.tup (a0e rows)),.vl (lstN (c::C))]) (fun M hM=>c0t rfl e0q (hM _ rfl)) ?_
  rintro _ rfl
  refine cutS (fun ρ=>ρ=[.vl (.tup (a0e rows)),.vl (lstN (c::C))]) (fun M hM=>⟨by rw[a0k];omega,?_⟩) ?_
  ·refine c0q nD (fun _=>.bl true) trivial (fun p acc M2 hp hM2=>?_) ?_
   ·have h1:=hC p hp
    refine⟨rfl,nD p,0,_,rfl,?_⟩
    have e:l0z 0 (((a0e rows).length:Int) - 1) (nD p)=true:=by
     rw[a0k]
     unfold nD l0z
     simp
     omega
    rw[e]
    exact hM2
   ·refine c1h (bs:=(c::C).map fun _=>true) (by rw[List.map_map];rfl) ?_
    have e:(((c::C).map fun _=>true).all id)=true:=by simp
    rw[e]
    exact hM _ rfl
  rintro _ rfl
  refine u0r (ns:=castL (c::C)) (by rw[f0t];rfl) (by unfold castL;rw[List.length_map];omega) fun ns' up hm=>?_
  have e:eqD (lstN (c::C)) (.lst (ns'.map D.int))=plOk (c::C):=by
   unfold lstN
   show eqDs (a0e (c::C)) (ns'.map D.int)=_
   rw[<- f0t,s0k]
   unfold plOk
   rw[decide_eq_decide]
   have cu:castL (c::C)=ns'->(c::C).Pairwise (· < ·):=fun e=>by
    rw[<- e]at up
    unfold castL at up
    exact(List.pairwise_map.mp up).imp fun h=>by omega
   refine⟨fun e=>⟨by simp,cu e⟩,fun h=>r0c ?_ up fun x=>(hm x).symm⟩
   unfold castL
   exact List.pairwise_map.mpr (h.2.imp fun h=>by omega)
  exact f0r rfl rfl (e0n _) e hq
theorem p0l (dn:DefN K mg "are_unlike" d0v ["rows", "thing"])(B:BI mg)(g_are_places:OkN P w K mg base 2 "are_places" ["rows", "thing"] (spA K q0o))(g_weight:OkN P w K mg base 2 "weight" ["row"] (spA K k0t)):OkN P w K mg base 3 "are_unlike" ["rows", "thing"] (spA K v0i):=by
 refine dn.aok2 (k:=2) j0j (fun j=>j==0||j==1) [.un] v0i rfl (fun f cdv A outer s H E hr=>have hu:=d0x hr;⟨_,(a0f (f0f (i0u (m0f (b0x g_are_places (hr.mono (by decide)) (a0c (pv 0) (a0c (pv 1) a0g)))))
  (a0n (b0h h0u))
  b0z)
  (a0f (i0y (i:=2) ["place"] [0] j0j.nd rfl (by first | exact Or.inl rfl | exact Or.inr rfl) rfl (Blk.of (a0i d0v) h0d) (c0d K (pv 1)) (fun _ _ _ _ nd=>(a0q (i:=0) nd rfl (by first | exact Or.inl rfl | exact Or.inr rfl))) (fun _ _ _ _=>d0e) (fun _ _ _ _=>(c0w (b0b K) (pv 1) (pv 0) (fun _ _=>rfl))))
  (a0n (b0h (m0j (h0s (k0x K hr.units) (a1s K rfl rfl B.len_ rfl B.set_ (a0c (pv 2) a0g)) (a0s (b0d K) rfl B.len_ c0v (a0c (pv 2) a0g)) (c0k _)) (o0i (a0s (s0w K rfl) rfl B.all_ h1h (a0c (e0l ["row"] [] rfl (Blk.of (a0i d0v) h0d) (c0d K (pv 2)) (fun _ _ _ _ nd=>(a0q (i:=0) nd rfl (by first | exact Or.inl rfl | exact Or.inr rfl))) (fun _ _ _ _=>d0e) (fun _ _ _ _=>(h0s r0i (b0x g_weight (hr.mono (by decide)) (a0c (pv 0) a0g)) a0r (c0k _)))) a0g)))))))),(a0j (d0m (e0o (k0v (a0o (a0a a0b (a0a a0b a0d)))))
  (a0w e0r)
  b0q)
  (a0j (g0w (b0t (b0n a0b) (a0h rfl) c0h (a0l b0r a0b a0b)) rfl)
  (a0w (g0u (a0l k0y (x0o (a0a a0b a0d)) (b0f b0v (a0a a0b a0d))) (b0f x0g (a0a (b0t (b0n a0b) (a0h rfl) c0h (a0l e0m (a0o (a0a a0b a0d)) a0t)) a0d))))))⟩) ?_
 rintro ss q ⟨rows,ps,rfl,hR,hps,hl,hnd,hq⟩
 have l24:=hR.l24
 refine⟨rfl,rfl,?_⟩
 refine cutS (fun ρ=>plOk ps=true/\ρ=[.vl (.tup (a0e rows)),.vl (lstN ps),.un]) (fun M hM=>⟨rfl,rows,ps,rfl,hR,hps,hl,?_⟩) ?_
 ·cases h:plOk ps with
  | true=>exact hM _ ⟨h,rfl⟩
  | false =>
   unfold i0r at hq
   rw[h]at hq
   exact hq
 rintro _ ⟨hpl,rfl⟩
 refine cutS (fun ρ=>ρ=[.vl (.tup (a0e rows)),.vl (lstN ps),.ow (a0e (subR rows ps))]) (fun M hM=>⟨by rw[a0k];omega,?_⟩) ?_
 ·have e:a0e (subR rows ps)=ps.map fun p=>nD (rw1 rows p):=by unfold a0e subR;rw[List.map_map];rfl
  refine c0q nD (fun p=>nD (rw1 rows p)) trivial (fun p acc M2 hp hM2=>?_) (by rw[<- e];exact hM _ rfl)
  exact h0x (i:=p) (ds:=a0e rows) (d:=nD (rw1 rows p)) rfl (by rw[show rw1 rows p=rows.getD p 0 from rfl];exact e0i (hps p hp)) hM2
 rintro _ rfl
 refine y0n (ns:=castL (subR rows ps)) (by rw[f0t];rfl) (by unfold castL;rw[List.length_map,e0w];omega) ?_
 have nd:(castL (subR rows ps)).Nodup:=by
  unfold castL
  exact List.pairwise_map.mpr (hnd.imp fun h e=>h (Int.ofNat_inj.mp e))
 rw[y0q nd]
 refine f0r (b:=true) rfl rfl (by simp[D.depth]) ?_ ?_
 ·show decide ((((castL (subR rows ps)).length:Nat):Int)=(((a0e (subR rows ps)).length:Nat):Int))=true
  rw[a0k]
  unfold castL
  rw[List.length_map]
  exact decide_eq_true rfl
 refine⟨rfl,by rw[a0k,e0w];omega,?_⟩
 refine c0q nD (fun r=>.bl (decide (1<wt r))) rfl (fun r acc M2 hr hM2=>?_) ?_
 ·have hr':r<4096:=by
   unfold subR at hr
   obtain⟨i,hi,rfl⟩:=List.mem_map.mp hr
   exact(hR.at (hps i hi)).2
  refine⟨rfl,r,rfl,hr',?_⟩
  have e1:decide ((1:Int)<(((c0a r).length:Nat):Int))=decide (1<wt r):=by
   rw[decide_eq_decide];unfold wt;omega
  show M2 (acc++[.bl (decide ((1:Int)<(((c0a r).length:Nat):Int)))]) _
  rw[e1]
  exact hM2
 ·refine c1h (bs:=(subR rows ps).map fun r=>decide (1<wt r)) (by rw[List.map_map];rfl) ?_
  have e:i0r rows ps=(((subR rows ps).map fun r=>decide (1<wt r)).all id):=by
   unfold i0r
   rw[hpl,decide_eq_true hnd,Bool.true_and,Bool.true_and]
   unfold subR
   rw[List.map_map,List.all_map];rfl
  rw[e]at hq
  exact hq
theorem l0f (dn:DefN K mg "hang_together" d0c ["rows", "places"])(B:BI mg)(g_classes_of:OkN P w K mg base 2 "classes_of" ["rows"] (spA K l0x)):OkN P w K mg base 3 "hang_together" ["rows", "places"] (spA K d1l):=by
 refine dn.aok2 (k:=2) l0d (fun j=>j==0||j==1) [] d1l rfl (fun f cdv A outer s H E hr=>have hu:=d0x hr;⟨_,(a0n (b0h (h0s (k0x K hr.units) (a0s (b0d K) rfl B.len_ c0v (a0c (b0x g_classes_of (hr.mono (by decide)) (a0c (e0l ["place"] [0] rfl (Blk.of (a0i d0c) h0l) (c0d K (pv 1)) (fun _ _ _ _ nd=>(a0q (i:=0) nd rfl (by first | exact Or.inl rfl | exact Or.inr rfl))) (fun _ _ _ _=>d0e) (fun _ _ _ _=>(c0w (b0b K) (pv 1) (pv 0) (fun _ _=>rfl)))) a0g)) a0g)) a0r (c0k _)))),(a0w (a0l k0y (b0f b0v (a0a (a0o (a0a (b0t (b0n a0b) (a0h rfl) c0h (a0l b0r a0b a0b)) a0d)) a0d)) a0t))⟩) ?_
 rintro ss q ⟨rows,C,rfl,hR,hC,hn,hl,hq⟩
 have l24:=hR.l24
 refine⟨rfl,rfl,?_⟩
 have e:a0e (subR rows C)=C.map fun p=>nD (rw1 rows p):=by unfold a0e subR;rw[List.map_map];rfl
 refine⟨by rw[a0k];omega,?_⟩
 refine c0q nD (fun p=>nD (rw1 rows p)) trivial (fun p acc M2 hp hM2=>?_) ?_
 ·exact h0x (i:=p) (ds:=a0e rows) (d:=nD (rw1 rows p)) rfl (by rw[show rw1 rows p=rows.getD p 0 from rfl];exact e0i (hC p hp)) hM2
 rw[<- e]
 refine⟨rfl,true,subR rows C,rfl,hR.sub hC hn hl,?_⟩
 refine f0r (b:=n0y rows C) rfl rfl (by simp[D.depth]) ?_ hq
 show decide ((((List.map lstN (a0u (subR rows C) (subR rows C).length)).length:Nat):Int)=1)=_
 unfold n0y
 rw[List.length_map,decide_eq_decide]
 omega
theorem n0o (dn:DefN K mg "are_classes" f0e ["rows", "thing"])(B:BI mg)(g_givens_in:OkN P w K mg base 1 "givens_in" ["rows", "places"] (spA K t0d))(g_are_places:OkN P w K mg base 2 "are_places" ["rows", "thing"] (spA K q0o))(g_hang_together:OkN P w K mg base 3 "hang_together" ["rows", "places"] (spA K d1l)):OkN P w K mg base 4 "are_classes" ["rows", "thing"] (spA K v0o):=by
 refine dn.aok2 (k:=3) d0p (fun j=>j==0||j==1) [.un,.un,.un] v0o rfl (fun f cdv A outer s H E hr=>have hu:=d0x hr;⟨_,(a0f (f0f (PW.pt (i1l (i0u (m0f (a0s (i0b K) rfl B.isinstance_ e0h (a0c (pv 1) (a0c (a1r rfl B.list_ k0r) a0g))))) (a1j (i0u (g0i K (pv 1) (fun _=>rfl))))))
  (a0n (b0h h0u))
  b0z)
  (a0f (b0e (i:=2) d0p.nd rfl (by first | exact Or.inl rfl | exact Or.inr rfl) a0r)
  (a0f (g0j PassesOwn.never rfl (c0d K (pv 1)) (a0q (i:=3) d0p.nd rfl (by first | exact Or.inl rfl | exact Or.inr rfl))
  (a0f (f0f (PW.pt (i1l (i0u (m0f (b0x g_are_places (hr.mono (by decide)) (a0c (pv 0) (a0c (pv 3) a0g))))) (a1j (i0u (m0f (b0x g_hang_together (hr.mono (by decide)) (a0c (pv 0) (a0c (pv 3) a0g))))))))
  (a0n (b0h h0u))
  b0z)
  (a0f (b0e (i:=4) d0p.nd rfl (by first | exact Or.inl rfl | exact Or.inr rfl) (b0x g_givens_in (hr.mono (by decide)) (a0c (pv 0) (a0c (pv 3) a0g))))
  (a0f (f0f (g0i K (b0m r0j (pv 2) (pv 4)) (fun _=>rfl))
  (a0n (b0h h0u))
  b0z)
  (a0n (g1r (i:=2) d0p.nd rfl (by first | exact Or.inl rfl | exact Or.inr rfl) (pv 4) g1y))))))
  (a0n (b0h h0u))))),(a0j (d0m (t0h (e0o (k0v (b0f k0f (a0a a0b (a0a q0v a0d))))) (e0o (i0e a0b)))
  (a0w e0r)
  b0q)
  (a0j (a0y a0t rfl)
  (a0j (e0k (pin:=(fun j=>j==1)) (b0n a0b) (a0h rfl)
  (a0j (d0m (t0h (e0o (k0v (a0o (a0a a0b (a0a a0b a0d))))) (e0o (k0v (a0o (a0a a0b (a0a a0b a0d))))))
  (a0w e0r)
  b0q)
  (a0j (a0y (a0o (a0a a0b (a0a a0b a0d))) rfl)
  (a0j (d0m (i0e (a0l b0j a0b a0b))
  (a0w e0r)
  b0q)
  (z0y a0b rfl)))))
  (a0w e0r))))⟩) ?_
 rintro ss q ⟨rows,L,rfl,hR,hL,hq⟩
 have l24:=hR.l24
 refine⟨rfl,rfl,?_⟩
 obtain⟨hl,hC⟩:=hL
 cases hL0:L with
 | nil =>
  subst hL0
  have e:h0z rows []=false:=rfl
  rw[e]at hq
  exact c0t rfl e0q hq
 | cons c L' =>
  rw[<- hL0]
  refine cutS (fun ρ=>ρ=[.vl (.tup (a0e rows)),.vl (.lst (L.map lstN)),.un,.un,.un]) (fun M hM=>by
   refine c0t rfl e0q ?_
   rw[hL0]at hM ⊢
   exact hM _ rfl) ?_
  rintro _ rfl
  have e0:h0z rows L=q0j rows L 0:=by rw[hL0];unfold h0z;simp
  refine cutS (fun ρ=>ρ=[.vl (.tup (a0e rows)),.vl (.lst (L.map lstN)),nv 0,.un,.un]) (fun M hM=>hM _ rfl) ?_
  rintro _ rfl
  refine cutS (fun ρ=>h0z rows L=true/\∃s2 s3 s4,ρ=[.vl (.tup (a0e rows)),.vl (.lst (L.map lstN)),s2,s3,s4]) (fun M hM=>k0c lstN (fun k ρ=>∃tk s3 s4,h0z rows L=q0j rows (L.drop k) tk/\ρ=[.vl (.tup (a0e rows)),.vl (.lst (L.map lstN)),nv tk,s3,s4]) (fun _ _ _=>trivial) ?_ ?_ ⟨0,.un,.un,e0,rfl⟩) ?_
  ·rintro k C _ M2 hk ⟨tk,s3,s4,hgo,rfl⟩ hM2
   obtain⟨c1,c2,c3⟩:=hC C (List.mem_of_getElem? hk)
   have hd:L.drop k=C::L.drop (k+1):=by
    have lt:=(List.getElem?_eq_some_iff.mp hk).1
    rw[List.drop_eq_getElem_cons lt]
    congr 1
    rw[List.getElem?_eq_getElem lt]at hk
    exact Option.some.inj hk
   rw[hd]at hgo
   unfold q0j at hgo
   refine cutS (fun ρ=>plOk C=true/\n0y rows C=true/\ρ=[.vl (.tup (a0e rows)),.vl (.lst (L.map lstN)),nv tk,.vl (lstN C),s4]) (fun M3 hM3=>⟨rfl,rows,C,rfl,hR,c3,c2,?_⟩) ?_
   ·cases h1:plOk C with
    | false =>
     rw[h1]at hgo
     rw[show h0z rows L=false from hgo]at hq
     exact hq
    | true =>
     refine⟨rfl,rows,C,rfl,hR,c3,c1,c2,?_⟩
     cases h2:n0y rows C with
     | false =>
      rw[h1,h2]at hgo
      rw[show h0z rows L=false from hgo]at hq
      exact hq
     | true=>exact hM3 _ ⟨h1,h2,rfl⟩
   rintro _ ⟨h1,h2,rfl⟩
   rw[h1,h2,Bool.true_and,Bool.true_and]at hgo
   refine cutS (fun ρ=>ρ=[.vl (.tup (a0e rows)),.vl (.lst (L.map lstN)),nv tk,.vl (lstN C),nv (orN rows C)]) (fun M3 hM3=>⟨rfl,false,rows,C,rfl,hR,c3,by omega,hM3 _ rfl⟩) ?_
   rintro _ rfl
   have et:truD (.int (Builtin.bitAnd ((tk:Nat):Int) ((orN rows C:Nat):Int))) = !decide (tk &&& orN rows C=0):=by
    rw[j0f]
    show((((tk &&& orN rows C:Nat):Int)) != 0)=_
    rw[Bool.eq_iff_iff]
    simp
   refine cutS (fun ρ=>tk &&& orN rows C=0/\ρ=[.vl (.tup (a0e rows)),.vl (.lst (L.map lstN)),nv tk,.vl (lstN C),nv (orN rows C)]) (fun M3 hM3=>?_) ?_
   ·show if truD (.int (Builtin.bitAnd ((tk:Nat):Int) ((orN rows C:Nat):Int)))=true then _ else _
    rw[et]
    by_cases h3:tk &&& orN rows C=0
    ·rw[decide_eq_true h3]
     exact hM3 _ ⟨h3,rfl⟩
    ·rw[decide_eq_false h3,Bool.false_and]at hgo
     rw[hgo]at hq
     rw[decide_eq_false h3]
     exact hq
   rintro _ ⟨h3,rfl⟩
   rw[decide_eq_true h3,Bool.true_and]at hgo
   refine hM2 _ ⟨tk ||| orN rows C,.vl (lstN C),nv (orN rows C),hgo,?_⟩
   rw[<- x0z (w0j _ _)]
   rfl
  ·rintro _ ⟨tk,s3,s4,hgo,rfl⟩
   rw[List.drop_length]at hgo
   exact hM _ ⟨hgo,nv tk,s3,s4,rfl⟩
  rintro _ ⟨he,s2,s3,s4,rfl⟩
  rw[he]at hq
  exact hq
theorem n0n (dn:DefN K mg "bound_shown" f0d ["wish", "number", "paper"])(B:BI mg)(g_is_tuple:OkN P w K mg base 1 "is_tuple" ["thing", "least", "most"] (spA K q0r))(g_are_unlike:OkN P w K mg base 3 "are_unlike" ["rows", "thing"] (spA K v0i))(g_are_classes:OkN P w K mg base 4 "are_classes" ["rows", "thing"] (spA K v0o))(g_unlike_number:OkN P w K mg base 3 "unlike_number" ["rows", "places"] (spA K SUnl))(g_hang_number:OkN P w K mg base 3 "hang_number" ["rows", "classes"] (spA K g1c)):OkN P w K mg base 5 "bound_shown" ["wish", "number", "paper"] (spA K d1j):=by
 refine dn.aok2 (k:=4) d0o (fun j=>j==0||j==1||j==2) [.un,.un,.un,.un] d1j rfl (fun f cdv A outer s H E hr=>have hu:=d0x hr;⟨_,(a0f (m0h (pv 0) (d0k K (n:=2) rfl (a0v (a0q (i:=3) d0o.nd rfl (by first | exact Or.inl rfl | exact Or.inr rfl)) (a0v (a0q (i:=4) d0o.nd rfl (by first | exact Or.inl rfl | exact Or.inr rfl)) d0j))))
  (a0f (f0f (i0u (m0f (b0x g_is_tuple (hr.mono (by decide)) (a0c (pv 2) (a0c a0r (a0c a0r a0g))))))
  (a0n (b0h h0u))
  b0z)
  (a0f (m0h (pv 2) (d0k K (n:=2) rfl (a0v (a0q (i:=5) d0o.nd rfl (by first | exact Or.inl rfl | exact Or.inr rfl)) (a0v (a0q (i:=6) d0o.nd rfl (by first | exact Or.inl rfl | exact Or.inr rfl)) d0j))))
  (a0f (f0f (b0w (k0x K hr.units) (pv 5) e0e (c0k _))
  (a0n (b0h (m0j (b0x g_are_unlike (hr.mono (by decide)) (a0c (pv 4) (a0c (pv 6) a0g))) (o0i (h0s e1v (b0x g_unlike_number (hr.mono (by decide)) (a0c (pv 4) (a0c (pv 6) a0g))) (pv 1) (c0k _))))))
  b0z)
  (a0f (f0f (b0w (k0x K hr.units) (pv 5) e0e (c0k _))
  (a0n (b0h (m0j (b0x g_are_classes (hr.mono (by decide)) (a0c (pv 4) (a0c (pv 6) a0g))) (o0i (h0s e1v (b0x g_hang_number (hr.mono (by decide)) (a0c (pv 4) (a0c (pv 6) a0g))) (pv 1) (c0k _))))))
  b0z)
  (a0n (b0h h0u))))))),(a0j (i0x a0b (c0l (a0p (a0h rfl) (a0p (a0h rfl) b0y (fun _ _ _=>b0i)) (fun _ _ _=>b0i))))
  (a0j (d0m (e0o (k0v (a0o (a0a a0b (a0a a0t (a0a a0t a0d))))))
  (a0w e0r)
  b0q)
  (a0j (i0x a0b (c0l (a0p (a0h rfl) (a0p (a0h rfl) b0y (fun _ _ _=>b0i)) (fun _ _ _=>b0i))))
  (a0j (d0m (b0c (a0l k0y a0b h0p))
  (a0w (g0u (a0o (a0a a0b (a0a a0b a0d))) (a0l e0m (a0o (a0a a0b (a0a a0b a0d))) a0b)))
  b0q)
  (a0j (d0m (b0c (a0l k0y a0b h0p))
  (a0w (g0u (a0o (a0a a0b (a0a a0b a0d))) (a0l e0m (a0o (a0a a0b (a0a a0b a0d))) a0b)))
  b0q)
  (a0w e0r))))))⟩) ?_
 rintro ss q ⟨m,rows,z,hR,⟨ps,rfl,hps,hl,hnd,hq⟩ | ⟨L,rfl,hL,hq⟩⟩
 ·refine⟨rfl,rfl,?_⟩
  refine cutS (fun ρ=>ρ=[.vl (e0z m rows),.vl (.int z),.vl (.tup [.str "unlike",lstN ps]),nv m,.vl (.tup (a0e rows)),.un,.un]) (fun M hM=>hM _ rfl) ?_
  rintro _ rfl
  refine cutS (fun ρ=>ρ=[.vl (e0z m rows),.vl (.int z),.vl (.tup [.str "unlike",lstN ps]),nv m,.vl (.tup (a0e rows)),.un,.un]) (fun M hM=>⟨rfl,.tup [.str "unlike",lstN ps],2,2,rfl,hM _ rfl⟩) ?_
  rintro _ rfl
  refine cutS (fun ρ=>ρ=[.vl (e0z m rows),.vl (.int z),.vl (.tup [.str "unlike",lstN ps]),nv m,.vl (.tup (a0e rows)),.vl (.str "unlike"),.vl (lstN ps)]) (fun M hM=>hM _ rfl) ?_
  rintro _ rfl
  refine cutS (fun _=>False) (fun M hM=>f0r (b:=true) rfl rfl (by simp[D.depth]) (by decide) ⟨rfl,rows,ps,rfl,hR,hps,hl,hnd,?_⟩) (fun _ z=>z.elim)
  cases h:i0r rows ps with
  | false=>rw[h]at hq;exact hq
  | true =>
   rw[h,Bool.true_and]at hq
   have hne:ps≠[]:=fun e=>by subst e;cases h
   exact⟨rfl,rows,ps,_,.inr rfl,rfl,hR,hne,hl,hps,hq⟩
 ·refine⟨rfl,rfl,?_⟩
  refine cutS (fun ρ=>ρ=[.vl (e0z m rows),.vl (.int z),.vl (.tup [.str "hang",.lst (L.map lstN)]),nv m,.vl (.tup (a0e rows)),.un,.un]) (fun M hM=>hM _ rfl) ?_
  rintro _ rfl
  refine cutS (fun ρ=>ρ=[.vl (e0z m rows),.vl (.int z),.vl (.tup [.str "hang",.lst (L.map lstN)]),nv m,.vl (.tup (a0e rows)),.un,.un]) (fun M hM=>⟨rfl,.tup [.str "hang",.lst (L.map lstN)],2,2,rfl,hM _ rfl⟩) ?_
  rintro _ rfl
  refine cutS (fun ρ=>ρ=[.vl (e0z m rows),.vl (.int z),.vl (.tup [.str "hang",.lst (L.map lstN)]),nv m,.vl (.tup (a0e rows)),.vl (.str "hang"),.vl (.lst (L.map lstN))]) (fun M hM=>hM _ rfl) ?_
  rintro _ rfl
  refine cutS (fun ρ=>ρ=[.vl (e0z m rows),.vl (.int z),.vl (.tup [.str "hang",.lst (L.map lstN)]),nv m,.vl (.tup (a0e rows)),.vl (.str "hang"),.vl (.lst (L.map lstN))]) (fun M hM=>f0r (b:=false) rfl rfl (by simp[D.depth]) (by decide) (hM _ rfl)) ?_
  rintro _ rfl
  refine cutS (fun _=>False) (fun M hM=>f0r (b:=true) rfl rfl (by simp[D.depth]) (by decide) ⟨rfl,rows,L,rfl,hR,hL,?_⟩) (fun _ z=>z.elim)
  cases h:h0z rows L with
  | false=>rw[h]at hq;exact hq
  | true =>
   rw[h,Bool.true_and]at hq
   exact⟨rfl,rows,L,_,.inr rfl,rfl,hR,hL,hq⟩
end
open Classical in
noncomputable def wid (rows C:List Nat):List Nat:=(List.range rows.length).filter fun j=>decide (j∈C ∨ ∃i∈C,adj rows i j)
theorem h0o {rows C:List Nat}{j:Nat}:j∈wid rows C↔j<rows.length/\(j∈C ∨ ∃i∈C,adj rows i j):=by
 unfold wid
 rw[List.mem_filter,List.mem_range]
 simp
theorem l0y (rows C:List Nat):(wid rows C).Pairwise (· < ·):=List.Pairwise.filter _ List.pairwise_lt_range
theorem v0x {xs ys:List Nat}{ns':List Int}(pm:ns'.Perm (castL xs))(up:ns'.Pairwise (· <= ·))(nd:xs.Nodup)(hy:ys.Pairwise (· < ·))(hm:∀x,x∈xs↔x∈ys):ns'=castL ys:=by
 refine List.Perm.eq_of_pairwise (le:=fun a b=>a<=b) (fun a b _ _ h1 h2=>Int.le_antisymm h1 h2) up ?_ (pm.trans (List.Perm.map _ ((List.perm_ext_iff_of_nodup nd (hy.imp fun h=>by omega)).mpr hm)))
 unfold castL
 exact List.pairwise_map.mpr (hy.imp fun h=>by omega)
theorem t0f {rows C:List Nat}(hb:∀i∈C,i<rows.length){x:Nat}(h:x∈C):x∈wid rows C:=h0o.mpr ⟨hb x h,.inl h⟩
theorem h1n (rows C:List Nat):(wid rows C).length<=rows.length:=j0q (l0y rows C) fun x hx=>(h0o.mp hx).1
theorem h1o {rows C:List Nat}{p:Nat}(up:C.Pairwise (· < ·))(hp:p∈C)(hs:∀j∈C,Conn rows p j)(hl:(wid rows C).length<=C.length):C=comp rows p:=by
 have hb:∀i∈C,i<rows.length:=fun i hi=>(hs i hi).lt.2
 refine u0w up hp hs fun i hi j hj a=>?_
 have hw:j∈wid rows C:=h0o.mpr ⟨hj,.inr ⟨i,hi,a⟩⟩
 apply Classical.byContradiction
 intro z
 have:=List.Nodup.length_le_of_subset (l₁:=j::C) (List.nodup_cons.mpr ⟨z,up.imp fun h=>by omega⟩) (l₂:=wid rows C) fun x hx=>by
  rcases List.mem_cons.mp hx with rfl | h
  ·exact hw
  ·exact t0f hb h
 rw[List.length_cons]at this
 omega
theorem y0z {rows C:List Nat}{p:Nat}(hs:∀j∈C,Conn rows p j){x:Nat}(h:x∈wid rows C):Conn rows p x:=by
 obtain⟨h1,h2 | ⟨i,hi,a⟩⟩:=h0o.mp h
 ·exact hs x h2
 ·exact(hs i hi).step h1 a
def d1i:ASp:=fun ss q=>∃(rows C:List Nat) (s1:Sv),(s1 = .ow (a0e C)∨s1 = .vl (lstN C))/\ss=[.ow (a0e rows),s1]/\d0i rows/\C.Pairwise (· < ·)/\(∀i∈C,i<rows.length)/\q (.f (a0e (wid rows C))) [.ow (a0e rows),s1]
def n0h:ASp:=fun ss q=>∃rows:List Nat,ss=[.ow (a0e rows)]/\d0i rows/\q (.f ((a0u rows rows.length).map lstN)) [.ow (a0e rows)]
section
variable {P:Program}{w:World}{K:PySem.W.Frag}{mg:Str->Option Value}{base:Heap}
theorem x0x (dn:DefN K mg "_law_net" g0h ["_law_tape_here", "_law_most", "_law_joins_most"])(B:BI mg)(g_law_draw:OkN P w K mg base 1 "_law_draw" ["_law_tape_here", "_law_many"] (spA K d1n)):OkN P w K mg base 2 "_law_net" ["_law_tape_here", "_law_most", "_law_joins_most"] (spA K v0k):=by
 refine dn.aok2 (k:=1) c0f (fun j=>j==0||j==1||j==2) [.un,.un,.un,.un,.un,.un,.un,.un] v0k rfl (fun f cdv A outer s H E hr=>have hu:=d0x hr;⟨_,(a0f (b0e (i:=3) c0f.nd rfl (by first | exact Or.inl rfl | exact Or.inr rfl) (b0m f0x a0r (b0x g_law_draw (hr.mono (by decide)) (a0c (pv 0) (a0c (pv 1) a0g)))))
  (a0f (b0e (i:=4) c0f.nd rfl (by first | exact Or.inl rfl | exact Or.inr rfl) (e0l ["_law_k"] [] rfl (Blk.of (a0i g0h) k0l) (e0d rfl B.range_ (a0c (pv 3) a0g)) (fun _ _ _ _ nd=>(a0q (i:=0) nd rfl (by first | exact Or.inl rfl | exact Or.inr rfl))) (fun _ _ _ _=>d0e) (fun _ _ _ _=>(b0m a1x a0r (pv 0)))))
  (a0f (b0e (i:=5) c0f.nd rfl (by first | exact Or.inl rfl | exact Or.inr rfl) (h0r a0g))
  (a0f (b0e (i:=6) c0f.nd rfl (by first | exact Or.inl rfl | exact Or.inr rfl) (b0x g_law_draw (hr.mono (by decide)) (a0c (pv 0) (a0c a0r a0g))))
  (a0f (g0j PassesOwn.never rfl (e0d rfl B.range_ (a0c (b0x g_law_draw (hr.mono (by decide)) (a0c (pv 0) (a0c (b0m f0x (pv 2) a0r) a0g))) a0g)) (a0q (i:=7) c0f.nd rfl (by first | exact Or.inl rfl | exact Or.inr rfl))
  (a0f (b0e (i:=8) c0f.nd rfl (by first | exact Or.inl rfl | exact Or.inr rfl) (b0x g_law_draw (hr.mono (by decide)) (a0c (pv 0) (a0c (a0s (b0d K) rfl B.len_ c0v (a0c (pv 4) a0g)) a0g))))
  (a0f (b0e (i:=9) c0f.nd rfl (by first | exact Or.inl rfl | exact Or.inr rfl) (b0x g_law_draw (hr.mono (by decide)) (a0c (pv 0) (a0c (a0s (b0d K) rfl B.len_ c0v (a0c (pv 4) a0g)) a0g))))
  (a0f (f0f (b0w (k0x K hr.units) (pv 6) a0r (c0k _))
  (a0n (b0e (i:=9) c0f.nd rfl (by first | exact Or.inl rfl | exact Or.inr rfl) (b0m h0v (a0s (b0d K) rfl B.len_ c0v (a0c (pv 4) a0g)) a0r)))
  b0z)
  (a0f (f0f (b0w (k0x K hr.units) (pv 6) a0r (c0k _))
  (a0f (b0e (i:=8) c0f.nd rfl (by first | exact Or.inl rfl | exact Or.inr rfl) (a0s (k0g rfl) rfl B.max_ x0h (a0c a0r (a0c (b0m h0v (b0m h0v (a0s (b0d K) rfl B.len_ c0v (a0c (pv 4) a0g)) a0r) (b0m j0p (pv 8) a0r)) a0g))))
  (a0n (b0e (i:=9) c0f.nd rfl (by first | exact Or.inl rfl | exact Or.inr rfl) (a0s (k0g rfl) rfl B.max_ x0h (a0c a0r (a0c (b0m h0v (b0m h0v (a0s (b0d K) rfl B.len_ c0v (a0c (pv 4) a0g)) a0r) (b0m j0p (pv 9) a0r)) a0g))))))
  b0z)
  (a0n (f0f (b0w (w0l K hr.units) (c0w (b0b K) (pv 4) (pv 8) (fun _ _=>rfl)) (c0w (b0b K) (pv 4) (pv 9) (fun _ _=>rfl)) (c0k _))
  (a0f (f0o (h0t K PySem.F.plainAttrs_list PySem.F.slot_list_append PySem.F.type_list_append d0g (pv 5) (a0c (g0k (a0c (a0s (s0t rfl) rfl B.min_ d1c (a0c (pv 8) (a0c (pv 9) a0g))) (a0c (a0s (k0g rfl) rfl B.max_ x0h (a0c (pv 8) (a0c (pv 9) a0g))) a0g))) a0g)))
  (a0n (f0o (h0t K PySem.F.plainAttrs_list PySem.F.slot_list_append PySem.F.type_list_append d0g (pv 4) (a0c (b0m a1w (c0w (b0b K) (pv 4) (pv 8) (fun _ _=>rfl)) (c0w (b0b K) (pv 4) (pv 9) (fun _ _=>rfl))) a0g)))))
  b0z)))))))
  (a0f (b0e (i:=10) c0f.nd rfl (by first | exact Or.inl rfl | exact Or.inr rfl) (e0f (f0u K) rfl B.tuple_ i0p (a0c (e0l ["_law_turn"] [0,4] rfl (Blk.of (a0i g0h) k0l) (e0d rfl B.range_ (a0c (b0m f0x a0r (b0x g_law_draw (hr.mono (by decide)) (a0c (pv 0) (a0c a0r a0g)))) a0g)) (fun _ _ _ _ nd=>(a0q (i:=0) nd rfl (by first | exact Or.inl rfl | exact Or.inr rfl))) (fun _ _ _ _=>d0e) (fun _ _ _ _=>(b0x g_law_draw (hr.mono (by decide)) (a0c (pv 1) (a0c (a0s (b0d K) rfl B.len_ c0v (a0c (pv 2) a0g)) a0g))))) a0g)))
  (a0n (b0h (g0k (a0c (pv 3) (a0c (e0f (f0u K) rfl B.tuple_ i0p (a0c (pv 5) a0g)) (a0c (pv 10) a0g)))))))))))),(a0j (a0y (a0l b0j a0t (a0o (a0a a0b (a0a a0b a0d)))) rfl)
  (a0j (a0y (b0t (d0z (a0a a0b a0d)) (a0h rfl) c0h (a0l k0k a0t a0b)) rfl)
  (a0j (a0y (f0k a0d) rfl)
  (a0j (a0y (a0o (a0a a0b (a0a a0t a0d))) rfl)
  (a0j (e0k (pin:=(fun _=>false)) (d0z (a0a (a0o (a0a a0b (a0a (a0l b0j a0b a0t) a0d))) a0d)) (a0h rfl)
  (a0j (a0y (a0o (a0a a0b (a0a (b0f b0v (a0a a0b a0d)) a0d))) rfl)
  (a0j (a0y (a0o (a0a a0b (a0a (b0f b0v (a0a a0b a0d)) a0d))) rfl)
  (a0j (d0m (b0c (a0l k0y a0b a0t))
  (a0y (a0l b0j (b0f b0v (a0a a0b a0d)) a0t) rfl)
  b0q)
  (a0j (d0m (b0c (a0l k0y a0b a0t))
  (a0j (a0y (b0f l0u (a0a a0t (a0a (a0l b0j (a0l b0j (b0f b0v (a0a a0b a0d)) a0t) (a0l k0k a0b a0t)) a0d))) rfl)
  (a0y (b0f l0u (a0a a0t (a0a (a0l b0j (a0l b0j (b0f b0v (a0a a0b a0d)) a0t) (a0l k0k a0b a0t)) a0d))) rfl))
  b0q)
  (d0m (b0c (a0l w0m (a0l b0r a0b a0b) (a0l b0r a0b a0b)))
  (a0j (e0a (f0l a0b (a0a (e0j (a0a (b0f x0f (a0a a0b (a0a a0b a0d))) (a0a (b0f l0u (a0a a0b (a0a a0b a0d))) a0d))) a0d)))
  (e0a (f0l a0b (a0a (a0l b0j (a0l b0r a0b a0b) (a0l b0r a0b a0b)) a0d))))
  b0q))))))
  (a0j (a0y (b0f g0t (a0a (b0t (d0z (a0a (a0l b0j a0t (a0o (a0a a0b (a0a a0t a0d)))) a0d)) (a0h rfl) c0h (a0o (a0a a0b (a0a (b0f b0v (a0a a0b a0d)) a0d)))) a0d)) rfl)
  (a0w (e0j (a0a a0b (a0a (b0f g0t (a0a a0b a0d)) (a0a a0b a0d)))))))))))⟩) ?_
 rintro ss q ⟨n,most,jm,rfl,hn,h1,h2,h3,hq⟩
 refine⟨rfl,rfl,?_⟩
 refine⟨rfl,n,_,rfl,by omega,Dv.small (by omega) (by omega),fun m hm=>?_⟩
 refine⟨⟨by omega,by omega⟩,by rw[e0c];omega,n0c (fun k=>.int (1 <<< k:Nat)) trivial (fun k acc N hk hN=>?_) ?_⟩
 ·rw[Int.zero_add]
  refine⟨⟨by omega,by omega,by decide⟩,?_⟩
  show N (acc++[.int ((1:Int)*2^((k:Int).toNat))]) _
  rw[t0m];exact hN
 have e:((List.range (1+(m:Int)).toNat).map fun k=>D.int (1 <<< k:Nat))=a0e (a0z (1+m)):=by
  rw[show(1+(m:Int)).toNat=1+m by omega]
  unfold a0z a0e;rw[List.map_map];rfl
 rw[e]
 refine⟨Nat.zero_le _,rfl,n+1,4,rfl,by omega,Dv.small (by decide) (by decide),fun way hway=>?_⟩
 refine⟨rfl,n+2,_,rfl,by omega,Dv.small (by omega) (by omega),fun cnt hcnt=>⟨⟨by omega,by omega⟩,?_⟩⟩
 refine k0b (fun k ρ=>∃js n' s7 s8 s9,ρ=[.tp n',nv most,nv jm,nv (1+m),.ow (a0e (js.foldl a0m (a0z (1+m)))),.ow (js.map d0r),nv way,s7,s8,s9,.un]/\okJs (a0z (1+m)) js/\js.length<=k/\n'<=n+3+2*k) (fun _ _ _=>trivial) ?_ ?_ ⟨[],n+3,.un,.un,.un,rfl,trivial,Nat.le_refl _,by omega⟩
 ·rintro k ρ M hk ⟨js,n',s7,s8,s9,rfl,hok,hl,hn'⟩ hM
  have hL:(js.foldl a0m (a0z (1+m))).length=1+m+js.length:=by rw[f0z,d0f]
  have hk':k<jm+1:=by omega
  refine⟨rfl,n',_,rfl,by omega,Dv.small ?_ ?_,fun a ha=>?_⟩
  ·rw[lenD,hL];omega
  ·rw[lenD,hL];omega
  refine⟨rfl,n'+1,_,rfl,by omega,Dv.small ?_ ?_,fun b hb=>?_⟩
  ·rw[lenD,hL];omega
  ·rw[lenD,hL];omega
  rw[lenD,hL]at ha hb
  have ha':a<1+m+js.length:=by omega
  have hb':b<1+m+js.length:=by omega
  have eL:(((a0e (js.foldl a0m (a0z (1+m)))).length:Nat):Int)=((1+m+js.length:Nat):Int):=by rw[lenD,hL]
  dsimp only[stS,pt,back,R.frz]
  refine cutS (fun ρ=>∃s7 b',ρ=[.tp (n'+1+1),nv most,nv jm,nv (1+m),.ow (a0e (js.foldl a0m (a0z (1+m)))),.ow (js.map d0r),nv way,s7,nv a,nv b',.un]/\b'<1+m+js.length) (fun N hN=>?_) ?_
  ·refine f0r rfl rfl (by simp[D.depth]) rfl (ite2 (fun _=>?_) fun _=>?_)
   ·have eb:(((a0e (js.foldl a0m (a0z (1+m)))).length:Nat):Int) - 1=((m+js.length:Nat):Int):=by rw[eL];omega
    exact hN _ ⟨.vl (.int (0+(k:Nat))),m+js.length,by rw[<- x0z eb];rfl,by omega⟩
   ·exact hN _ ⟨.vl (.int (0+(k:Nat))),b,rfl,hb'⟩
  rintro _ ⟨s7,b',rfl,hb'⟩
  refine cutS (fun ρ=>∃s7 a' b',ρ=[.tp (n'+1+1),nv most,nv jm,nv (1+m),.ow (a0e (js.foldl a0m (a0z (1+m)))),.ow (js.map d0r),nv way,s7,nv a',nv b',.un]/\a'<1+m+js.length/\b'<1+m+js.length) (fun N hN=>?_) ?_
  ·refine f0r rfl rfl (by simp[D.depth]) rfl (ite2 (fun _=>?_) fun _=>?_)
   ·have em:∀x:Nat,(if(((a0e (js.foldl a0m (a0z (1+m)))).length:Nat):Int) - 1 - (x:Int) % 4 > 0 then(((a0e (js.foldl a0m (a0z (1+m)))).length:Nat):Int) - 1 - (x:Int) % 4 else 0)=((m+js.length - x % 4:Nat):Int):=fun x=>by
     rw[eL];split <;> omega
    exact⟨(show(0:Int)<4 by decide),(show(0:Int)<4 by decide),hN _ ⟨s7,m+js.length - a % 4,m+js.length - b' % 4,by rw[<- x0z (em a),<- x0z (em b')];rfl,by omega,by omega⟩⟩
   ·exact hN _ ⟨s7,a,b',rfl,ha',hb'⟩
  rintro _ ⟨s7,a,b,rfl,ha,hb⟩
  refine b0u rfl (by omega) (b0u rfl (by omega) (f0r rfl rfl (by simp[D.depth]) rfl (ite2 (fun hne=>?_) fun hne=>?_)))
  ·have hne':(js.foldl a0m (a0z (1+m))).getD a 0≠(js.foldl a0m (a0z (1+m))).getD b 0:=fun e=>by
    rw[e]at hne;simp[eqD]at hne
   refine⟨by simp,by rw[List.length_map];omega,b0u rfl (by omega) (b0u rfl (by omega) ⟨by rw[List.length_map,hL];omega,hM _ ⟨js++[(min a b,max a b)],n'+1+1,s7,nv a,nv b,?_,?_,?_,by omega⟩⟩)⟩
   ·rw[List.foldl_append,List.foldl_cons,List.foldl_nil,i1b,c0r,List.map_append,List.map_cons,List.map_nil]
    show _=[_,_,_,_,_,Sv.ow (_++[D.tup [.int ((min a b:Nat):Int),.int ((max a b:Nat):Int)]]),_,_,_,_,_]
    rw[<- minI,<- maxI,<- xorD]
    rfl
   ·have hab:a≠b:=fun e=>hne' (by rw[e])
    refine r0o hok (by show min a b<max a b;omega) (by rw[d0f];show max a b<_;omega) ?_
    show(js.foldl a0m (a0z (1+m))).getD (min a b) 0≠(js.foldl a0m (a0z (1+m))).getD (max a b) 0
    rcases Nat.le_total a b with h | h
    ·rw[Nat.min_eq_left h,Nat.max_eq_right h];exact hne'
    ·rw[Nat.min_eq_right h,Nat.max_eq_left h];exact hne'.symm
   ·rw[List.length_append];simp;omega
  ·exact hM _ ⟨js,n'+1+1,s7,nv a,nv b,rfl,hok,by omega,by omega⟩
 ·rintro ρ ⟨js,n',s7,s8,s9,rfl,hok,hl,hn'⟩
  have hL:(js.foldl a0m (a0z (1+m))).length=1+m+js.length:=by rw[f0z,d0f]
  have hl':js.length<=jm:=by omega
  refine⟨rfl,n',24,rfl,by omega,Dv.small (by decide) (by decide),fun oc hoc=>⟨⟨by omega,by omega⟩,by rw[e0c];omega,?_⟩⟩
  refine f0s (fun k acc ρ=>∃os,acc=a0e os/\os.length=k/\(∀o∈os,o<1+m+js.length)/\ρ=[.tp (n'+1+k),nv most,nv jm,nv (1+m),.ow (a0e (js.foldl a0m (a0z (1+m)))),.ow (js.map d0r),nv way,s7,s8,s9,.un]) (fun _ _ _ _ _=>trivial) ?_ ?_ _ ⟨[],rfl,rfl,fun _ h=>(nomatch h),rfl⟩
  ·rintro k d acc _ N hk ⟨os,rfl,ho,hos,rfl⟩ hN
   obtain⟨lt,rfl⟩:=l0q hk
   refine⟨rfl,n'+1+k,_,rfl,by omega,Dv.small ?_ ?_,fun o ho'=>?_⟩
   ·rw[lenD,hL];omega
   ·rw[lenD,hL];omega
   rw[lenD,hL]at ho'
   refine hN _ _ ⟨os++[o],by rw[c0r],by rw[List.length_append,ho];rfl,fun x hx=>?_,rfl⟩
   rcases List.mem_append.mp hx with h | h
   ·exact hos x h
   ·rw[List.mem_singleton.mp h];omega
  ·rintro acc _ ⟨os,rfl,ho,hos,rfl⟩
   rw[e0c]at ho
   refine⟨by simp,hq ⟨1+m,js,os⟩ (n'+1+_) ⟨by show 1<=1+m;omega,by show 1+m<=12;omega,by show js.length<=132;omega,hok,?_,?_,hos⟩ (by show 1+m<=most;omega) hl' ?_⟩
   ·show 1<=os.length;omega
   ·show os.length<=24;omega
   ·rw[e0c];omega
theorem t0v (dn:DefN K mg "_law_rows" g0g ["_law_net_here"])(B:BI mg):OkN P w K mg base 1 "_law_rows" ["_law_net_here"] (spA K k0u):=by
 refine dn.aok2 (k:=0) g0x (fun j=>j==0) [.un,.un,.un] k0u rfl (fun f cdv A outer s H E hr=>have hu:=d0x hr;⟨_,(a0f (i0y (i:=1) ["_law_k"] [] g0x.nd rfl (by first | exact Or.inl rfl | exact Or.inr rfl) rfl (Blk.of (a0i g0g) m0o) (e0d rfl B.range_ (a0c (c0w (b0b K) (pv 0) a0r (fun _ _=>rfl)) a0g)) (fun _ _ _ _ nd=>(a0q (i:=0) nd rfl (by first | exact Or.inl rfl | exact Or.inr rfl))) (fun _ _ _ _=>d0e) (fun _ _ _ _=>(b0m a1x a0r (pv 0))))
  (a0f (g0j PassesOwn.never rfl (c0d K (c0w (b0b K) (pv 0) a0r (fun _ _=>rfl))) (d0k K (n:=2) rfl (a0v (a0q (i:=2) g0x.nd rfl (by first | exact Or.inl rfl | exact Or.inr rfl)) (a0v (a0q (i:=3) g0x.nd rfl (by first | exact Or.inl rfl | exact Or.inr rfl)) d0j)))
  (a0n (f0o (h0t K PySem.F.plainAttrs_list PySem.F.slot_list_append PySem.F.type_list_append d0g (pv 1) (a0c (b0m a1w (c0w (b0b K) (pv 1) (pv 2) (fun _ _=>rfl)) (c0w (b0b K) (pv 1) (pv 3) (fun _ _=>rfl))) a0g)))))
  (a0n (b0h (pv 1))))),(a0j (g0w (b0t (d0z (a0a (a0l b0r a0b a0t) a0d)) (a0h rfl) c0h (a0l k0k a0t a0b)) rfl)
  (a0j (e0k (pin:=(fun _=>false)) (b0n (a0l b0r a0b a0t)) (c0l (a0p (a0h rfl) (a0p (a0h rfl) b0y (fun _ _ _=>b0i)) (fun _ _ _=>b0i)))
  (e0a (f0l a0b (a0a (a0l b0j (a0l b0r a0b a0b) (a0l b0r a0b a0b)) a0d))))
  (a0w a0b)))⟩) ?_
 rintro ss q ⟨N,rfl,hix,hz,hq⟩
 refine⟨rfl,rfl,h0x rfl rfl ⟨⟨by omega,by omega⟩,by rw[e0c];omega,n0c (fun k=>.int (1 <<< k:Nat)) trivial (fun k acc N hk hN=>?_) ?_⟩⟩
 ·rw[Int.zero_add]
  refine⟨⟨by omega,by omega,by decide⟩,?_⟩
  show N (acc++[.int ((1:Int)*2^((k:Int).toNat))]) _
  rw[t0m];exact hN
 have e:((List.range ((N.m:Nat):Int).toNat).map fun k=>D.int (1 <<< k:Nat))=a0e (a0z N.m):=by
  rw[Int.toNat_natCast]
  unfold a0z a0e;rw[List.map_map];rfl
 rw[e]
 refine h0x rfl rfl (k0c d0r (fun k ρ=>∃s2 s3,ρ=[.vl (netD N),.ow (a0e ((N.js.take k).foldl a0m (a0z N.m))),s2,s3]) (fun _ _ _=>trivial) ?_ ?_ ⟨.un,.un,rfl⟩)
 ·rintro k p _ M hk ⟨s6,s7,rfl⟩ hM
  obtain⟨q1,q2⟩:=i0l hix hk
  have hlen:((N.js.take k).foldl a0m (a0z N.m)).length=N.m+k:=by
   have:=(List.getElem?_eq_some_iff.mp hk).1
   rw[f0z,List.length_take,d0f];omega
  have hi:k<N.js.length:=(List.getElem?_eq_some_iff.mp hk).1
  refine b0u rfl (by omega) (b0u rfl (by omega) ⟨?_,hM _ ⟨nv p.1,nv p.2,?_⟩⟩)
  ·rw[List.length_map,hlen];omega
  ·rw[s0i hk,o0l,<- xorD];rfl
 ·rintro ρ ⟨s6,s7,rfl⟩
  rw[List.take_length]
  exact hq
theorem b1f (dn:DefN K mg "joined" l0p ["one", "other"])(B:BI mg):OkN P w K mg base 1 "joined" ["one", "other"] (spA K v0l):=by
 refine dn.aok2 (k:=0) a1d (fun j=>j==0||j==1) [] v0l rfl (fun f cdv A outer s H E hr=>have hu:=d0x hr;⟨_,(a0n (b0h (b0m a1w (pv 0) (pv 1)))),(a0w (a0l b0j a0b a0b))⟩) ?_
 rintro ss q ⟨x,y,rfl,hq⟩
 refine⟨rfl,rfl,?_⟩
 show q (.d (.int (Builtin.bitXor x y))) [nv x,nv y]
 rw[y0w];exact hq
theorem t0s (dn:DefN K mg "own_rows" g0e ["many"])(B:BI mg):OkN P w K mg base 1 "own_rows" ["many"] (spA K SOwn):=by
 refine dn.aok2 (k:=0) t0n (fun j=>j==0) [] SOwn rfl (fun f cdv A outer s H E hr=>have hu:=d0x hr;⟨_,(a0n (b0h (e0l ["given"] [] rfl (Blk.of (a0i g0e) m0m) (e0d rfl B.range_ (a0c (pv 0) a0g)) (fun _ _ _ _ nd=>(a0q (i:=0) nd rfl (by first | exact Or.inl rfl | exact Or.inr rfl))) (fun _ _ _ _=>d0e) (fun _ _ _ _=>(b0m a1x a0r (pv 0)))))),(a0w (b0t (d0z (a0a a0b a0d)) (a0h rfl) c0h (a0l k0k a0t a0b)))⟩) ?_
 rintro ss q ⟨m,rfl,hm,hq⟩
 refine⟨rfl,rfl,⟨by omega,by omega⟩,by rw[e0c];omega,?_⟩
 refine n0c (fun k=>.int (1 <<< k:Nat)) trivial (fun k acc N hk hN=>?_) ?_
 ·rw[Int.zero_add]
  refine⟨⟨by omega,by omega,by decide⟩,?_⟩
  show N (acc++[.int ((1:Int)*2^((k:Int).toNat))]) _
  rw[t0m];exact hN
 ·rw[Int.toNat_natCast]
  have e:((List.range m).map fun k=>D.int (1 <<< k:Nat))=a0e (a0z m):=by unfold a0z a0e;rw[List.map_map];rfl
  rw[e];exact hq
theorem r0n (dn:DefN K mg "all_words" h0a ["net", "words"])(B:BI mg)(g_joined:OkN P w K mg base 1 "joined" ["one", "other"] (spA K v0l)):OkN P w K mg base 2 "all_words" ["net", "words"] (spA K SAll):=by
 refine dn.aok2 (k:=1) c0z (fun j=>j==0||j==1) [.un,.un,.un,.un,.un,.un] SAll rfl (fun f cdv A outer s H E hr=>have hu:=d0x hr;⟨_,(a0f (m0h (pv 0) (d0k K (n:=3) rfl (a0v (a0q (i:=2) c0z.nd rfl (by first | exact Or.inl rfl | exact Or.inr rfl)) (a0v (a0q (i:=3) c0z.nd rfl (by first | exact Or.inl rfl | exact Or.inr rfl)) (a0v (a0q (i:=4) c0z.nd rfl (by first | exact Or.inl rfl | exact Or.inr rfl)) d0j)))))
  (a0f (b0e (i:=5) c0z.nd rfl (by first | exact Or.inl rfl | exact Or.inr rfl) (e0f (o0x K) rfl B.list_ k0r (a0c (pv 1) a0g)))
  (a0f (g0j PassesOwn.never rfl (c0d K (pv 3)) (d0k K (n:=2) rfl (a0v (a0q (i:=6) c0z.nd rfl (by first | exact Or.inl rfl | exact Or.inr rfl)) (a0v (a0q (i:=7) c0z.nd rfl (by first | exact Or.inl rfl | exact Or.inr rfl)) d0j)))
  (a0n (f0o (h0t K PySem.F.plainAttrs_list PySem.F.slot_list_append PySem.F.type_list_append d0g (pv 5) (a0c (b0x g_joined (hr.mono (by decide)) (a0c (c0w (b0b K) (pv 5) (pv 6) (fun _ _=>rfl)) (a0c (c0w (b0b K) (pv 5) (pv 7) (fun _ _=>rfl)) a0g))) a0g)))))
  (a0n (b0h (pv 5)))))),(a0j (i0x a0b (c0l (a0p (a0h rfl) (a0p (a0h rfl) (a0p (a0h rfl) b0y (fun _ _ _=>b0i)) (fun _ _ _=>b0i)) (fun _ _ _=>b0i))))
  (a0j (a0y (b0f s0s (a0a a0b a0d)) rfl)
  (a0j (e0k (pin:=(fun j=>j==3)) (b0n a0b) (c0l (a0p (a0h rfl) (a0p (a0h rfl) b0y (fun _ _ _=>b0i)) (fun _ _ _=>b0i)))
  (e0a (f0l a0b (a0a (a0o (a0a (a0l b0r a0b a0b) (a0a (a0l b0r a0b a0b) a0d))) a0d))))
  (a0w a0b))))⟩) ?_
 rintro ss q ⟨N,ws,rfl,hix,hz,hq⟩
 refine⟨rfl,rfl,?_⟩
 refine k0c d0r (fun k ρ=>∃s6 s7,ρ=[.vl (netD N),.vl (.lst (a0e ws)),nv N.m,.vl (.tup (N.js.map d0r)),.vl (.tup (a0e N.os)),.ow (a0e ((N.js.take k).foldl a0m ws)),s6,s7]) (fun _ _ _=>trivial) ?_ ?_ ⟨_,_,rfl⟩
 ·rintro k p _ M hk ⟨s6,s7,rfl⟩ hM
  obtain⟨q1,q2⟩:=i0l hix hk
  have hlen:((N.js.take k).foldl a0m ws).length=ws.length+k:=by
   have:=(List.getElem?_eq_some_iff.mp hk).1
   rw[f0z,List.length_take];omega
  have hi:k<N.js.length:=(List.getElem?_eq_some_iff.mp hk).1
  refine b0u rfl (by omega) (b0u rfl (by omega) ⟨rfl,_,_,rfl,?_,hM _ ⟨nv p.1,nv p.2,?_⟩⟩)
  ·rw[List.length_map,hlen];omega
  ·rw[s0i hk,o0l];rfl
 ·rintro ρ ⟨s6,s7,rfl⟩
  rw[List.take_length]
  exact hq
theorem x0w (dn:DefN K mg "rows_of" j0l ["net"])(B:BI mg)(g_all_words:OkN P w K mg base 2 "all_words" ["net", "words"] (spA K SAll))(g_own_rows:OkN P w K mg base 1 "own_rows" ["many"] (spA K SOwn)):OkN P w K mg base 3 "rows_of" ["net"] (spA K k0u):=by
 refine dn.aok2 (k:=2) x0r (fun j=>j==0) [] k0u rfl (fun f cdv A outer s H E hr=>have hu:=d0x hr;⟨_,(a0n (b0h (b0x g_all_words (hr.mono (by decide)) (a0c (pv 0) (a0c (b0x g_own_rows (hr.mono (by decide)) (a0c (c0w (b0b K) (pv 0) a0r (fun _ _=>rfl)) a0g)) a0g))))),(a0w (a0o (a0a a0b (a0a (a0o (a0a (a0l b0r a0b a0t) a0d)) a0d))))⟩) ?_
 rintro ss q ⟨N,rfl,hix,hz,hq⟩
 refine⟨rfl,rfl,?_⟩
 refine h0x rfl rfl ⟨rfl,N.m,rfl,by omega,rfl,N,a0z N.m,rfl,?_,?_,hq⟩
 ·rw[d0f];exact hix
 ·rw[d0f];exact hz
theorem x0y (dn:DefN K mg "joining" j0m ["one", "other"])(B:BI mg):OkN P w K mg base 1 "joining" ["one", "other"] (spA K q0p):=by
 refine dn.aok2 (k:=0) x0s (fun j=>j==0||j==1) [] q0p rfl (fun f cdv A outer s H E hr=>have hu:=d0x hr;⟨_,(a0n (b0h (g0k (a0c (a0s (s0t rfl) rfl B.min_ d1c (a0c (pv 0) (a0c (pv 1) a0g))) (a0c (a0s (k0g rfl) rfl B.max_ x0h (a0c (pv 0) (a0c (pv 1) a0g))) a0g))))),(a0w (e0j (a0a (b0f x0f (a0a a0b (a0a a0b a0d))) (a0a (b0f l0u (a0a a0b (a0a a0b a0d))) a0d))))⟩) ?_
 rintro ss q ⟨a,b,rfl,hq⟩
 refine⟨rfl,rfl,by simp,?_⟩
 show q (.d (.tup [.int (if(b:Int)<(a:Int)then(b:Int)else(a:Int)),.int (if(b:Int) > (a:Int)then(b:Int)else(a:Int))])) [nv a,nv b]
 rw[minI,maxI];exact hq
theorem n0m (dn:DefN K mg "first_alike" f0c ["rows"])(B:BI mg):OkN P w K mg base 1 "first_alike" ["rows"] (spA K d1m):=by
 refine dn.aok2 (k:=0) d0n (fun j=>j==0) [.un,.un,.un,.un] d1m rfl (fun f cdv A outer s H E hr=>have hu:=d0x hr;⟨_,(a0f (b0e (i:=1) d0n.nd rfl (by first | exact Or.inl rfl | exact Or.inr rfl) e1q)
  (a0f (b0e (i:=2) d0n.nd rfl (by first | exact Or.inl rfl | exact Or.inr rfl) (h0r a0g))
  (a0f (g0j PassesOwn.never rfl (a1q K rfl B.enumerate_ (a0c (pv 0) a0g)) (d0k K (n:=2) rfl (a0v (a0q (i:=3) d0n.nd rfl (by first | exact Or.inl rfl | exact Or.inr rfl)) (a0v (a0q (i:=4) d0n.nd rfl (by first | exact Or.inl rfl | exact Or.inr rfl)) d0j)))
  (a0n (f0o (h0t K PySem.F.plainAttrs_list PySem.F.slot_list_append PySem.F.type_list_append d0g (pv 2) (a0c (e1p (pv 1) (pv 4) (pv 3) ⟨rfl,rfl,rfl,rfl⟩) a0g)))))
  (a0n (b0h (pv 2)))))),(a0j (a0y d1z rfl)
  (a0j (a0y (f0k a0d) rfl)
  (a0j (e0k (pin:=(fun j=>j==0)) (q0x (a0a a0b a0d)) (c0l (a0p (a0h rfl) (a0p (a0h rfl) b0y (fun _ _ _=>b0i)) (fun _ _ _=>b0i)))
  (e0a (f0l a0b (a0a (z0f a0b a0b a0b) a0d))))
  (a0w a0b))))⟩) ?_
 rintro ss q ⟨R,rfl,hz,hq⟩
 refine⟨rfl,rfl,?_⟩
 refine⟨by simp,?_⟩
 refine f0y (fun k ρ=>k<=R.length/\∃kvs s3 s4,ρ=[.vl (.lst (a0e R)),.dk kvs,.ow (a0e ((stN R).take k)),s3,s4]/\metD R k kvs/\kvs.length<=k) (fun _ _ _ _=>trivial) ?_ ?_ _ ⟨Nat.zero_le _,[],.un,.un,rfl,fun r=>by simp[valD],Nat.le_refl _⟩
 ·rintro k d _ M hk ⟨_,kvs,s3,s4,rfl,hm,hkl⟩ hM
  obtain⟨x,ex,rfl⟩:=e0g hk
  rw[List.getElem?_map]at ex
  obtain⟨r,er,rfl⟩:=Option.map_eq_some_iff.mp ex
  have lt:k<R.length:=(List.getElem?_eq_some_iff.mp er).1
  have er':R.getD k 0=r:=by rw[List.getD_eq_getElem?_getD,er];rfl
  have ef:fst1 R k=R.idxOf r:=by unfold fst1;rw[er']
  have et:R.take (k+1)=R.take k++[r]:=by rw[List.take_add_one,er];rfl
  have es:(stN R).take (k+1)=(stN R).take k++[R.idxOf r]:=by
   rw[List.take_add_one]
   congr 1
   have:(stN R)[k]? = some (fst1 R k):=by simp[stN,lt]
   rw[this,ef];rfl
  have hsl:(a0e ((stN R).take k)).length<=1000:=by rw[a0k,List.length_take,g0v];omega
  rw[Nat.zero_add]
  refine d1v ?_
  refine f1h (k:=.inl (r:Int)) rfl (by omega) (fun x hx=>?_) fun hx=>?_
  ·have h1:=hm r
   rw[hx]at h1
   by_cases hr:r∈R.take k
   ·rw[if_pos hr]at h1
    cases h1
    refine⟨by omega,hM _ ⟨by omega,kvs,nv k,nv r,?_,fun r'=>?_,by omega⟩⟩
    ·rw[es,c0r];rfl
    ·rw[hm r',et]
     by_cases e:r'=r
     ·subst e;rw[if_pos hr,if_pos (List.mem_append_left _ hr)]
     ·congr 1
      simp[e]
   ·rw[if_neg hr]at h1;cases h1
  ·have h1:=hm r
   rw[hx]at h1
   by_cases hr:r∈R.take k
   ·rw[if_pos hr]at h1;cases h1
   ·have ei:R.idxOf r=k:=by
     have l1:R.idxOf r<=k:=by rw[<- ef];exact c1j lt
     rcases Nat.lt_or_ge (R.idxOf r) k with q | q
     ·exfalso
      refine hr ?_
      have g:=w0x (R:=R) (t:=k) lt
      rw[ef,er',s0h (by omega)]at g
      exact List.mem_iff_getElem.mpr ⟨R.idxOf r,by rw[List.length_take];omega,by rw[List.getElem_take];exact g⟩
     ·omega
    refine⟨by omega,hM _ ⟨by omega,putD kvs (.inl (r:Int)) (nD k),nv k,nv r,?_,fun r'=>?_,?_⟩⟩
    ·rw[es,c0r,ei];rfl
    ·rw[v0s,et]
     by_cases e:r'=r
     ·subst e
      rw[if_pos rfl,if_pos (by simp),ei]
     ·have ne:¬(Sum.inl (r':Int):Key) = .inl (r:Int):=fun z=>e (by injection z with z;omega)
      rw[if_neg ne,hm r']
      congr 1
      simp[e]
    ·have:=i0j kvs (.inl (r:Int)) (nD k);omega
 ·rintro _ ⟨_,kvs,s3,s4,rfl,hm,hkl⟩
  have e:(g0q 0 (a0e R)).length=R.length:=by rw[c0p,a0k]
  rw[e,List.take_of_length_le (by rw[g0v];exact Nat.le_refl _)]
  exact hq
theorem t0t (dn:DefN K mg "leant_on" g0f ["net", "stands"])(B:BI mg):OkN P w K mg base 1 "leant_on" ["net", "stands"] (spA K d1k):=by
 refine dn.aok2 (k:=0) c0y (fun j=>j==0||j==1) [.un,.un,.un,.un,.un,.un,.un] d1k rfl (fun f cdv A outer s H E hr=>have hu:=d0x hr;⟨_,(a0f (m0h (pv 0) (d0k K (n:=3) rfl (a0v (a0q (i:=2) c0y.nd rfl (by first | exact Or.inl rfl | exact Or.inr rfl)) (a0v (a0q (i:=3) c0y.nd rfl (by first | exact Or.inl rfl | exact Or.inr rfl)) (a0v (a0q (i:=4) c0y.nd rfl (by first | exact Or.inl rfl | exact Or.inr rfl)) d0j)))))
  (a0f (e1m (i:=5) ["out"] [1] c0y.nd rfl (by first | exact Or.inl rfl | exact Or.inr rfl) rfl (Blk.of (a0i g0f) m0n) (c0d K (pv 4)) (fun _ _ _ _ nd=>(a0q (i:=0) nd rfl (by first | exact Or.inl rfl | exact Or.inr rfl))) (fun _ _ _ _=>d0e) (fun _ _ _ _=>(c0w (b0b K) (pv 1) (pv 0) (fun _ _=>rfl))) (fun _ _ _ _=>h0u))
  (a0f (g0j PassesOwn.never rfl (l1q K rfl B.reversed_ (a0c (l1u K rfl rfl B.list_ rfl B.enumerate_ (a0c (pv 3) a0g)) a0g)) (d0k K (n:=2) rfl (a0v (a0q (i:=6) c0y.nd rfl (by first | exact Or.inl rfl | exact Or.inr rfl)) (a0v (d0k K (n:=2) rfl (a0v (a0q (i:=7) c0y.nd rfl (by first | exact Or.inl rfl | exact Or.inr rfl)) (a0v (a0q (i:=8) c0y.nd rfl (by first | exact Or.inl rfl | exact Or.inr rfl)) d0j))) d0j)))
  (a0n (f0f (g1q (g1s hu (b0m f0x (pv 2) (pv 6)) (pv 5)))
  (a0f (m0g hu (pv 5) (c0w (b0b K) (pv 1) (pv 7) (fun _ _=>rfl)) h0u rfl)
  (a0n (m0g hu (pv 5) (c0w (b0b K) (pv 1) (pv 8) (fun _ _=>rfl)) h0u rfl)))
  b0z)))
  (a0n (b0h (pv 5)))))),(a0j (i0x a0b (c0l (a0p (a0h rfl) (a0p (a0h rfl) (a0p (a0h rfl) b0y (fun _ _ _=>b0i)) (fun _ _ _=>b0i)) (fun _ _ _=>b0i))))
  (a0j (z0x (z0h (b0n a0b) (a0h rfl) c0h (a0l b0r a0b a0b) e0r) rfl)
  (a0j (e0k (pin:=(fun _=>false)) (e1b (a0a (h1v (a0a a0b a0d)) a0d)) (c0l (a0p (a0h rfl) (a0p (c0l (a0p (a0h rfl) (a0p (a0h rfl) b0y (fun _ _ _=>b0i)) (fun _ _ _=>b0i))) b0y (fun _ _ _=>h1a)) (fun _ _ _=>b0i)))
  (d0m (b0c (z0g (a0l b0j a0b a0b) a0b))
  (a0j (v0y e0r a0b (a0l b0r a0b a0b))
  (v0y e0r a0b (a0l b0r a0b a0b)))
  b0q))
  (a0w a0b))))⟩) ?_
 rintro ss q ⟨N,rfl,hN,hq⟩
 have Rw:=r0a hN
 have hl:(b0g N).length=N.m+N.js.length:=j0n N
 have jl:=hN.jl
 have m12:=hN.m12
 have o24:=hN.o24
 refine⟨rfl,rfl,?_⟩
 refine cutS (fun ρ=>ρ=[.vl (netD N),.ow (a0e (stN (b0g N))),nv N.m,.vl (.tup (N.js.map L2.d0r)),.vl (.tup (a0e N.os)),.un,.un,.un,.un]) (fun M hM=>hM _ rfl) ?_
 rintro _ rfl
 refine cutS (fun ρ=>∃kvs,ρ=[.vl (netD N),.ow (a0e (stN (b0g N))),nv N.m,.vl (.tup (N.js.map L2.d0r)),.vl (.tup (a0e N.os)),.dk kvs,.un,.un,.un]/\u0l (fun t=>(N.os.map (fT N)).contains t) kvs/\kvs.length<=24) (fun M hM=>?_) ?_
 ·refine⟨by rw[a0k];omega,?_⟩
  refine y0p (fun k acc ρ=>ρ=[.vl (netD N),.ow (a0e (stN (b0g N))),nv N.m,.vl (.tup (N.js.map L2.d0r)),.vl (.tup (a0e N.os)),.un,.un,.un,.un]/\u0l (fun t=>((N.os.take k).map (fT N)).contains t) acc/\acc.length<=k) (fun _ _ _ _ _=>trivial) ?_ ?_ _ ⟨rfl,fun t=>by simp[valD],Nat.le_refl _⟩
  ·rintro k d acc _ M2 hk ⟨rfl,hka,hla⟩ hM2
   rw[List.getElem?_map]at hk
   obtain⟨o,eo,rfl⟩:=Option.map_eq_some_iff.mp hk
   have ho:=hN.os o (List.mem_of_getElem? eo)
   refine b0u rfl (by rw[g0v];omega) (hM2 _ _ ⟨rfl,?_,?_⟩)
   ·rw[j0i (by omega)]
    have:=p0p hka (fst1 (b0g N) o) (.bl true)
    intro t
    rw[this t,List.take_add_one,eo,Option.toList_some,List.map_append,List.map_cons,List.map_nil]
    rw[Bool.eq_iff_iff]
    simp[fT]
   ·have:=i0j acc (.inl (((stN (b0g N)).getD o 0:Nat):Int)) (.bl true);omega
  ·rintro acc _ ⟨rfl,hka,hla⟩
   rw[a0k]at hka hla
   rw[List.take_length]at hka
   exact hM _ ⟨acc,rfl,hka,by omega⟩
 rintro _ ⟨kvs,rfl,hk0,hl0⟩
 refine f0y (fun k ρ=>k<=N.js.length/\∃kvs s6 s7 s8,ρ=[.vl (netD N),.ow (a0e (stN (b0g N))),nv N.m,.vl (.tup (N.js.map L2.d0r)),.vl (.tup (a0e N.os)),.dk kvs,s6,s7,s8]/\u0l (h0f N.m (fT N) (N.js.drop (N.js.length - k)) (N.js.length - k) fun t=>(N.os.map (fT N)).contains t) kvs/\kvs.length<=24+2*k) (fun _ _ _ _=>trivial) ?_ ?_ _ ⟨Nat.zero_le _,kvs,.un,.un,.un,rfl,?_,by omega⟩
 ·rintro k d _ M hk ⟨_,kvs,s6,s7,s8,rfl,hka,hla⟩ hM
  have lk:k<N.js.length:=by
   have:=(List.getElem?_eq_some_iff.mp hk).1
   rwa [List.length_reverse,c0p,List.length_map]at this
  rw[List.getElem?_reverse (by rw[c0p,List.length_map];exact lk),c0p,List.length_map]at hk
  obtain⟨x,ex,rfl⟩:=e0g hk
  rw[List.getElem?_map]at ex
  obtain⟨p,ep,rfl⟩:=Option.map_eq_some_iff.mp ex
  obtain⟨a1,a2,a3⟩:=y0f Rw ep
  rw[Nat.zero_add]
  have ed:N.js.drop (N.js.length - (k+1))=p::N.js.drop (N.js.length - k):=by
   rw[show N.js.length - (k+1)=N.js.length - 1 - k by omega,List.drop_eq_getElem_cons (by omega),show N.js.length - 1 - k+1=N.js.length - k by omega]
   congr 1
   exact(List.getElem?_eq_some_iff.mp ep).2
  have ek:N.js.length - (k+1)+1=N.js.length - k:=by omega
  refine z0n (d2:=nD p.1) (d3:=nD p.2) ?_
  show aIfS _ _ _ _ [.vl (netD N),.ow (a0e (stN (b0g N))),nv N.m,.vl (.tup (N.js.map L2.d0r)),.vl (.tup (a0e N.os)),.dk kvs,nv (N.js.length - 1 - k),nv p.1,nv p.2]
  have ht:=hka (N.m+(N.js.length - (k+1)))
  have ec:((N.m:Int)+((N.js.length - 1 - k:Nat):Int))=((N.m+(N.js.length - (k+1)):Nat):Int):=by omega
  refine ite2 (fun h=>?_) fun h=>?_
  ·have h':(valD kvs (.inl ((N.m:Int)+((N.js.length - 1 - k:Nat):Int)))).isSome=true:=h
   rw[ec,ht]at h'
   refine b0u rfl (by rw[g0v];omega) ⟨by omega,?_⟩
   refine b0u rfl (by rw[g0v];omega) ⟨?_,hM _ ⟨by omega,_,nv (N.js.length - 1 - k),nv p.1,nv p.2,rfl,?_,?_⟩⟩
   ·have:=i0j kvs (.inl (((stN (b0g N)).getD p.1 0:Nat):Int)) (.bl true);omega
   ·rw[j0i (by omega),j0i (by omega)]
    have:=p0p (p0p hka (fst1 (b0g N) p.1) (.bl true)) (fst1 (b0g N) p.2) (.bl true)
    intro t
    rw[this t,ed,r0x,ek,h']
    simp only[Bool.true_and,Bool.or_assoc]
    rfl
   ·have h1:=i0j kvs (.inl (((stN (b0g N)).getD p.1 0:Nat):Int)) (.bl true)
    have h2:=i0j (putD kvs (.inl (((stN (b0g N)).getD p.1 0:Nat):Int)) (.bl true)) (.inl (((stN (b0g N)).getD p.2 0:Nat):Int)) (.bl true)
    omega
  ·have h':¬(valD kvs (.inl ((N.m:Int)+((N.js.length - 1 - k:Nat):Int)))).isSome=true:=h
   rw[ec,ht]at h'
   refine hM _ ⟨by omega,kvs,nv (N.js.length - 1 - k),nv p.1,nv p.2,rfl,fun t=>?_,by omega⟩
   rw[hka t,ed,r0x,ek,Bool.not_eq_true _ |>.mp h',Bool.false_and,Bool.or_false]
 ·rintro _ ⟨_,kvs,s6,s7,s8,rfl,hka,hla⟩
  have e:((g0q 0 (N.js.map L2.d0r)).reverse).length=N.js.length:=by rw[List.length_reverse,c0p,List.length_map]
  rw[e,Nat.sub_self,List.drop_zero]at hka
  exact hq kvs hka
 ·rw[Nat.sub_zero,List.drop_length]
  exact hk0
theorem b1e (dn:DefN K mg "tidied" j0k ["net"])(B:BI mg)(g_first_alike:OkN P w K mg base 1 "first_alike" ["rows"] (spA K d1m))(g_leant_on:OkN P w K mg base 1 "leant_on" ["net", "stands"] (spA K d1k))(g_rows_of:OkN P w K mg base 3 "rows_of" ["net"] (spA K k0u))(g_joining:OkN P w K mg base 1 "joining" ["one", "other"] (spA K q0p)):OkN P w K mg base 4 "tidied" ["net"] (spA K STid):=by
 refine dn.aok2 (k:=3) c0x (fun j=>j==0) [.un,.un,.un,.un,.un,.un,.un,.un,.un,.un] STid rfl (fun f cdv A outer s H E hr=>have hu:=d0x hr;⟨_,(a0f (m0h (pv 0) (d0k K (n:=3) rfl (a0v (a0q (i:=1) c0x.nd rfl (by first | exact Or.inl rfl | exact Or.inr rfl)) (a0v (a0q (i:=2) c0x.nd rfl (by first | exact Or.inl rfl | exact Or.inr rfl)) (a0v (a0q (i:=3) c0x.nd rfl (by first | exact Or.inl rfl | exact Or.inr rfl)) d0j)))))
  (a0f (b0e (i:=4) c0x.nd rfl (by first | exact Or.inl rfl | exact Or.inr rfl) (b0x g_first_alike (hr.mono (by decide)) (a0c (b0x g_rows_of (hr.mono (by decide)) (a0c (pv 0) a0g)) a0g)))
  (a0f (b0e (i:=5) c0x.nd rfl (by first | exact Or.inl rfl | exact Or.inr rfl) (b0x g_leant_on (hr.mono (by decide)) (a0c (pv 0) (a0c (pv 4) a0g))))
  (a0f (b0e (i:=6) c0x.nd rfl (by first | exact Or.inl rfl | exact Or.inr rfl) (e0f (y0s rfl) rfl B.list_ k0r (a0c (e0f v0d rfl B.range_ f1w (a0c (pv 1) a0g)) a0g)))
  (a0f (b0e (i:=7) c0x.nd rfl (by first | exact Or.inl rfl | exact Or.inr rfl) (h0r a0g))
  (a0f (g0j PassesOwn.never rfl (p0h K rfl B.enumerate_ (a0c (pv 2) a0g)) (d0k K (n:=2) rfl (a0v (a0q (i:=8) c0x.nd rfl (by first | exact Or.inl rfl | exact Or.inr rfl)) (a0v (d0k K (n:=2) rfl (a0v (a0q (i:=9) c0x.nd rfl (by first | exact Or.inl rfl | exact Or.inr rfl)) (a0v (a0q (i:=10) c0x.nd rfl (by first | exact Or.inl rfl | exact Or.inr rfl)) d0j))) d0j)))
  (a0f (f0o (h0t K PySem.F.plainAttrs_list PySem.F.slot_list_append PySem.F.type_list_append d0g (pv 6) (a0c (b0m f0x (pv 1) (a0s (b0d K) rfl B.len_ c0v (a0c (pv 7) a0g))) a0g)))
  (a0n (f0f (g1q (g1s hu (b0m f0x (pv 1) (pv 8)) (pv 5)))
  (a0n (f0o (h0t K PySem.F.plainAttrs_list PySem.F.slot_list_append PySem.F.type_list_append d0g (pv 7) (a0c (b0x g_joining (hr.mono (by decide)) (a0c (c0w (b0b K) (pv 6) (c0w (b0b K) (pv 4) (pv 9) (fun _ _=>rfl)) (fun _ _=>rfl)) (a0c (c0w (b0b K) (pv 6) (c0w (b0b K) (pv 4) (pv 10) (fun _ _=>rfl)) (fun _ _=>rfl)) a0g))) a0g))))
  b0z))))
  (a0n (b0h (g0k (a0c (pv 1) (a0c (e0f (f0u K) rfl B.tuple_ i0p (a0c (pv 7) a0g)) (a0c (e0f (f0u K) rfl B.tuple_ i0p (a0c (e0l ["out"] [6,4] rfl (Blk.of (a0i j0k) r0s) (c0d K (pv 3)) (fun _ _ _ _ nd=>(a0q (i:=0) nd rfl (by first | exact Or.inl rfl | exact Or.inr rfl))) (fun _ _ _ _=>d0e) (fun _ _ _ _=>(c0w (b0b K) (pv 1) (c0w (b0b K) (pv 2) (pv 0) (fun _ _=>rfl)) (fun _ _=>rfl)))) a0g)) a0g)))))))))))),(a0j (i0x a0b (c0l (a0p (a0h rfl) (a0p (a0h rfl) (a0p (a0h rfl) b0y (fun _ _ _=>b0i)) (fun _ _ _=>b0i)) (fun _ _ _=>b0i))))
  (a0j (a0y (a0o (a0a (a0o (a0a a0b a0d)) a0d)) rfl)
  (a0j (a0y (a0o (a0a a0b (a0a a0b a0d))) rfl)
  (a0j (a0y (d1y a0b) rfl)
  (a0j (a0y (f0k a0d) rfl)
  (a0j (e0k (pin:=(fun j=>j==2)) (k0i (a0a a0b a0d)) (c0l (a0p (a0h rfl) (a0p (c0l (a0p (a0h rfl) (a0p (a0h rfl) b0y (fun _ _ _=>b0i)) (fun _ _ _=>b0i))) b0y (fun _ _ _=>h1a)) (fun _ _ _=>b0i)))
  (a0j (e0a (f0l a0b (a0a (a0l b0j a0b (b0f b0v (a0a a0b a0d))) a0d)))
  (d0m (b0c (z0g (a0l b0j a0b a0b) a0b))
  (e0a (f0l a0b (a0a (a0o (a0a (a0l b0r a0b (a0l b0r a0b a0b)) (a0a (a0l b0r a0b (a0l b0r a0b a0b)) a0d))) a0d)))
  b0q)))
  (a0w (e0j (a0a a0b (a0a (b0f g0t (a0a a0b a0d)) (a0a (b0f g0t (a0a (b0t (b0n a0b) (a0h rfl) c0h (a0l b0r a0b (a0l b0r a0b a0b))) a0d)) a0d)))))))))))⟩) ?_
 rintro ss q ⟨N,rfl,hN,hq⟩
 have Rw:=r0a hN
 have hl:(b0g N).length=N.m+N.js.length:=j0n N
 have jl:=hN.jl
 have m12:=hN.m12
 have o24:=hN.o24
 refine⟨rfl,rfl,?_⟩
 refine cutS (fun ρ=>ρ=[.vl (netD N),nv N.m,.vl (.tup (N.js.map L2.d0r)),.vl (.tup (a0e N.os)),.un,.un,.un,.un,.un,.un,.un]) (fun M hM=>hM _ rfl) ?_
 rintro _ rfl
 refine cutS (fun ρ=>ρ=[.vl (netD N),nv N.m,.vl (.tup (N.js.map L2.d0r)),.vl (.tup (a0e N.os)),.ow (a0e (stN (b0g N))),.un,.un,.un,.un,.un,.un]) (fun M hM=>⟨rfl,N,rfl,Rw.ix,by omega,rfl,b0g N,rfl,by omega,hM _ rfl⟩) ?_
 rintro _ rfl
 refine cutS (fun ρ=>∃kvs,ρ=[.vl (netD N),nv N.m,.vl (.tup (N.js.map L2.d0r)),.vl (.tup (a0e N.os)),.ow (a0e (stN (b0g N))),.dk kvs,.un,.un,.un,.un,.un]/\u0l (b0s N) kvs) (fun M hM=>⟨rfl,N,rfl,hN,fun kvs hk=>hM _ ⟨kvs,rfl,hk⟩⟩) ?_
 rintro _ ⟨kvs,rfl,hk⟩
 refine cutS (fun ρ=>ρ=[.vl (netD N),nv N.m,.vl (.tup (N.js.map L2.d0r)),.vl (.tup (a0e N.os)),.ow (a0e (stN (b0g N))),.dk kvs,.ow (a0e (List.range N.m)),.un,.un,.un,.un]) (fun M hM=>⟨⟨by omega,by omega⟩,hM _ (by rw[Int.toNat_natCast];rfl)⟩) ?_
 rintro _ rfl
 refine cutS (fun ρ=>ρ=[.vl (netD N),nv N.m,.vl (.tup (N.js.map L2.d0r)),.vl (.tup (a0e N.os)),.ow (a0e (stN (b0g N))),.dk kvs,.ow (a0e (List.range N.m)),.ow [],.un,.un,.un]) (fun M hM=>⟨by simp,hM _ rfl⟩) ?_
 rintro _ rfl
 refine cutS (fun ρ=>∃s8 s9 s10,ρ=[.vl (netD N),nv N.m,.vl (.tup (N.js.map L2.d0r)),.vl (.tup (a0e N.os)),.ow (a0e (stN (b0g N))),.dk kvs,.ow (a0e ((List.range (N.m+N.js.length)).map (nT N))),.ow ((tidN N).js.map L2.d0r),s8,s9,s10]) (fun M hM=>?_) ?_
 ·refine f0y (fun k ρ=>k<=N.js.length/\∃s8 s9 s10,ρ=[.vl (netD N),nv N.m,.vl (.tup (N.js.map L2.d0r)),.vl (.tup (a0e N.os)),.ow (a0e (stN (b0g N))),.dk kvs,.ow (a0e ((List.range (N.m+k)).map (nT N))),.ow ((l0g N.m (fT N) (b0s N) N.js k).map L2.d0r),s8,s9,s10]) (fun _ _ _ _=>trivial) ?_ ?_ _ ⟨Nat.zero_le _,.un,.un,.un,?_⟩
  ·rintro k d _ M2 hk' ⟨_,s8,s9,s10,rfl⟩ hM2
   obtain⟨x,ex,rfl⟩:=e0g hk'
   rw[List.getElem?_map]at ex
   obtain⟨p,ep,rfl⟩:=Option.map_eq_some_iff.mp ex
   obtain⟨a1,a2,a3⟩:=y0f Rw ep
   obtain⟨f1,f2⟩:=f_lt Rw ep
   rw[Nat.zero_add]
   have enk:nT N (N.m+k)=N.m+nkT N.m (b0s N) k:=by unfold nT nbT;rw[if_neg (by omega)];congr 2;omega
   have ers:(List.range (N.m+(k+1))).map (nT N)=(List.range (N.m+k)).map (nT N)++[nT N (N.m+k)]:=by
    rw[<- Nat.add_assoc,List.range_succ,List.map_append];rfl
   have eln:(N.m:Int)+(((l0g N.m (fT N) (b0s N) N.js k).map L2.d0r).length:Int)=((nT N (N.m+k):Nat):Int):=by
    rw[List.length_map,h0g,enk];omega
   have ejs:N.js.getD k (0,0)=p:=by rw[List.getD_eq_getElem?_getD,ep];rfl
   have nkl:=l1z (m:=N.m) (L:=b0s N) k
   refine z0n (d2:=nD p.1) (d3:=nD p.2) ?_
   show aSeq _ _ _ [.vl (netD N),nv N.m,.vl (.tup (N.js.map L2.d0r)),.vl (.tup (a0e N.os)),.ow (a0e (stN (b0g N))),.dk kvs,.ow (a0e ((List.range (N.m+k)).map (nT N))),.ow ((l0g N.m (fT N) (b0s N) N.js k).map L2.d0r),nv k,nv p.1,nv p.2]
   refine cutS (fun ρ=>ρ=[.vl (netD N),nv N.m,.vl (.tup (N.js.map L2.d0r)),.vl (.tup (a0e N.os)),.ow (a0e (stN (b0g N))),.dk kvs,.ow (a0e ((List.range (N.m+(k+1))).map (nT N))),.ow ((l0g N.m (fT N) (b0s N) N.js k).map L2.d0r),nv k,nv p.1,nv p.2]) (fun M3 hM3=>⟨?_,hM3 _ ?_⟩) ?_
   ·rw[a0k,List.length_map,List.length_range];omega
   ·rw[ers,c0r,show nD (nT N (N.m+k))=D.int ((N.m:Int)+(((l0g N.m (fT N) (b0s N) N.js k).map L2.d0r).length:Int))from congrArg D.int eln.symm];rfl
   rintro _ rfl
   have ec:((N.m:Int)+(k:Int))=((N.m+k:Nat):Int):=by omega
   have ht:=hk (N.m+k)
   have gat:∀t,t<N.m+k->((List.range (N.m+(k+1))).map (nT N)).getD t 0=nT N t:=fun t h=>by
    rw[s0h (by simp;omega)];simp
   have glen:((List.range (N.m+(k+1))).map (nT N)).length=N.m+(k+1):=by simp
   refine ite2 (fun h=>?_) fun h=>?_
   ·have h':(valD kvs (.inl ((N.m:Int)+(k:Int)))).isSome=true:=h
    rw[ec,ht]at h'
    refine b0u rfl (by rw[g0v];omega) ?_
    refine b0u rfl (by rw[j0i (by omega),glen];show fT N p.1<_;omega) ?_
    refine b0u rfl (by rw[g0v];omega) ?_
    refine b0u rfl (by rw[j0i (by omega),glen];show fT N p.2<_;omega) ?_
    refine⟨rfl,_,_,rfl,by rw[List.length_map,h0g];omega,hM2 _ ⟨by omega,nv k,nv p.1,nv p.2,?_⟩⟩
    rw[j0i (by omega),j0i (by omega)]
    have g1:=gat (fst1 (b0g N) p.1) f1
    have g2:=gat (fst1 (b0g N) p.2) f2
    rw[g1,g2,j0w,if_pos h',ejs,List.map_append]
    rfl
   ·have h':¬(valD kvs (.inl ((N.m:Int)+(k:Int)))).isSome=true:=h
    rw[ec,ht]at h'
    refine hM2 _ ⟨by omega,nv k,nv p.1,nv p.2,?_⟩
    rw[j0w,if_neg h',List.append_nil]
  ·rintro _ ⟨_,s8,s9,s10,rfl⟩
   have e:(g0q 0 (N.js.map L2.d0r)).length=N.js.length:=by rw[c0p,List.length_map]
   rw[e]
   exact hM _ ⟨s8,s9,s10,rfl⟩
  ·have e:(List.range (N.m+0)).map (nT N)=List.range N.m:=by
    refine List.ext_getElem (by simp) fun i h1 h2=>?_
    have h3:i<N.m:=by simpa using h2
    simp[nbT,h3]
   rw[e];rfl
 rintro _ ⟨s8,s9,s10,rfl⟩
 refine⟨by rw[a0k];omega,?_⟩
 refine c0q nD (fun o=>nD (nT N (fT N o))) trivial (fun o acc M ho hM=>?_) ?_
 ·have h1:=hN.os o ho
  have h2:=f1l (N:=N) (t:=o) h1
  refine b0u rfl (by rw[g0v];omega) ?_
  refine b0u rfl (by rw[j0i (by omega)];simp;show fT N o<_;omega) ?_
  rw[j0i (by omega)]
  have:((List.range (N.m+N.js.length)).map (nT N)).getD (fst1 (b0g N) o) 0=nT N (fT N o):=by
   rw[s0h (by simp;show fT N o<_;omega)];simp[fT]
  rw[this]
  exact hM
 have e:(N.os.map fun o=>nD (nT N (fT N o)))=a0e (tidN N).os:=by
  show _=a0e (N.os.map _)
  unfold a0e;rw[List.map_map];rfl
 rw[e]
 exact⟨by simp,hq⟩
theorem r0k (dn:DefN K mg "_law_wider" f0m ["_law_rows_here", "_law_places"])(B:BI mg):OkN P w K mg base 1 "_law_wider" ["_law_rows_here", "_law_places"] (spA K d1i):=by
 refine dn.aok2 (k:=0) f0v (fun j=>j==0||j==1) [.un,.un,.un] d1i rfl (fun f cdv A outer s H E hr=>have hu:=d0x hr;⟨_,(a0f (b0e (i:=2) f0v.nd rfl (by first | exact Or.inl rfl | exact Or.inr rfl) (e0f (o0x K) rfl B.list_ k0r (a0c (pv 1) a0g)))
  (a0f (g0j PassesOwn.never rfl (e0d rfl B.range_ (a0c (a0s (b0d K) rfl B.len_ c0v (a0c (pv 0) a0g)) a0g)) (a0q (i:=3) f0v.nd rfl (by first | exact Or.inl rfl | exact Or.inr rfl))
  (a0f (i0y (i:=4) ["_law_one"] [0,3] f0v.nd rfl (by first | exact Or.inl rfl | exact Or.inr rfl) rfl (Blk.of (a0i f0m) k0z) (c0d K (pv 1)) (fun _ _ _ _ nd=>(a0q (i:=0) nd rfl (by first | exact Or.inl rfl | exact Or.inr rfl))) (fun _ _ _ _=>(k0j (b0w (w0l K hr.units) (b0m r0j (c0w (b0b K) (pv 1) (pv 0) (fun _ _=>rfl)) (c0w (b0b K) (pv 1) (pv 2) (fun _ _=>rfl))) a0r (c0k _)))) (fun _ _ _ _=>(pv 0)))
  (a0n (f0f (PW.pt (r0e (b0w (h0c K) (pv 3) (pv 1) rfl) (p0e (b0w (w0l K hr.units) (pv 4) (h0r a0g) (c0k _)))))
  (a0n (f0o (h0t K PySem.F.plainAttrs_list PySem.F.slot_list_append PySem.F.type_list_append d0g (pv 2) (a0c (pv 3) a0g))))
  b0z))))
  (a0n (b0h (a0s (n0f K) rfl B.sorted_ k0h (a0c (pv 2) a0g)))))),(a0j (a0y (b0f s0s (a0a a0b a0d)) rfl)
  (a0j (e0k (pin:=(fun _=>false)) (d0z (a0a (b0f b0v (a0a a0b a0d)) a0d)) (a0h rfl)
  (a0j (g0w (b0t (b0n a0b) (a0h rfl) (b0c (a0l w0m (a0l b0j (a0l b0r a0b a0b) (a0l b0r a0b a0b)) a0t)) a0b) rfl)
  (d0m (l0n (b0c (a0l (b1c true) a0b a0b)) (b0c (a0l w0m a0b (f0k a0d))))
  (e0a (f0l a0b (a0a a0b a0d)))
  b0q)))
  (a0w (b0f n0e (a0a a0b a0d)))))⟩) ?_
 rintro ss q ⟨rows,C,s1,hs,rfl,hR,hC,hb,hq⟩
 have l24:=hR.l24
 have cl:=j0q hC hb
 rcases hs with rfl | rfl
 ·refine⟨rfl,rfl,?_⟩
  refine cutS (fun ρ=>ρ=[.ow (a0e rows),.ow (a0e C),.ow (a0e C),.un,.un]) (fun M hM=>hM _ rfl) ?_
  rintro _ rfl
  refine cutS (fun ρ=>∃F s3 s4,F.Nodup/\(∀x,x∈F↔x∈wid rows C)/\F.length<=48/\ρ=[.ow (a0e rows),.ow (a0e C),.ow (a0e F),s3,s4]) (fun M hM=>⟨⟨by omega,by rw[a0k];omega⟩,?_⟩) ?_
  ·rw[a0k,Int.toNat_natCast]
   refine k0b (fun k ρ=>∃F s3 s4,F.Nodup/\(∀x,x∈F↔x∈C∨(x<k/\∃i∈C,adj rows i x))/\F.length<=24+k/\ρ=[.ow (a0e rows),.ow (a0e C),.ow (a0e F),s3,s4]) (fun _ _ _=>trivial) ?_ ?_ ⟨C,.un,.un,hC.imp fun h=>by omega,fun x=>⟨.inl,fun h=>h.resolve_right fun z=>by omega⟩,by omega,rfl⟩
   ·rintro k _ M2 hk ⟨F,s3,s4,nd,hm,hfl,rfl⟩ hM2
    rw[Int.zero_add]
    refine cutS (fun ρ=>ρ=[.ow (a0e rows),.ow (a0e C),.ow (a0e F),nv k,.ow (a0e (C.filter fun i=>rw1 rows i &&& rw1 rows k != 0))]) (fun M3 hM3=>⟨rfl,by rw[a0k];omega,?_⟩) ?_
    ·refine g0s nD (fun i=>rw1 rows i &&& rw1 rows k != 0) nD rfl (fun i acc M4 hi hM4=>?_) (hM3 _ rfl)
     refine c1d (i:=i) (ds:=a0e rows) (d:=nD (rw1 rows i)) rfl (by rw[show rw1 rows i=rows.getD i 0 from rfl];exact e0i (hb i hi)) ?_
     refine c1d (i:=k) (ds:=a0e rows) (d:=nD (rw1 rows k)) rfl (by rw[show rw1 rows k=rows.getD k 0 from rfl];exact e0i hk) ?_
     refine f0r (b:=!(rw1 rows i &&& rw1 rows k != 0)) rfl rfl (by simp[D.depth]) ?_ ?_
     ·show eqD (.int (Builtin.bitAnd ((rw1 rows i:Nat):Int) ((rw1 rows k:Nat):Int))) (.int 0)=_
      rw[j0f]
      unfold eqD
      rw[Bool.eq_iff_iff]
      simp
     ·cases hh:(rw1 rows i &&& rw1 rows k != 0)with
      | true=>rw[hh]at hM4;exact hM4
      | false=>rw[hh]at hM4;exact hM4
    rintro _ rfl
    have mt:((C.filter fun i=>rw1 rows i &&& rw1 rows k != 0)=[])↔¬ ∃i∈C,adj rows i k:=by
     rw[List.filter_eq_nil_iff]
     unfold adj
     constructor
     ·rintro h ⟨i,hi,a⟩
      exact h i hi (by simpa using a)
     ·intro h i hi z
      exact h ⟨i,hi,by simpa using z⟩
    refine c1e (xs:=C) rfl ?_
    cases hc:C.contains k with
    | true =>
     have hc':k∈C:=List.contains_iff_mem.mp hc
     refine hM2 _ ⟨F,nv k,.ow (a0e (C.filter fun i=>rw1 rows i &&& rw1 rows k != 0)),nd,fun x=>?_,by omega,rfl⟩
     rw[hm x]
     constructor
     ·rintro(h | ⟨h1,h2⟩)
      ·exact .inl h
      ·exact .inr ⟨by omega,h2⟩
     ·rintro(h | ⟨h1,h2⟩)
      ·exact .inl h
      ·rcases Nat.lt_or_ge x k with z | z
       ·exact .inr ⟨z,h2⟩
       ·have:x=k:=by omega
        subst this;exact .inl hc'
    | false =>
     have hc':k∉C:=fun z=>by rw[List.contains_iff_mem.mpr z]at hc;cases hc
     generalize hML:(C.filter fun i=>rw1 rows i &&& rw1 rows k != 0)=ML at mt
     refine⟨by simp,f0r (b:=decide (ML=[])) rfl rfl (e0n _) ?_ ?_⟩
     ·cases ML <;> rfl
     by_cases e:ML=[]
     ·rw[decide_eq_true e]
      refine hM2 _ ⟨F,nv k,.ow (a0e ML),nd,fun x=>?_,by omega,rfl⟩
      rw[hm x]
      constructor
      ·rintro(h | ⟨h1,h2⟩)
       ·exact .inl h
       ·exact .inr ⟨by omega,h2⟩
      ·rintro(h | ⟨h1,h2⟩)
       ·exact .inl h
       ·rcases Nat.lt_or_ge x k with z | z
        ·exact .inr ⟨z,h2⟩
        ·have:x=k:=by omega
         subst this;exact absurd h2 (mt.mp e)
     ·rw[decide_eq_false e]
      have ha:∃i∈C,adj rows i k:=by
       apply Classical.byContradiction
       intro z
       exact e (mt.mpr z)
      refine⟨by rw[a0k];omega,hM2 _ ⟨F++[k],nv k,.ow (a0e ML),?_,fun x=>?_,by rw[List.length_append,List.length_singleton];omega,by rw[c0r];rfl⟩⟩
      ·refine List.nodup_append.mpr ⟨nd,List.nodup_cons.mpr ⟨(fun h=>nomatch h),List.nodup_nil⟩,fun a h1 b h2 e=>?_⟩
       rw[List.mem_singleton.mp h2]at e
       subst e
       rcases(hm a).mp h1 with z | z
       ·exact hc' z
       ·omega
      ·rw[List.mem_append,hm x,List.mem_singleton]
       constructor
       ·rintro((h | ⟨h1,h2⟩) | rfl)
        ·exact .inl h
        ·exact .inr ⟨by omega,h2⟩
        ·exact .inr ⟨by omega,ha⟩
       ·rintro(h | ⟨h1,h2⟩)
        ·exact .inl (.inl h)
        ·rcases Nat.lt_or_ge x k with z | z
         ·exact .inl (.inr ⟨z,h2⟩)
         ·exact .inr (by omega)
   ·rintro _ ⟨F,s3,s4,nd,hm,hfl,rfl⟩
    refine hM _ ⟨F,s3,s4,nd,fun x=>?_,by omega,rfl⟩
    rw[hm x,h0o]
    constructor
    ·rintro(h | ⟨h1,h2⟩)
     ·exact⟨hb x h,.inl h⟩
     ·exact⟨h1,.inr h2⟩
    ·rintro⟨h1,h2 | h2⟩
     ·exact .inl h2
     ·exact .inr ⟨h1,h2⟩
  rintro _ ⟨F,s3,s4,nd,hm,hfl,rfl⟩
  refine i0n (ns:=castL F) (by rw[f0t];rfl) (by unfold castL;rw[List.length_map];omega) fun ns' pm up=>?_
  have:=v0x pm up nd (l0y rows C) hm
  subst this
  rw[f0t]
  exact hq
 ·refine⟨rfl,rfl,?_⟩
  refine cutS (fun ρ=>ρ=[.ow (a0e rows),.vl (lstN C),.ow (a0e C),.un,.un]) (fun M hM=>hM _ rfl) ?_
  rintro _ rfl
  refine cutS (fun ρ=>∃F s3 s4,F.Nodup/\(∀x,x∈F↔x∈wid rows C)/\F.length<=48/\ρ=[.ow (a0e rows),.vl (lstN C),.ow (a0e F),s3,s4]) (fun M hM=>⟨⟨by omega,by rw[a0k];omega⟩,?_⟩) ?_
  ·rw[a0k,Int.toNat_natCast]
   refine k0b (fun k ρ=>∃F s3 s4,F.Nodup/\(∀x,x∈F↔x∈C∨(x<k/\∃i∈C,adj rows i x))/\F.length<=24+k/\ρ=[.ow (a0e rows),.vl (lstN C),.ow (a0e F),s3,s4]) (fun _ _ _=>trivial) ?_ ?_ ⟨C,.un,.un,hC.imp fun h=>by omega,fun x=>⟨.inl,fun h=>h.resolve_right fun z=>by omega⟩,by omega,rfl⟩
   ·rintro k _ M2 hk ⟨F,s3,s4,nd,hm,hfl,rfl⟩ hM2
    rw[Int.zero_add]
    refine cutS (fun ρ=>ρ=[.ow (a0e rows),.vl (lstN C),.ow (a0e F),nv k,.ow (a0e (C.filter fun i=>rw1 rows i &&& rw1 rows k != 0))]) (fun M3 hM3=>⟨by rw[a0k];omega,?_⟩) ?_
    ·refine g0s nD (fun i=>rw1 rows i &&& rw1 rows k != 0) nD trivial (fun i acc M4 hi hM4=>?_) (hM3 _ rfl)
     refine c1d (i:=i) (ds:=a0e rows) (d:=nD (rw1 rows i)) rfl (by rw[show rw1 rows i=rows.getD i 0 from rfl];exact e0i (hb i hi)) ?_
     refine c1d (i:=k) (ds:=a0e rows) (d:=nD (rw1 rows k)) rfl (by rw[show rw1 rows k=rows.getD k 0 from rfl];exact e0i hk) ?_
     refine f0r (b:=!(rw1 rows i &&& rw1 rows k != 0)) rfl rfl (by simp[D.depth]) ?_ ?_
     ·show eqD (.int (Builtin.bitAnd ((rw1 rows i:Nat):Int) ((rw1 rows k:Nat):Int))) (.int 0)=_
      rw[j0f]
      unfold eqD
      rw[Bool.eq_iff_iff]
      simp
     ·cases hh:(rw1 rows i &&& rw1 rows k != 0)with
      | true=>rw[hh]at hM4;exact hM4
      | false=>rw[hh]at hM4;exact hM4
    rintro _ rfl
    have mt:((C.filter fun i=>rw1 rows i &&& rw1 rows k != 0)=[])↔¬ ∃i∈C,adj rows i k:=by
     rw[List.filter_eq_nil_iff]
     unfold adj
     constructor
     ·rintro h ⟨i,hi,a⟩
      exact h i hi (by simpa using a)
     ·intro h i hi z
      exact h ⟨i,hi,by simpa using z⟩
    refine c1e (xs:=C) rfl ?_
    cases hc:C.contains k with
    | true =>
     have hc':k∈C:=List.contains_iff_mem.mp hc
     refine hM2 _ ⟨F,nv k,.ow (a0e (C.filter fun i=>rw1 rows i &&& rw1 rows k != 0)),nd,fun x=>?_,by omega,rfl⟩
     rw[hm x]
     constructor
     ·rintro(h | ⟨h1,h2⟩)
      ·exact .inl h
      ·exact .inr ⟨by omega,h2⟩
     ·rintro(h | ⟨h1,h2⟩)
      ·exact .inl h
      ·rcases Nat.lt_or_ge x k with z | z
       ·exact .inr ⟨z,h2⟩
       ·have:x=k:=by omega
        subst this;exact .inl hc'
    | false =>
     have hc':k∉C:=fun z=>by rw[List.contains_iff_mem.mpr z]at hc;cases hc
     generalize hML:(C.filter fun i=>rw1 rows i &&& rw1 rows k != 0)=ML at mt
     refine⟨by simp,f0r (b:=decide (ML=[])) rfl rfl (e0n _) ?_ ?_⟩
     ·cases ML <;> rfl
     by_cases e:ML=[]
     ·rw[decide_eq_true e]
      refine hM2 _ ⟨F,nv k,.ow (a0e ML),nd,fun x=>?_,by omega,rfl⟩
      rw[hm x]
      constructor
      ·rintro(h | ⟨h1,h2⟩)
       ·exact .inl h
       ·exact .inr ⟨by omega,h2⟩
      ·rintro(h | ⟨h1,h2⟩)
       ·exact .inl h
       ·rcases Nat.lt_or_ge x k with z | z
        ·exact .inr ⟨z,h2⟩
        ·have:x=k:=by omega
         subst this;exact absurd h2 (mt.mp e)
     ·rw[decide_eq_false e]
      have ha:∃i∈C,adj rows i k:=by
       apply Classical.byContradiction
       intro z
       exact e (mt.mpr z)
      refine⟨by rw[a0k];omega,hM2 _ ⟨F++[k],nv k,.ow (a0e ML),?_,fun x=>?_,by rw[List.length_append,List.length_singleton];omega,by rw[c0r];rfl⟩⟩
      ·refine List.nodup_append.mpr ⟨nd,List.nodup_cons.mpr ⟨(fun h=>nomatch h),List.nodup_nil⟩,fun a h1 b h2 e=>?_⟩
       rw[List.mem_singleton.mp h2]at e
       subst e
       rcases(hm a).mp h1 with z | z
       ·exact hc' z
       ·omega
      ·rw[List.mem_append,hm x,List.mem_singleton]
       constructor
       ·rintro((h | ⟨h1,h2⟩) | rfl)
        ·exact .inl h
        ·exact .inr ⟨by omega,h2⟩
        ·exact .inr ⟨by omega,ha⟩
       ·rintro(h | ⟨h1,h2⟩)
        ·exact .inl (.inl h)
        ·rcases Nat.lt_or_ge x k with z | z
         ·exact .inl (.inr ⟨z,h2⟩)
         ·exact .inr (by omega)
   ·rintro _ ⟨F,s3,s4,nd,hm,hfl,rfl⟩
    refine hM _ ⟨F,s3,s4,nd,fun x=>?_,by omega,rfl⟩
    rw[hm x,h0o]
    constructor
    ·rintro(h | ⟨h1,h2⟩)
     ·exact⟨hb x h,.inl h⟩
     ·exact⟨h1,.inr h2⟩
    ·rintro⟨h1,h2 | h2⟩
     ·exact .inl h2
     ·exact .inr ⟨h1,h2⟩
  rintro _ ⟨F,s3,s4,nd,hm,hfl,rfl⟩
  refine i0n (ns:=castL F) (by rw[f0t];rfl) (by unfold castL;rw[List.length_map];omega) fun ns' pm up=>?_
  have:=v0x pm up nd (l0y rows C) hm
  subst this
  rw[f0t]
  exact hq
theorem n0k (dn:DefN K mg "_law_classes" f0b ["_law_rows_here"])(B:BI mg)(g_law_wider:OkN P w K mg base 1 "_law_wider" ["_law_rows_here", "_law_places"] (spA K d1i)):OkN P w K mg base 2 "_law_classes" ["_law_rows_here"] (spA K n0h):=by
 refine dn.aok2 (k:=1) c0i (fun j=>j==0) [.un,.un,.un,.un] n0h rfl (fun f cdv A outer s H E hr=>have hu:=d0x hr;⟨_,(a0f (b0e (i:=1) c0i.nd rfl (by first | exact Or.inl rfl | exact Or.inr rfl) (h0r a0g))
  (a0f (g0j PassesOwn.never rfl (e0d rfl B.range_ (a0c (a0s (b0d K) rfl B.len_ c0v (a0c (pv 0) a0g)) a0g)) (a0q (i:=2) c0i.nd rfl (by first | exact Or.inl rfl | exact Or.inr rfl))
  (a0f (b0e (i:=3) c0i.nd rfl (by first | exact Or.inl rfl | exact Or.inr rfl) (h0r (a0c (pv 2) a0g)))
  (a0f (b0e (i:=4) c0i.nd rfl (by first | exact Or.inl rfl | exact Or.inr rfl) (b0x g_law_wider (hr.mono (by decide)) (a0c (pv 0) (a0c (pv 3) a0g))))
  (a0f (e1l PassesOwn.never (b0w r0i (a0s (b0d K) rfl B.len_ c0v (a0c (pv 4) a0g)) (a0s (b0d K) rfl B.len_ c0v (a0c (pv 3) a0g)) (c0k _))
  (a0f (b0e (i:=3) c0i.nd rfl (by first | exact Or.inl rfl | exact Or.inr rfl) (pv 4))
  (a0n (b0e (i:=4) c0i.nd rfl (by first | exact Or.inl rfl | exact Or.inr rfl) (b0x g_law_wider (hr.mono (by decide)) (a0c (pv 0) (a0c (pv 3) a0g)))))))
  (a0n (f0f (b0w (r0g K hr.units) (pv 3) (pv 1) rfl)
  (a0n (f0o (h0t K PySem.F.plainAttrs_list PySem.F.slot_list_append PySem.F.type_list_append d0g (pv 1) (a0c (pv 3) a0g))))
  b0z))))))
  (a0n (b0h (pv 1))))),(a0j (a0y (f0k a0d) rfl)
  (a0j (e0k (pin:=(fun _=>false)) (d0z (a0a (b0f b0v (a0a a0b a0d)) a0d)) (a0h rfl)
  (a0j (a0y (f0k (a0a a0b a0d)) rfl)
  (a0j (a0y (a0o (a0a a0b (a0a a0b a0d))) rfl)
  (a0j (z0w (b0c (a0l e0m (b0f b0v (a0a a0b a0d)) (b0f b0v (a0a a0b a0d))))
  (a0j (a0y a0b rfl)
  (a0y (a0o (a0a a0b (a0a a0b a0d))) rfl)))
  (d0m (b0c (a0l (b1b true) a0b a0b))
  (e0a (f0l a0b (a0a a0b a0d)))
  b0q)))))
  (a0w a0b)))⟩) ?_
 rintro ss q ⟨rows,rfl,hR,hq⟩
 have l24:=hR.l24
 refine⟨rfl,rfl,?_⟩
 refine cutS (fun ρ=>ρ=[.ow (a0e rows),.ow [],.un,.un,.un]) (fun M hM=>⟨by simp,hM _ rfl⟩) ?_
 rintro _ rfl
 refine cutS (fun ρ=>∃s2 s3 s4,ρ=[.ow (a0e rows),.ow ((a0u rows rows.length).map lstN),s2,s3,s4]) (fun M hM=>⟨⟨by omega,by rw[a0k];omega⟩,?_⟩) ?_
 ·rw[a0k,Int.toNat_natCast]
  refine k0b (fun p ρ=>∃s2 s3 s4,ρ=[.ow (a0e rows),.ow ((a0u rows p).map lstN),s2,s3,s4]) (fun _ _ _=>trivial) ?_ (fun ρ ⟨s2,s3,s4,e⟩=>hM ρ ⟨s2,s3,s4,e⟩) ⟨.un,.un,.un,rfl⟩
  rintro p _ M2 hp ⟨s2,s3,s4,rfl⟩ hM2
  rw[Int.zero_add]
  have cln:(a0u rows p).length<=p:=by
   unfold a0u
   rw[List.length_map]
   refine Nat.le_trans (List.length_filter_le _ _) ?_
   rw[List.length_range];exact Nat.le_refl _
  refine cutS (fun ρ=>ρ=[.ow (a0e rows),.ow ((a0u rows p).map lstN),nv p,.ow (a0e [p]),s4]) (fun M3 hM3=>⟨by simp,hM3 _ rfl⟩) ?_
  rintro _ rfl
  refine cutS (fun ρ=>ρ=[.ow (a0e rows),.ow ((a0u rows p).map lstN),nv p,.ow (a0e [p]),.ow (a0e (wid rows [p]))]) (fun M3 hM3=>⟨rfl,rows,[p],_,.inl rfl,rfl,hR,List.pairwise_singleton _ _,fun i hi=>by rw[List.mem_singleton.mp hi];exact hp,hM3 _ rfl⟩) ?_
  rintro _ rfl
  refine cutS (fun ρ=>∃s3 s4,(s3 = .ow (a0e (comp rows p))∨s3 = .vl (lstN (comp rows p)))/\ρ=[.ow (a0e rows),.ow ((a0u rows p).map lstN),nv p,s3,s4]) (fun M3 hM3=>h1p (fun ρ=>∃C s3,(s3 = .ow (a0e C)∨s3 = .vl (lstN C))/\C.Pairwise (· < ·)/\p∈C/\(∀j∈C,Conn rows p j)/\ρ=[.ow (a0e rows),.ow ((a0u rows p).map lstN),nv p,s3,.ow (a0e (wid rows C))]) (fun ρ=>match ρ with | [_,_,_,.ow C,_]=>100 - C.length | [_,_,_,.vl (.lst C),_]=>100 - C.length | _=>0) ?_ _ ⟨[p],.ow (a0e [p]),.inl rfl,List.pairwise_singleton _ _,by simp,fun j hj=>by rw[List.mem_singleton.mp hj];exact .refl hp,rfl⟩) ?_
  ·rintro _ N ⟨C,s3,hs,up,hpC,hcon,rfl⟩ hN
   have hb:∀i∈C,i<rows.length:=fun i hi=>(hcon i hi).lt.2
   have wl:=h1n rows C
   have cl:=j0q up hb
   have go:decide (((a0e C).length:Int)<((a0e (wid rows C)).length:Int))=decide (C.length<(wid rows C).length):=by rw[a0k,a0k,decide_eq_decide];omega
   have no:¬C.length<(wid rows C).length->C=comp rows p:=fun h=>h1o up hpC hcon (by omega)
   have hl2:(a0e (wid rows C)).length=(wid rows C).length:=a0k _
   have hl1:(a0e C).length=C.length:=a0k _
   rcases hs with rfl | rfl
   ·show if decide (((a0e C).length:Int)<((a0e (wid rows C)).length:Int))=true then _ else _
    rw[go]
    by_cases h:C.length<(wid rows C).length
    ·rw[if_pos (decide_eq_true h)]
     refine cutS (fun ρ=>∃s4,ρ=[.ow (a0e rows),.ow ((a0u rows p).map lstN),nv p,.vl (lstN (wid rows C)),s4]) (fun M4 hM4=>hM4 _ ⟨_,rfl⟩) ?_
     rintro _ ⟨s4,rfl⟩
     refine⟨rfl,rows,wid rows C,_,.inr rfl,rfl,hR,l0y rows C,fun i hi=>(h0o.mp hi).1,hN _ ⟨wid rows C,.vl (lstN (wid rows C)),.inr rfl,l0y rows C,t0f hb hpC,fun j hj=>y0z hcon hj,rfl⟩ ?_⟩
     show 100 - (a0e (wid rows C)).length<100 - (a0e C).length
     omega
    ·rw[if_neg (by simpa using h)]
     have e:=no h
     refine hM3 _ ⟨.ow (a0e C),.ow (a0e (wid rows C)),.inl (by rw[e]),rfl⟩
   ·show if decide (((a0e C).length:Int)<((a0e (wid rows C)).length:Int))=true then _ else _
    rw[go]
    by_cases h:C.length<(wid rows C).length
    ·rw[if_pos (decide_eq_true h)]
     refine cutS (fun ρ=>∃s4,ρ=[.ow (a0e rows),.ow ((a0u rows p).map lstN),nv p,.vl (lstN (wid rows C)),s4]) (fun M4 hM4=>hM4 _ ⟨_,rfl⟩) ?_
     rintro _ ⟨s4,rfl⟩
     refine⟨rfl,rows,wid rows C,_,.inr rfl,rfl,hR,l0y rows C,fun i hi=>(h0o.mp hi).1,hN _ ⟨wid rows C,.vl (lstN (wid rows C)),.inr rfl,l0y rows C,t0f hb hpC,fun j hj=>y0z hcon hj,rfl⟩ ?_⟩
     show 100 - (a0e (wid rows C)).length<100 - (a0e C).length
     omega
    ·rw[if_neg (by simpa using h)]
     have e:=no h
     refine hM3 _ ⟨.vl (lstN C),.ow (a0e (wid rows C)),.inr (by rw[e]),rfl⟩
  rintro _ ⟨s3,s4,hs,rfl⟩
  have e2:(((a0u rows p).map lstN).any fun e=>eqD e (lstN (comp rows p)))=decide (comp rows p∈a0u rows p):=by
   rw[List.any_map,Bool.eq_iff_iff,List.any_eq_true,decide_eq_true_eq]
   constructor
   ·rintro⟨C',h1,h2⟩
    have h3:eqD (lstN C') (lstN (comp rows p))=true:=h2
    rw[q0c]at h3
    rw[<- of_decide_eq_true h3];exact h1
   ·intro h
    exact⟨_,h,i0o _⟩
  have dep:∀e∈(a0u rows p).map lstN,e.depth<=60:=fun e he=>by
   obtain⟨C',_,rfl⟩:=List.mem_map.mp he
   exact e0n _
  obtain⟨cs1,cs2⟩:=y0o hp
  rcases hs with rfl | rfl
  ·refine p0y (d:=lstN (comp rows p)) rfl rfl dep e2 ?_
   by_cases h:comp rows p∈a0u rows p
   ·rw[decide_eq_true h]
    exact hM2 _ ⟨_,_,_,by rw[cs1 h]⟩
   ·rw[decide_eq_false h]
    refine⟨by rw[List.length_map];omega,hM2 _ ⟨nv p,.vl (lstN (comp rows p)),s4,?_⟩⟩
    rw[cs2 h,List.map_append];rfl
  ·refine p0y (d:=lstN (comp rows p)) rfl rfl dep e2 ?_
   by_cases h:comp rows p∈a0u rows p
   ·rw[decide_eq_true h]
    exact hM2 _ ⟨_,_,_,by rw[cs1 h]⟩
   ·rw[decide_eq_false h]
    refine⟨by rw[List.length_map];omega,hM2 _ ⟨nv p,.vl (lstN (comp rows p)),s4,?_⟩⟩
    rw[cs2 h,List.map_append];rfl
 rintro _ ⟨s2,s3,s4,rfl⟩
 exact hq
end
def v0j:ASp:=fun ss q=>∃(n:Nat) (rows:List Nat),ss=[.tp n,.ow (a0e rows)]/\n<=10000000/\d0i rows/\∀(n':Nat) (ps:List Nat) (L:List (List Nat)),n'<=n+100->(∀i∈ps,i<rows.length)->ps.length<=24->(subR rows ps).Nodup->q0s rows L ->
 q (.f [.tup [.str "unlike",lstN ps],.tup [.str "hang",.lst ((a0u rows rows.length).map lstN)],.tup [.str "hang",.lst (L.map lstN)],.tup [.str "hang",.lst ((ps.map fun p=>[p]).map lstN)]]) [.tp n',.ow (a0e rows)]
theorem b1y (xs:List Nat)(x i:Nat):(xs++[x]).getD i 0=if i<xs.length then xs.getD i 0 else if i=xs.length then x else 0:=by
 simp only[List.getD_eq_getElem?_getD]
 by_cases h:i<xs.length
 ·rw[List.getElem?_append_left h,if_pos h]
 ·rw[if_neg h,List.getElem?_append_right (by omega)]
  by_cases e:i=xs.length
  ·subst e;simp
  ·rw[if_neg e,List.getElem?_eq_none (by simp;omega)];rfl
theorem c1l {B:Nat}:∀(js:List (Nat×Nat)) {ws:List Nat},(∀i,ws.getD i 0<2^B)->∀i,(js.foldl a0m ws).getD i 0<2^B
 | [],ws,h=>h
 | p::r,ws,h=>by
  refine c1l r fun i=>?_
  unfold a0m
  rw[b1y]
  split
  ·exact h i
  ·split
   ·exact Nat.xor_lt_two_pow (h _) (h _)
   ·exact Nat.two_pow_pos _
theorem a1t {m i:Nat}:(a0z m).getD i 0=if i<m then 1 <<< i else 0:=by
 unfold a0z
 by_cases h:i<m
 ·rw[List.getD_eq_getElem?_getD,List.getElem?_map,List.getElem?_range h,if_pos h];rfl
 ·rw[List.getD_eq_getElem?_getD,List.getElem?_eq_none (by rw[List.length_map,List.length_range];omega),if_neg h];rfl
theorem g1n (N:Net)(i:Nat):(b0g N).getD i 0<2^N.m:=by
 refine c1l (B:=N.m) N.js (fun i=>?_) i
 rw[a1t]
 split
 ·rw[Nat.shiftLeft_eq,Nat.one_mul];exact(Nat.pow_lt_pow_iff_right (by decide)).mpr (by omega)
 ·exact Nat.two_pow_pos _
def mdN (N:Net):List Nat:=N.os.map fun o=>(b0g N).getD o 0
theorem m1c {N:Net}{i:Nat}(h:i<(mdN N).length):∃o∈N.os,rw1 (mdN N) i=(b0g N).getD o 0:=by
 have h':i<N.os.length:=by unfold mdN at h;rwa [List.length_map]at h
 refine⟨N.os[i],List.getElem_mem h',?_⟩
 unfold rw1 mdN
 rw[List.getD_eq_getElem?_getD,List.getElem?_map,List.getElem?_eq_getElem h']
 rfl
theorem i1z {N:Net}(h:n0i N):d1q N.m N.js (mdN N):=by
 refine⟨by have:=t0z h.js;rwa [d0f]at this,fun i hi=>?_,fun i hi=>?_⟩
 ·obtain⟨o,ho,e⟩:=m1c hi
  exact⟨o,h.os o ho,by rw[e];rfl⟩
 ·obtain⟨o,ho,e⟩:=m1c hi
  rw[e];exact g1n N o
theorem o1e {N:Net}(h:n0i N):d0i (mdN N):=by
 refine⟨by unfold mdN;rw[List.length_map];exact h.o1,by unfold mdN;rw[List.length_map];exact h.o24,fun r hr=>?_⟩
 unfold mdN at hr
 obtain⟨o,ho,rfl⟩:=List.mem_map.mp hr
 have h1:=l1h h (h.os o ho)
 have h2:=g1n N o
 have h3:2^N.m<=2^12:=Nat.pow_le_pow_right (by decide) h.m12
 have h4:(2:Nat)^12=4096:=by decide
 omega
section
variable {P:Program}{w:World}{K:PySem.W.Frag}{mg:Str->Option Value}{base:Heap}
theorem p0j (dn:DefN K mg "_law_papers" d0b ["_law_tape_here", "_law_rows_here"])(B:BI mg)(g_law_classes:OkN P w K mg base 2 "_law_classes" ["_law_rows_here"] (spA K n0h))(g_law_draw:OkN P w K mg base 1 "_law_draw" ["_law_tape_here", "_law_many"] (spA K d1n)):OkN P w K mg base 3 "_law_papers" ["_law_tape_here", "_law_rows_here"] (spA K v0j):=by
 refine dn.aok2 (k:=2) c0n (fun j=>j==0||j==1) [.un,.un,.un,.un,.un,.un] v0j rfl (fun f cdv A outer s H E hr=>have hu:=d0x hr;⟨_,(a0f (b0e (i:=2) c0n.nd rfl (by first | exact Or.inl rfl | exact Or.inr rfl) (h0r a0g))
  (a0f (g0j PassesOwn.never rfl (e0d rfl B.range_ (a0c (a0s (b0d K) rfl B.len_ c0v (a0c (pv 1) a0g)) a0g)) (a0q (i:=3) c0n.nd rfl (by first | exact Or.inl rfl | exact Or.inr rfl))
  (a0f (i0y (i:=4) ["_law_one"] [1] c0n.nd rfl (by first | exact Or.inl rfl | exact Or.inr rfl) rfl (Blk.of (a0i d0b) f0g) (c0d K (pv 2)) (fun _ _ _ _ nd=>(a0q (i:=0) nd rfl (by first | exact Or.inl rfl | exact Or.inr rfl))) (fun _ _ _ _=>d0e) (fun _ _ _ _=>(c0w (b0b K) (pv 1) (pv 0) (fun _ _=>rfl))))
  (a0f (b0e (i:=5) c0n.nd rfl (by first | exact Or.inl rfl | exact Or.inr rfl) (c0w (b0b K) (pv 1) (pv 3) (fun _ _=>rfl)))
  (a0n (f0f (PW.pt (r0e (b0w (h0c K) (pv 5) (pv 4) rfl) (r0e (b0w (w0l K hr.units) (b0m r0j (pv 5) (b0m h0v (pv 5) a0r)) a0r (c0k _)) (p0e (b0w r0i (b0x g_law_draw (hr.mono (by decide)) (a0c (pv 0) (a0c a0r a0g))) a0r (c0k _))))))
  (a0n (f0o (h0t K PySem.F.plainAttrs_list PySem.F.slot_list_append PySem.F.type_list_append d0g (pv 2) (a0c (pv 3) a0g))))
  b0z)))))
  (a0f (b0e (i:=6) c0n.nd rfl (by first | exact Or.inl rfl | exact Or.inr rfl) (b0x g_law_classes (hr.mono (by decide)) (a0c (pv 1) a0g)))
  (a0f (i0y (i:=7) ["_law_one"] [0] c0n.nd rfl (by first | exact Or.inl rfl | exact Or.inr rfl) rfl (Blk.of (a0i d0b) f0g) (c0d K (pv 6)) (fun _ _ _ _ nd=>(a0q (i:=0) nd rfl (by first | exact Or.inl rfl | exact Or.inr rfl))) (fun _ _ _ _=>(k0j (b0w r0i (b0x g_law_draw (hr.mono (by decide)) (a0c (pv 1) (a0c a0r a0g))) a0r (c0k _)))) (fun _ _ _ _=>(pv 0)))
  (a0n (b0h (h0r (a0c (g0k (a0c e0e (a0c (pv 2) a0g))) (a0c (g0k (a0c e0e (a0c (pv 6) a0g))) (a0c (g0k (a0c e0e (a0c (pv 7) a0g))) (a0c (g0k (a0c e0e (a0c (e0l ["_law_place"] [] rfl (Blk.of (a0i d0b) f0g) (c0d K (pv 2)) (fun _ _ _ _ nd=>(a0q (i:=0) nd rfl (by first | exact Or.inl rfl | exact Or.inr rfl))) (fun _ _ _ _=>d0e) (fun _ _ _ _=>(h0r (a0c (pv 0) a0g)))) a0g))) a0g))))))))))),(a0j (a0y (f0k a0d) rfl)
  (a0j (e0k (pin:=(fun _=>false)) (d0z (a0a (b0f b0v (a0a a0b a0d)) a0d)) (a0h rfl)
  (a0j (g0w (b0t (b0n a0b) (a0h rfl) c0h (a0l b0r a0b a0b)) rfl)
  (a0j (a0y (a0l b0r a0b a0b) rfl)
  (d0m (l0n (b0c (a0l (b1c true) a0b a0b)) (l0n (b0c (a0l w0m (a0l b0j a0b (a0l b0j a0b a0t)) a0t)) (b0c (a0l e0m (a0o (a0a a0b (a0a a0t a0d))) a0t))))
  (e0a (f0l a0b (a0a a0b a0d)))
  b0q))))
  (a0j (a0y (a0o (a0a a0b a0d)) rfl)
  (a0j (g0w (b0t (b0n a0b) (a0h rfl) (b0c (a0l e0m (a0o (a0a a0b (a0a a0t a0d))) a0t)) a0b) rfl)
  (a0w (f0k (a0a (e0j (a0a h0p (a0a a0b a0d))) (a0a (e0j (a0a h0p (a0a a0b a0d))) (a0a (e0j (a0a h0p (a0a a0b a0d))) (a0a (e0j (a0a h0p (a0a (b0t (b0n a0b) (a0h rfl) c0h (f0k (a0a a0b a0d))) a0d))) a0d))))))))))⟩) ?_
 rintro ss q ⟨n,rows,rfl,hn,hR,hq⟩
 have l24:=hR.l24
 refine⟨rfl,rfl,?_⟩
 refine cutS (fun ρ=>ρ=[.tp n,.ow (a0e rows),.ow [],.un,.un,.un,.un,.un]) (fun M hM=>⟨by simp,hM _ rfl⟩) ?_
 rintro _ rfl
 refine cutS (fun ρ=>∃(ps:List Nat) (n':Nat) (s3 s4 s5:Sv),(∀i∈ps,i<rows.length)/\(subR rows ps).Nodup/\ps.length<=24/\n'<=n+24/\ρ=[.tp n',.ow (a0e rows),.ow (a0e ps),s3,s4,s5,.un,.un]) (fun M hM=>⟨⟨by omega,by rw[a0k];omega⟩,?_⟩) ?_
 ·rw[a0k,Int.toNat_natCast]
  refine k0b (fun k ρ=>∃(ps:List Nat) (n':Nat) (s3 s4 s5:Sv),(∀i∈ps,i<k)/\(subR rows ps).Nodup/\ps.length<=k/\n'<=n+k/\ρ=[.tp n',.ow (a0e rows),.ow (a0e ps),s3,s4,s5,.un,.un]) (fun _ _ _=>trivial) ?_ ?_ ⟨[],n,.un,.un,.un,(fun _ h=>nomatch h),List.nodup_nil,Nat.le_refl _,by omega,rfl⟩
  ·rintro k _ M2 hk ⟨ps,n',s3,s4,s5,h1,h2,h3,h4,rfl⟩ hM2
   rw[Int.zero_add]
   have e:a0e (subR rows ps)=ps.map fun p=>nD (rw1 rows p):=by unfold a0e subR;rw[List.map_map];rfl
   refine cutS (fun ρ=>ρ=[.tp n',.ow (a0e rows),.ow (a0e ps),nv k,.ow (a0e (subR rows ps)),s5,.un,.un]) (fun M3 hM3=>⟨rfl,by rw[a0k];omega,?_⟩) ?_
   ·refine c0q nD (fun p=>nD (rw1 rows p)) rfl (fun p acc M4 hp hM4=>?_) (by rw[<- e];exact hM3 _ rfl)
    exact b0u rfl (by have:=h1 p hp;omega) hM4
   rintro _ rfl
   refine cutS (fun ρ=>ρ=[.tp n',.ow (a0e rows),.ow (a0e ps),nv k,.ow (a0e (subR rows ps)),nv (rw1 rows k),.un,.un]) (fun M3 hM3=>b0u rfl hk (hM3 _ rfl)) ?_
   rintro _ rfl
   have no:∀n2,n2<=n'+1->M2 [.tp n2,.ow (a0e rows),.ow (a0e ps),nv k,.ow (a0e (subR rows ps)),nv (rw1 rows k),.un,.un]:=fun n2 h=>hM2 _ ⟨ps,n2,_,_,_,fun i hi=>by have:=h1 i hi;omega,h2,by omega,by omega,rfl⟩
   refine c1e (xs:=subR rows ps) rfl ?_
   cases hc:(subR rows ps).contains (rw1 rows k)with
   | true=>exact no n' (by omega)
   | false =>
    refine f0r rfl rfl (by simp[D.depth]) rfl (ite2 (fun _=>?_) fun _=>no n' (by omega))
    refine⟨rfl,n',3,rfl,by omega,Dv.small (by decide) (by decide),fun d hd=>?_⟩
    refine ite2 (fun _=>⟨by rw[a0k];omega,hM2 _ ⟨ps++[k],n'+1,nv k,.ow (a0e (subR rows ps)),nv (rw1 rows k),fun i hi=>?_,?_,by rw[List.length_append,List.length_singleton];omega,by omega,by rw[c0r];rfl⟩⟩) fun _=>no (n'+1) (by omega)
    ·rcases List.mem_append.mp hi with h | h
     ·have:=h1 i h;omega
     ·rw[List.mem_singleton.mp h];omega
    ·unfold subR at h2 hc ⊢
     rw[List.map_append]
     refine List.nodup_append.mpr ⟨h2,List.nodup_cons.mpr ⟨(fun h=>nomatch h),List.nodup_nil⟩,fun a g1 b g2 e=>?_⟩
     rw[List.mem_singleton.mp g2]at e
     subst e
     rw[List.contains_iff_mem.mpr g1]at hc
     cases hc
  ·rintro _ ⟨ps,n',s3,s4,s5,h1,h2,h3,h4,rfl⟩
   exact hM _ ⟨ps,n',s3,s4,s5,h1,h2,by omega,by omega,rfl⟩
 rintro _ ⟨ps,n',s3,s4,s5,h1,h2,h3,h4,rfl⟩
 have hcc:=n0a hR
 refine cutS (fun ρ=>ρ=[.tp n',.ow (a0e rows),.ow (a0e ps),s3,s4,s5,.ow ((a0u rows rows.length).map lstN),.un]) (fun M hM=>⟨rfl,rows,rfl,hR,hM _ rfl⟩) ?_
 rintro _ rfl
 refine cutS (fun ρ=>∃L n2,q0s rows L/\n2<=n'+24/\ρ=[.tp n2,.ow (a0e rows),.ow (a0e ps),s3,s4,s5,.ow ((a0u rows rows.length).map lstN),.ow (L.map lstN)]) (fun M hM=>⟨rfl,by rw[List.length_map];have:=hcc.1;omega,?_⟩) ?_
 ·refine f0s (fun k acc ρ=>k<=(a0u rows rows.length).length/\∃L n2,acc=L.map lstN/\L.length<=k/\(∀C∈L,C∈a0u rows rows.length)/\n2<=n'+k/\ρ=[.tp n2,.ow (a0e rows),.ow (a0e ps),s3,s4,s5,.ow ((a0u rows rows.length).map lstN),.un]) (by rintro k acc _ _ ⟨_,L,n2,_,_,_,_,rfl⟩;rfl) ?_ ?_ _ ⟨Nat.zero_le _,[],n',rfl,Nat.le_refl _,(fun _ h=>nomatch h),by omega,rfl⟩
  ·rintro k d acc _ M3 hk ⟨_,L,n2,rfl,g1,g2,g3,rfl⟩ hM3
   rw[List.getElem?_map]at hk
   obtain⟨C,eC,rfl⟩:=Option.map_eq_some_iff.mp hk
   have lt:=(List.getElem?_eq_some_iff.mp eC).1
   have:=hcc.1
   refine⟨rfl,n2,3,rfl,by omega,Dv.small (by decide) (by decide),fun d hd=>?_⟩
   refine ite2 (fun _=>hM3 _ _ ⟨by omega,L++[C],n2+1,by rw[List.map_append];rfl,by rw[List.length_append,List.length_singleton];omega,fun C' hC'=>?_,by omega,rfl⟩) fun _=>hM3 _ _ ⟨by omega,L,n2+1,rfl,by omega,g2,by omega,rfl⟩
   rcases List.mem_append.mp hC' with h | h
   ·exact g2 C' h
   ·rw[List.mem_singleton.mp h];exact List.mem_of_getElem? eC
  ·rintro acc _ ⟨_,L,n2,rfl,g1,g2,g3,rfl⟩
   rw[List.length_map]at g1 g3
   have:=hcc.1
   exact hM _ ⟨L,n2,⟨by omega,fun C hC=>hcc.2 C (g2 C hC)⟩,by omega,rfl⟩
 rintro _ ⟨L,n2,hL,hn2,rfl⟩
 have fin:((List.map (fun p=>[p]) ps).map lstN)=ps.map fun p=>lstN [p]:=by rw[List.map_map];rfl
 refine⟨by simp,by simp,by simp,by rw[a0k];omega,?_⟩
 refine c0q nD (fun p=>lstN [p]) trivial (fun p acc M hp hM=>⟨by simp,hM⟩) ?_
 rw[<- fin]
 exact⟨by simp,by simp,hq n2 ps L (by omega) h1 h3 h2 hL⟩
theorem l1x (dn:DefN K mg "law" a1e ["_law_script"])(B:BI mg)(g_law_tape:OkN P w K mg base 1 "_law_tape" ["_law_script"] (spA K k1e))(g_law_net:OkN P w K mg base 2 "_law_net" ["_law_tape_here", "_law_most", "_law_joins_most"] (spA K v0k))(g_law_rows:OkN P w K mg base 1 "_law_rows" ["_law_net_here"] (spA K k0u))(g_bound:OkN P w K mg base 4 "bound" ["wish"] (spA K d1o))(g_law_papers:OkN P w K mg base 3 "_law_papers" ["_law_tape_here", "_law_rows_here"] (spA K v0j))(g_law_draw:OkN P w K mg base 1 "_law_draw" ["_law_tape_here", "_law_many"] (spA K d1n))(g_tidied:OkN P w K mg base 4 "tidied" ["net"] (spA K STid))(g_bound_shown:OkN P w K mg base 5 "bound_shown" ["wish", "number", "paper"] (spA K d1j)):OkN P w K mg base 6 "law" ["_law_script"] (spA K SLaw):=by
 refine dn.aok2 (k:=5) i0t (fun j=>j==0) [.un,.un,.un,.un,.un,.un,.un,.un] SLaw rfl (fun f cdv A outer s H E hr=>have hu:=d0x hr;⟨_,(a0f (b0e (i:=1) i0t.nd rfl (by first | exact Or.inl rfl | exact Or.inr rfl) (b0x g_law_tape (hr.mono (by decide)) (a0c (pv 0) a0g)))
  (a0f (b0e (i:=2) i0t.nd rfl (by first | exact Or.inl rfl | exact Or.inr rfl) (b0x g_law_net (hr.mono (by decide)) (a0c (pv 1) (a0c a0r (a0c a0r a0g)))))
  (a0f (f0f (b0w (k0x K hr.units) (b0x g_law_draw (hr.mono (by decide)) (a0c (pv 1) (a0c a0r a0g))) a0r (c0k _))
  (a0n (b0e (i:=2) i0t.nd rfl (by first | exact Or.inl rfl | exact Or.inr rfl) (b0x g_tidied (hr.mono (by decide)) (a0c (pv 2) a0g))))
  b0z)
  (a0f (b0e (i:=3) i0t.nd rfl (by first | exact Or.inl rfl | exact Or.inr rfl) (b0x g_law_rows (hr.mono (by decide)) (a0c (pv 2) a0g)))
  (a0f (i0y (i:=4) ["_law_out"] [3] i0t.nd rfl (by first | exact Or.inl rfl | exact Or.inr rfl) rfl (Blk.of (a0i a1e) g1u) (c0d K (c0w (b0b K) (pv 2) a0r (fun _ _=>rfl))) (fun _ _ _ _ nd=>(a0q (i:=0) nd rfl (by first | exact Or.inl rfl | exact Or.inr rfl))) (fun _ _ _ _=>d0e) (fun _ _ _ _=>(c0w (b0b K) (pv 1) (pv 0) (fun _ _=>rfl))))
  (a0f (b0e (i:=5) i0t.nd rfl (by first | exact Or.inl rfl | exact Or.inr rfl) (g0k (a0c (c0w (b0b K) (pv 2) a0r (fun _ _=>rfl)) (a0c (e0f (f0u K) rfl B.tuple_ i0p (a0c (pv 4) a0g)) a0g))))
  (a0f (m0h (b0x g_bound (hr.mono (by decide)) (a0c (pv 5) a0g)) (d0k K (n:=2) rfl (a0v (a0q (i:=6) i0t.nd rfl (by first | exact Or.inl rfl | exact Or.inr rfl)) (a0v (a0q (i:=7) i0t.nd rfl (by first | exact Or.inl rfl | exact Or.inr rfl)) d0j))))
  (a0f (f0f (b0w r0i (pv 6) (a0s (b0d K) rfl B.len_ c0v (a0c (c0w (b0b K) (pv 2) a0r (fun _ _=>rfl)) a0g)) (c0k _))
  (a0n (b0h h0u))
  b0z)
  (a0f (g0j PassesOwn.never rfl (c0d K (b0x g_law_papers (hr.mono (by decide)) (a0c (pv 1) (a0c (pv 4) a0g)))) (a0q (i:=8) i0t.nd rfl (by first | exact Or.inl rfl | exact Or.inr rfl))
  (a0n (f0f (b0w a1z (b0x g_bound_shown (hr.mono (by decide)) (a0c (pv 5) (a0c (b0m f0x (a0s (b0d K) rfl B.len_ c0v (a0c (c0w (b0b K) (pv 2) a0r (fun _ _=>rfl)) a0g)) a0r) (a0c (pv 8) a0g)))) h0u (c0k _))
  (a0n (b0h h0u))
  b0z)))
  (a0n (b0h (m0j (h0s g1t (b0x g_bound_shown (hr.mono (by decide)) (a0c (pv 5) (a0c (pv 6) (a0c (pv 7) a0g)))) h0u (c0k _)) (o0i (h0s g1t (b0x g_bound_shown (hr.mono (by decide)) (a0c (pv 5) (a0c (b0m f0x (pv 6) a0r) (a0c (pv 7) a0g)))) h0u (c0k _))))))))))))))),(a0j (a0y (a0o (a0a a0b a0d)) rfl)
  (a0j (a0y (a0o (a0a a0b (a0a a0t (a0a a0t a0d)))) rfl)
  (a0j (d0m (b0c (a0l k0y (a0o (a0a a0b (a0a a0t a0d))) a0t))
  (a0y (a0o (a0a a0b a0d)) rfl)
  b0q)
  (a0j (a0y (a0o (a0a a0b a0d)) rfl)
  (a0j (g0w (b0t (b0n (a0l b0r a0b a0t)) (a0h rfl) c0h (a0l b0r a0b a0b)) rfl)
  (a0j (a0y (e0j (a0a (a0l b0r a0b a0t) (a0a (b0f g0t (a0a a0b a0d)) a0d))) rfl)
  (a0j (i0x (a0o (a0a a0b a0d)) (c0l (a0p (a0h rfl) (a0p (a0h rfl) b0y (fun _ _ _=>b0i)) (fun _ _ _=>b0i))))
  (a0j (d0m (b0c (a0l e0m a0b (b0f b0v (a0a (a0l b0r a0b a0t) a0d))))
  (a0w e0r)
  b0q)
  (a0j (e0k (pin:=(fun _=>false)) (b0n (a0o (a0a a0b (a0a a0b a0d)))) (a0h rfl)
  (d0m (b0c (a0l e1w (a0o (a0a a0b (a0a (a0l b0j (b0f b0v (a0a (a0l b0r a0b a0t) a0d)) a0t) (a0a a0b a0d)))) e0r))
  (a0w e0r)
  b0q))
  (a0w (g0u (a0l b1a (a0o (a0a a0b (a0a a0b (a0a a0b a0d)))) e0r) (a0l b1a (a0o (a0a a0b (a0a (a0l b0j a0b a0t) (a0a a0b a0d)))) e0r))))))))))))⟩) ?_
 rintro ss q ⟨ns,hl,rfl,hq⟩
 refine⟨rfl,rfl,?_⟩
 refine cutS (fun ρ=>ρ=[.sc ns,.tp 0,.un,.un,.un,.un,.un,.un,.un]) (fun M hM=>⟨rfl,ns,rfl,hM _ rfl⟩) ?_
 rintro _ rfl
 refine cutS (fun ρ=>∃N n',n0i N/\n'<=1000/\ρ=[.sc ns,.tp n',.vl (netD N),.un,.un,.un,.un,.un,.un]) (fun M hM=>⟨rfl,0,12,132,rfl,by omega,by omega,by omega,by omega,fun N n' hN _ _ hn'=>hM _ ⟨N,n',hN,by omega,rfl⟩⟩) ?_
 rintro _ ⟨N0,n0,hN0,hn0,rfl⟩
 refine cutS (fun ρ=>∃N,n0i N/\ρ=[.sc ns,.tp (n0+1),.vl (netD N),.un,.un,.un,.un,.un,.un]) (fun M hM=>⟨rfl,n0,2,rfl,by omega,Dv.small (by decide) (by decide),fun d hd=>f0r rfl rfl (by simp[D.depth]) rfl (ite2 (fun _=>⟨rfl,N0,rfl,hN0,hM _ ⟨tidN N0,h1x hN0,rfl⟩⟩) fun _=>hM _ ⟨N0,hN0,rfl⟩)⟩) ?_
 rintro _ ⟨N,hN,rfl⟩
 have Rw:=r0a hN
 have jl:=hN.jl
 have m12:=hN.m12
 have o24:=hN.o24
 have hR:=o1e hN
 have hMd:=i1z hN
 have l24:=hR.l24
 refine cutS (fun ρ=>ρ=[.sc ns,.tp (n0+1),.vl (netD N),.ow (a0e (b0g N)),.un,.un,.un,.un,.un]) (fun M hM=>⟨rfl,N,rfl,Rw.ix,by omega,hM _ rfl⟩) ?_
 rintro _ rfl
 refine cutS (fun ρ=>ρ=[.sc ns,.tp (n0+1),.vl (netD N),.ow (a0e (b0g N)),.ow (a0e (mdN N)),.un,.un,.un,.un]) (fun M hM=>?_) ?_
 ·refine h0x rfl rfl ⟨by rw[a0k];omega,c0q nD (fun o=>nD ((b0g N).getD o 0)) trivial (fun o acc M' ho' hM'=>b0u rfl (by rw[j0n];exact hN.os o ho') hM') ?_⟩
  refine hM _ ?_
  unfold mdN a0e;rw[List.map_map];rfl
 rintro _ rfl
 refine cutS (fun ρ=>ρ=[.sc ns,.tp (n0+1),.vl (netD N),.ow (a0e (b0g N)),.ow (a0e (mdN N)),.vl (e0z N.m (mdN N)),.un,.un,.un]) (fun M hM=>h0x rfl rfl ⟨by simp,hM _ rfl⟩) ?_
 rintro _ rfl
 have shp:∃z pp,bndD (mdN N) = .tup [.int z,pp]/\((z=unlL (mdN N) (fpl (mdN N))/\fpl (mdN N)≠[]/\pp = .tup [.str "unlike",lstN (fpl (mdN N))])∨(z=n0z (mdN N) (a0u (mdN N) (mdN N).length)/\pp = .tup [.str "hang",.lst ((a0u (mdN N) (mdN N).length).map lstN)])):=by
  unfold bndD
  split
  ·exact⟨_,_,rfl,.inr ⟨rfl,rfl⟩⟩
  ·rename_i h
   split
   ·exact⟨_,_,rfl,.inl ⟨rfl,h,rfl⟩⟩
   ·exact⟨_,_,rfl,.inr ⟨rfl,rfl⟩⟩
 obtain⟨z,pp,eb,hz⟩:=shp
 refine cutS (fun ρ=>ρ=[.sc ns,.tp (n0+1),.vl (netD N),.ow (a0e (b0g N)),.ow (a0e (mdN N)),.vl (e0z N.m (mdN N)),.vl (.int z),.vl pp,.un]) (fun M hM=>⟨rfl,N.m,mdN N,rfl,hR,by rw[eb];exact hM _ rfl⟩) ?_
 rintro _ rfl
 have h1:∀i,i<(mdN N).length->1<=rw1 (mdN N) i:=fun i hi=>(hR.at hi).1
 have hangN:∀L,q0s (mdN N) L->h0z (mdN N) L=true->n0z (mdN N) L<=(N.js.length:Int):=fun L hL h=>j1l hMd (fun C hC=>(hL.2 C hC).2.2) h1 h
 have unlN:∀ps:List Nat,(∀p∈ps,p<(mdN N).length)->i0r (mdN N) ps=true->unlL (mdN N) ps<=(N.js.length:Int):=fun ps hp h=>k1p hMd hp h
 have fok:fpl (mdN N)≠[]->i0r (mdN N) (fpl (mdN N))=true:=m1y
 have cok:=f1s hR.l1
 have ccl:=n0a hR
 have fin:∀p∈fpl (mdN N),p<(mdN N).length:=fun p hp=>h1b hp
 have hzl:z<=(N.js.length:Int):=by
  rcases hz with⟨rfl,hf,_⟩ | ⟨rfl,_⟩
  ·exact unlN _ fin (fok hf)
  ·exact hangN _ ccl cok
 refine cutS (fun ρ=>ρ=[.sc ns,.tp (n0+1),.vl (netD N),.ow (a0e (b0g N)),.ow (a0e (mdN N)),.vl (e0z N.m (mdN N)),.vl (.int z),.vl pp,.un]) (fun M hM=>h0x rfl rfl (ite2 (fun h=>?_) fun _=>hM _ rfl)) ?_
 ·exfalso
  have:=of_decide_eq_true h
  rw[List.length_map]at this
  omega
 rintro _ rfl
 have noU:∀ps:List Nat,(∀p∈ps,p<(mdN N).length)->(i0r (mdN N) ps&&decide ((N.js.length:Int)+1<=unlL (mdN N) ps))=false:=fun ps hp=>by
  cases h:i0r (mdN N) ps with
  | false=>rfl
  | true =>
   have:=unlN ps hp h
   rw[Bool.true_and]
   exact decide_eq_false (by omega)
 have noH:∀L,q0s (mdN N) L->(h0z (mdN N) L&&decide ((N.js.length:Int)+1<=n0z (mdN N) L))=false:=fun L hL=>by
  cases h:h0z (mdN N) L with
  | false=>rfl
  | true =>
   have:=hangN L hL h
   rw[Bool.true_and]
   exact decide_eq_false (by omega)
 refine cutS (fun ρ=>∃n' s4 s8,ρ=[.sc ns,.tp n',.vl (netD N),.ow (a0e (b0g N)),s4,.vl (e0z N.m (mdN N)),.vl (.int z),.vl pp,s8]) (fun M hM=>⟨rfl,n0+1,mdN N,rfl,by omega,hR,fun n' ps L hn' g1 g2 g3 g4=>?_⟩) ?_
 ·have eL:(((N.js.map L2.d0r).length:Nat):Int)=(N.js.length:Int):=by rw[List.length_map]
  have g5:q0s (mdN N) (ps.map fun p=>[p]):=⟨by rw[List.length_map];exact g2,fun C hC=>by
   obtain⟨p,hp,rfl⟩:=List.mem_map.mp hC
   exact⟨by simp,by simp,fun i hi=>by rw[List.mem_singleton.mp hi];exact g1 p hp⟩⟩
  refine f0y (fun k ρ=>∃s8,ρ=[.sc ns,.tp n',.vl (netD N),.ow (a0e (b0g N)),.ow (a0e (mdN N)),.vl (e0z N.m (mdN N)),.vl (.int z),.vl pp,s8]) (fun _ _ _ _=>trivial) ?_ (fun ρ ⟨s8,e⟩=>hM ρ ⟨n',_,s8,e⟩) _ ⟨.un,rfl⟩
  rintro k d _ M2 hk ⟨s8,rfl⟩ hM2
  have hd:=List.mem_of_getElem? hk
  simp only[List.mem_cons,List.not_mem_nil,or_false]at hd
  rcases hd with rfl | rfl | rfl | rfl
  ·refine h0x rfl rfl ⟨rfl,N.m,mdN N,_,hR,.inl ⟨ps,rfl,g1,g2,g3,?_⟩⟩
   rw[eL,noU ps g1]
   exact hM2 _ ⟨_,rfl⟩
  ·refine h0x rfl rfl ⟨rfl,N.m,mdN N,_,hR,.inr ⟨_,rfl,ccl,?_⟩⟩
   rw[eL,noH _ ccl]
   exact hM2 _ ⟨_,rfl⟩
  ·refine h0x rfl rfl ⟨rfl,N.m,mdN N,_,hR,.inr ⟨_,rfl,g4,?_⟩⟩
   rw[eL,noH _ g4]
   exact hM2 _ ⟨_,rfl⟩
  ·refine h0x rfl rfl ⟨rfl,N.m,mdN N,_,hR,.inr ⟨_,rfl,g5,?_⟩⟩
   rw[eL,noH _ g5]
   exact hM2 _ ⟨_,rfl⟩
 rintro _ ⟨n',s4,s8,rfl⟩
 rcases hz with⟨rfl,hf,rfl⟩ | ⟨rfl,rfl⟩
 ·refine⟨rfl,N.m,mdN N,_,hR,.inl ⟨fpl (mdN N),rfl,fin,by have:=u0s (mdN N);omega,?_,?_⟩⟩
  ·have:=fok hf
   unfold i0r at this
   rw[Bool.and_eq_true,Bool.and_eq_true]at this
   exact of_decide_eq_true this.1.2
  rw[fok hf,decide_eq_true (Int.le_refl _)]
  refine⟨rfl,N.m,mdN N,_,hR,.inl ⟨fpl (mdN N),rfl,fin,by have:=u0s (mdN N);omega,?_,?_⟩⟩
  ·have:=fok hf
   unfold i0r at this
   rw[Bool.and_eq_true,Bool.and_eq_true]at this
   exact of_decide_eq_true this.1.2
  rw[fok hf,decide_eq_false (by omega)]
  exact hq _
 ·refine⟨rfl,N.m,mdN N,_,hR,.inr ⟨a0u (mdN N) (mdN N).length,rfl,ccl,?_⟩⟩
  rw[cok,decide_eq_true (Int.le_refl _)]
  refine⟨rfl,N.m,mdN N,_,hR,.inr ⟨a0u (mdN N) (mdN N).length,rfl,ccl,?_⟩⟩
  rw[cok,decide_eq_false (by omega)]
  exact hq _
theorem fin (d_weight:DefN K mg "weight" l0o ["row"])(d_givens_of:DefN K mg "givens_of" f0n ["row"])(d_joined:DefN K mg "joined" l0p ["one", "other"])(d_bound:DefN K mg "bound" p0c ["wish"])(d_first_places:DefN K mg "first_places" d0q ["rows"])(d_classes_of:DefN K mg "classes_of" d0d ["rows"])(d_givens_in:DefN K mg "givens_in" g0z ["rows", "places"])(d_unlike_number:DefN K mg "unlike_number" d0a ["rows", "places"])(d_hang_number:DefN K mg "hang_number" e0b ["rows", "classes"])(d_is_whole:DefN K mg "is_whole" i0h ["thing", "least", "most"])(d_is_tuple:DefN K mg "is_tuple" i0i ["thing", "least", "most"])(d_bound_shown:DefN K mg "bound_shown" f0d ["wish", "number", "paper"])(d_are_places:DefN K mg "are_places" e0t ["rows", "thing"])(d_are_unlike:DefN K mg "are_unlike" d0v ["rows", "thing"])(d_are_classes:DefN K mg "are_classes" f0e ["rows", "thing"])(d_hang_together:DefN K mg "hang_together" d0c ["rows", "places"])(d_own_rows:DefN K mg "own_rows" g0e ["many"])(d_joining:DefN K mg "joining" j0m ["one", "other"])(d_all_words:DefN K mg "all_words" h0a ["net", "words"])(d_rows_of:DefN K mg "rows_of" j0l ["net"])(d_tidied:DefN K mg "tidied" j0k ["net"])(d_first_alike:DefN K mg "first_alike" f0c ["rows"])(d_leant_on:DefN K mg "leant_on" g0f ["net", "stands"])(d_law_tape:DefN K mg "_law_tape" i0f ["_law_script"])(d_law_draw:DefN K mg "_law_draw" i0g ["_law_tape_here", "_law_many"])(d_law_net:DefN K mg "_law_net" g0h ["_law_tape_here", "_law_most", "_law_joins_most"])(d_law_rows:DefN K mg "_law_rows" g0g ["_law_net_here"])(d_law_wider:DefN K mg "_law_wider" f0m ["_law_rows_here", "_law_places"])(d_law_classes:DefN K mg "_law_classes" f0b ["_law_rows_here"])(d_law_papers:DefN K mg "_law_papers" d0b ["_law_tape_here", "_law_rows_here"])(d_law:DefN K mg "law" a1e ["_law_script"])(B:BI mg):OkN P w K mg base 6 "law" ["_law_script"] (i1d K) :=
 have g_law_tape:=t0u d_law_tape B
 have g_law_draw:=t0w d_law_draw B
 have g_givens_of:=r0l d_givens_of B
 have g_weight:=b1d d_weight B g_givens_of
 have g_givens_in:=r0m d_givens_in B
 have g_classes_of:=p0k d_classes_of B g_givens_in
 have g_hang_number:=n0l d_hang_number B g_weight g_givens_in
 have g_unlike_number:=l0e d_unlike_number B g_weight
 have g_first_places:=m0l d_first_places B g_weight
 have g_bound:=e1x d_bound B g_classes_of g_first_places g_hang_number g_unlike_number
 have g_is_whole:=t0x d_is_whole B
 have g_is_tuple:=t0y d_is_tuple B
 have g_are_places:=p0m d_are_places B g_is_whole
 have g_are_unlike:=p0l d_are_unlike B g_are_places g_weight
 have g_hang_together:=l0f d_hang_together B g_classes_of
 have g_are_classes:=n0o d_are_classes B g_givens_in g_are_places g_hang_together
 have g_bound_shown:=n0n d_bound_shown B g_is_tuple g_are_unlike g_are_classes g_unlike_number g_hang_number
 have g_law_net:=x0x d_law_net B g_law_draw
 have g_law_rows:=t0v d_law_rows B
 have g_joined:=b1f d_joined B
 have g_own_rows:=t0s d_own_rows B
 have g_all_words:=r0n d_all_words B g_joined
 have g_rows_of:=x0w d_rows_of B g_all_words g_own_rows
 have g_joining:=x0y d_joining B
 have g_first_alike:=n0m d_first_alike B
 have g_leant_on:=t0t d_leant_on B
 have g_tidied:=b1e d_tidied B g_first_alike g_leant_on g_rows_of g_joining
 have g_law_wider:=r0k d_law_wider B
 have g_law_classes:=n0k d_law_classes B g_law_wider
 have g_law_papers:=p0j d_law_papers B g_law_classes g_law_draw
 have g_law:=l1x d_law B g_law_tape g_law_net g_law_rows g_bound g_law_papers g_law_draw g_tidied g_bound_shown
 m1f g_law
end
end K69
namespace PySem.W.Fast
def tw8627838478670240735:=()
def tw13800197545978174949:=()
def tw918238714639838378:=()
def tw7118871168033299495:=()
def tw12051984678798199064:=()
def tw5868699904545568680:=()
def tw4580890157592311011:=()
def tw1003564936063939661:=()
def tw8164573426695621541:=()
def tw12651434755848349219:=()
def tw11764346380262493193:=()
def tw7506288567949630512:=()
def tw5199575518080063670:=()
def tw2126191178542536895:=()
def tw3302311113819649672:=()
def tw12897384445854600260:=()
def tw9625549818945608960:=()
def tw10311316242153770846:=()
def tw9117967114623516377:=()
def tw16080692494349599578:=()
def tw11598744161856895458:=()
def tw13618491470524004910:=()
def tw13535707502393258120:=()
def tw17238861620682531181:=()
def tw4824511062798636495:=()
def tw10998917234320689253:=()
def tw9007472087124769874:=()
def tw13932331197112845213:=()
def tw16012579050539787562:=()
def tw2055288768670005014:=()
def tw5284977323874808601:=()
def tw2419377104830220587:=()
def tw11265783026561389511:=()
def tw7361775739984174839:=()
def tw9808940527480136863:=()
def tw11900948973886440492:=()
def tw1619739997744695852:=()
def tw8624807331870747997:=()
def tw8775374231992257405:=()
def tw17137344368743798620:=()
def tw15087612239816961544:=()
def tw8711065334565272516:=()
def tw17842217639952425913:=()
def tw11982097127177607677:=()
def tw10934024956472566702:=()
def tw11115763994025787692:=()
def tw7276197816855836460:=()
def tw8547266745295812743:=()
def tw7960699239092894808:=()
def tw12934791647440777206:=()
def tw17287856528411395214:=()
def tw11101990398825979480:=()
def tw11201312216773632493:=()
def tw9132606177366638094:=()
def tw5826921436120446939:=()
def tw12136334532362032772:=()
def tw10831438953580747121:=()
def tw9464973298839141747:=()
def tw7671933966745119031:=()
def tw4634083713315680464:=()
def tw10233222602859390832:=()
def tw7010416793365759925:=()
def tw7514570954480200447:=()
def tw5981120301794021051:=()
def tw13761063489989485552:=()
def tw1320572918895822316:=()
def tw16971132345713377414:=()
def tw7206818619268012147:=()
def tw16948785079127031927:=()
def tw15477075442311555912:=()
def tw4389176936669220397:=()
def tw3932504542817688962:=()
def tw4807234282118461056:=()
def tw4034210641392992566:=()
def tw12600304591361966637:=()
def tw13694770444759946399:=()
def tw6533155736340602970:=()
def tw13778147627151114595:=()
def tw2110599914791571819:=()
def tw1688973266253648640:=()
def tw13307449486225236432:=()
def tw17069417558125263736:=()
def tw8637760719806682881:=()
def tw1821836102305508545:=()
def tw9044270476545902365:=()
def tw13780712482199213117:=()
def tw2263310565093013236:=()
def tw13459954801440805906:=()
def tw13522502144893837898:=()
def tw13626800803050407885:=()
def tw18329586812911927771:=()
def tw13232880913248115303:=()
def tw6956118014691299202:=()
def tw16651134865151066490:=()
def tw14647819786524969405:=()
def tw381925879956261202:=()
def tw1252878047178817819:=()
def tw8977723144423704495:=()
def tw6721315061848748227:=()
def tw3664406895687377587:=()
def tw6060258094784472440:=()
def tw4781761417502952220:=()
def tw13491925278109633405:=()
def tw12366315664833104405:=()
def tw3430217657566192138:=()
def tw10622573943379229344:=()
def tw9029666549744588185:=()
def tw9283844057097322452:=()
def tw9015761460146884302:=()
def tw9665565835242569893:=()
def tw14527210054192310271:=()
def tw4144222506924259543:=()
def tw4656938717211486007:=()
def tw4052307653173614848:=()
def tw11565308719667060097:=()
def tw6972016522786432601:=()
def tw10433288504083106592:=()
def tw9660207553139865961:=()
def tw10636776461221513384:=()
def tw3121176084954974677:=()
def tw13298132234405879736:=()
def tw5766209051143137726:=()
def tw8822169624908533343:=()
def tw6761813762113864351:=()
def tw16985931789244786506:=()
def tw4956932052345731717:=()
def tw17123099493955882761:=()
def tw13800621578537702475:=()
def tw15176402740448042673:=()
def tw2246305316342723952:=()
def tw11063120368759309315:=()
def tw6442325292871330863:=()
def tw659634894646576071:=()
def tw2553430614453727707:=()
def tw3526900873277056049:=()
def tw14105420575169753560:=()
def tw3062697574302503140:=()
def tw6370883751034394062:=()
def tw6591439517928348365:=()
def tw9280415940259980590:=()
def tw6421837918624655317:=()
def tw5086425353246751894:=()
def tw4449468473379666087:=()
def tw14834346533596675770:=()
def tw11212966061682187879:=()
def tw5476591064222136750:=()
def tw11759142391777975544:=()
def tw11838502137544636898:=()
def tw13178302723012892765:=()
def tw17166728940089780530:=()
def tw14683366031091155556:=()
def tw6930781440462413132:=()
def tw796329136495610265:=()
def tw3921125571418751388:=()
def tw6950779918835356190:=()
def tw12446467919514198976:=()
def tw10381571963517264905:=()
def tw7138358232862991955:=()
def tw12463574680004306161:=()
def tw5160814687955478832:=()
def tw7934075348935314646:=()
def tw6332983521442932245:=()
def tw2953005568826403158:=()
def tw2440197323192250492:=()
def tw14341822628808736469:=()
def tw9263249806625947132:=()
def tw5267960007430705266:=()
def tw4733486310274175220:=()
def tw4267900025191609827:=()
def tw5419921975564459301:=()
def tw1383432209866752352:=()
def tw18270114199624470884:=()
def tw9536567290824357435:=()
def tw910468724468403443:=()
end PySem.W.Fast
open PySem PySem.W PyProof.Rows
set_option maxRecDepth 100000 in
set_option maxHeartbeats 0 in
theorem PySem.Challenge.cw_fewjoins_k69_whole_no_net_has_fewer_holds : PySem.Challenge.rw_fewjoins_k69_whole_no_net_has_fewer.Holds := by
 w_on;o_law;k_head;(case hw=>w_witness2)
 k_fill
 refine L2.d1u (l:=PySem.Challenge.rw_fewjoins_k69_whole_no_net_has_fewer) (n:=63) (k:=6) (x := "_law_script") (CX:=L2.CX0) (sp:=L2.i1d) rfl (by decide) rfl ⟨rfl,by decide,by decide⟩ (fun w h Y=>PySem.W.kIn_of Y) ?F ?S ?C
 case S=>exact fun K H a ns hl hO hS=>⟨a,ns,rfl,hS,hl,fun _=>rfl⟩
 case C=>exact fun H s e s' h=>h
 case F =>
  intro w mg fa h KX G hmg
  have d_weight:L2.DefN (L2.KOf KX) mg "weight" K69.l0o ["row"]:=by
   dsimp only[L2.KOf]
   refine' L2.c0b KX G ?a ?l ?c ?k (fun _ _ _ _ _ _ us hl=>match us,hl with | [_],_=>rfl)
   (case a=>k_is);(case l=>k_is);(case c=>k_is);(case k=>k_is)
  have d_givens_of:L2.DefN (L2.KOf KX) mg "givens_of" K69.f0n ["row"]:=by
   dsimp only[L2.KOf]
   refine' L2.c0b KX G ?a ?l ?c ?k (fun _ _ _ _ _ _ us hl=>match us,hl with | [_],_=>rfl)
   (case a=>k_is);(case l=>k_is);(case c=>k_is);(case k=>k_is)
  have d_joined:L2.DefN (L2.KOf KX) mg "joined" K69.l0p ["one", "other"]:=by
   dsimp only[L2.KOf]
   refine' L2.c0b KX G ?a ?l ?c ?k (fun _ _ _ _ _ _ us hl=>match us,hl with | [_,_],_=>rfl)
   (case a=>k_is);(case l=>k_is);(case c=>k_is);(case k=>k_is)
  have d_bound:L2.DefN (L2.KOf KX) mg "bound" K69.p0c ["wish"]:=by
   dsimp only[L2.KOf]
   refine' L2.c0b KX G ?a ?l ?c ?k (fun _ _ _ _ _ _ us hl=>match us,hl with | [_],_=>rfl)
   (case a=>k_is);(case l=>k_is);(case c=>k_is);(case k=>k_is)
  have d_first_places:L2.DefN (L2.KOf KX) mg "first_places" K69.d0q ["rows"]:=by
   dsimp only[L2.KOf]
   refine' L2.c0b KX G ?a ?l ?c ?k (fun _ _ _ _ _ _ us hl=>match us,hl with | [_],_=>rfl)
   (case a=>k_is);(case l=>k_is);(case c=>k_is);(case k=>k_is)
  have d_classes_of:L2.DefN (L2.KOf KX) mg "classes_of" K69.d0d ["rows"]:=by
   dsimp only[L2.KOf]
   refine' L2.c0b KX G ?a ?l ?c ?k (fun _ _ _ _ _ _ us hl=>match us,hl with | [_],_=>rfl)
   (case a=>k_is);(case l=>k_is);(case c=>k_is);(case k=>k_is)
  have d_givens_in:L2.DefN (L2.KOf KX) mg "givens_in" K69.g0z ["rows", "places"]:=by
   dsimp only[L2.KOf]
   refine' L2.c0b KX G ?a ?l ?c ?k (fun _ _ _ _ _ _ us hl=>match us,hl with | [_,_],_=>rfl)
   (case a=>k_is);(case l=>k_is);(case c=>k_is);(case k=>k_is)
  have d_unlike_number:L2.DefN (L2.KOf KX) mg "unlike_number" K69.d0a ["rows", "places"]:=by
   dsimp only[L2.KOf]
   refine' L2.c0b KX G ?a ?l ?c ?k (fun _ _ _ _ _ _ us hl=>match us,hl with | [_,_],_=>rfl)
   (case a=>k_is);(case l=>k_is);(case c=>k_is);(case k=>k_is)
  have d_hang_number:L2.DefN (L2.KOf KX) mg "hang_number" K69.e0b ["rows", "classes"]:=by
   dsimp only[L2.KOf]
   refine' L2.c0b KX G ?a ?l ?c ?k (fun _ _ _ _ _ _ us hl=>match us,hl with | [_,_],_=>rfl)
   (case a=>k_is);(case l=>k_is);(case c=>k_is);(case k=>k_is)
  have d_is_whole:L2.DefN (L2.KOf KX) mg "is_whole" K69.i0h ["thing", "least", "most"]:=by
   dsimp only[L2.KOf]
   refine' L2.c0b KX G ?a ?l ?c ?k (fun _ _ _ _ _ _ us hl=>match us,hl with | [_,_,_],_=>rfl)
   (case a=>k_is);(case l=>k_is);(case c=>k_is);(case k=>k_is)
  have d_is_tuple:L2.DefN (L2.KOf KX) mg "is_tuple" K69.i0i ["thing", "least", "most"]:=by
   dsimp only[L2.KOf]
   refine' L2.c0b KX G ?a ?l ?c ?k (fun _ _ _ _ _ _ us hl=>match us,hl with | [_,_,_],_=>rfl)
   (case a=>k_is);(case l=>k_is);(case c=>k_is);(case k=>k_is)
  have d_bound_shown:L2.DefN (L2.KOf KX) mg "bound_shown" K69.f0d ["wish", "number", "paper"]:=by
   dsimp only[L2.KOf]
   refine' L2.c0b KX G ?a ?l ?c ?k (fun _ _ _ _ _ _ us hl=>match us,hl with | [_,_,_],_=>rfl)
   (case a=>k_is);(case l=>k_is);(case c=>k_is);(case k=>k_is)
  have d_are_places:L2.DefN (L2.KOf KX) mg "are_places" K69.e0t ["rows", "thing"]:=by
   dsimp only[L2.KOf]
   refine' L2.c0b KX G ?a ?l ?c ?k (fun _ _ _ _ _ _ us hl=>match us,hl with | [_,_],_=>rfl)
   (case a=>k_is);(case l=>k_is);(case c=>k_is);(case k=>k_is)
  have d_are_unlike:L2.DefN (L2.KOf KX) mg "are_unlike" K69.d0v ["rows", "thing"]:=by
   dsimp only[L2.KOf]
   refine' L2.c0b KX G ?a ?l ?c ?k (fun _ _ _ _ _ _ us hl=>match us,hl with | [_,_],_=>rfl)
   (case a=>k_is);(case l=>k_is);(case c=>k_is);(case k=>k_is)
  have d_are_classes:L2.DefN (L2.KOf KX) mg "are_classes" K69.f0e ["rows", "thing"]:=by
   dsimp only[L2.KOf]
   refine' L2.c0b KX G ?a ?l ?c ?k (fun _ _ _ _ _ _ us hl=>match us,hl with | [_,_],_=>rfl)
   (case a=>k_is);(case l=>k_is);(case c=>k_is);(case k=>k_is)
  have d_hang_together:L2.DefN (L2.KOf KX) mg "hang_together" K69.d0c ["rows", "places"]:=by
   dsimp only[L2.KOf]
   refine' L2.c0b KX G ?a ?l ?c ?k (fun _ _ _ _ _ _ us hl=>match us,hl with | [_,_],_=>rfl)
   (case a=>k_is);(case l=>k_is);(case c=>k_is);(case k=>k_is)
  have d_own_rows:L2.DefN (L2.KOf KX) mg "own_rows" K69.g0e ["many"]:=by
   dsimp only[L2.KOf]
   refine' L2.c0b KX G ?a ?l ?c ?k (fun _ _ _ _ _ _ us hl=>match us,hl with | [_],_=>rfl)
   (case a=>k_is);(case l=>k_is);(case c=>k_is);(case k=>k_is)
  have d_joining:L2.DefN (L2.KOf KX) mg "joining" K69.j0m ["one", "other"]:=by
   dsimp only[L2.KOf]
   refine' L2.c0b KX G ?a ?l ?c ?k (fun _ _ _ _ _ _ us hl=>match us,hl with | [_,_],_=>rfl)
   (case a=>k_is);(case l=>k_is);(case c=>k_is);(case k=>k_is)
  have d_all_words:L2.DefN (L2.KOf KX) mg "all_words" K69.h0a ["net", "words"]:=by
   dsimp only[L2.KOf]
   refine' L2.c0b KX G ?a ?l ?c ?k (fun _ _ _ _ _ _ us hl=>match us,hl with | [_,_],_=>rfl)
   (case a=>k_is);(case l=>k_is);(case c=>k_is);(case k=>k_is)
  have d_rows_of:L2.DefN (L2.KOf KX) mg "rows_of" K69.j0l ["net"]:=by
   dsimp only[L2.KOf]
   refine' L2.c0b KX G ?a ?l ?c ?k (fun _ _ _ _ _ _ us hl=>match us,hl with | [_],_=>rfl)
   (case a=>k_is);(case l=>k_is);(case c=>k_is);(case k=>k_is)
  have d_tidied:L2.DefN (L2.KOf KX) mg "tidied" K69.j0k ["net"]:=by
   dsimp only[L2.KOf]
   refine' L2.c0b KX G ?a ?l ?c ?k (fun _ _ _ _ _ _ us hl=>match us,hl with | [_],_=>rfl)
   (case a=>k_is);(case l=>k_is);(case c=>k_is);(case k=>k_is)
  have d_first_alike:L2.DefN (L2.KOf KX) mg "first_alike" K69.f0c ["rows"]:=by
   dsimp only[L2.KOf]
   refine' L2.c0b KX G ?a ?l ?c ?k (fun _ _ _ _ _ _ us hl=>match us,hl with | [_],_=>rfl)
   (case a=>k_is);(case l=>k_is);(case c=>k_is);(case k=>k_is)
  have d_leant_on:L2.DefN (L2.KOf KX) mg "leant_on" K69.g0f ["net", "stands"]:=by
   dsimp only[L2.KOf]
   refine' L2.c0b KX G ?a ?l ?c ?k (fun _ _ _ _ _ _ us hl=>match us,hl with | [_,_],_=>rfl)
   (case a=>k_is);(case l=>k_is);(case c=>k_is);(case k=>k_is)
  have d_law_tape:L2.DefN (L2.KOf KX) mg "_law_tape" K69.i0f ["_law_script"]:=by
   dsimp only[L2.KOf]
   refine' L2.c0b KX G ?a ?l ?c ?k (fun _ _ _ _ _ _ us hl=>match us,hl with | [_],_=>rfl)
   (case a=>k_is);(case l=>k_is);(case c=>k_is);(case k=>k_is)
  have d_law_draw:L2.DefN (L2.KOf KX) mg "_law_draw" K69.i0g ["_law_tape_here", "_law_many"]:=by
   dsimp only[L2.KOf]
   refine' L2.c0b KX G ?a ?l ?c ?k (fun _ _ _ _ _ _ us hl=>match us,hl with | [_,_],_=>rfl)
   (case a=>k_is);(case l=>k_is);(case c=>k_is);(case k=>k_is)
  have d_law_net:L2.DefN (L2.KOf KX) mg "_law_net" K69.g0h ["_law_tape_here", "_law_most", "_law_joins_most"]:=by
   dsimp only[L2.KOf]
   refine' L2.c0b KX G ?a ?l ?c ?k (fun _ _ _ _ _ _ us hl=>match us,hl with | [_,_,_],_=>rfl)
   (case a=>k_is);(case l=>k_is);(case c=>k_is);(case k=>k_is)
  have d_law_rows:L2.DefN (L2.KOf KX) mg "_law_rows" K69.g0g ["_law_net_here"]:=by
   dsimp only[L2.KOf]
   refine' L2.c0b KX G ?a ?l ?c ?k (fun _ _ _ _ _ _ us hl=>match us,hl with | [_],_=>rfl)
   (case a=>k_is);(case l=>k_is);(case c=>k_is);(case k=>k_is)
  have d_law_wider:L2.DefN (L2.KOf KX) mg "_law_wider" K69.f0m ["_law_rows_here", "_law_places"]:=by
   dsimp only[L2.KOf]
   refine' L2.c0b KX G ?a ?l ?c ?k (fun _ _ _ _ _ _ us hl=>match us,hl with | [_,_],_=>rfl)
   (case a=>k_is);(case l=>k_is);(case c=>k_is);(case k=>k_is)
  have d_law_classes:L2.DefN (L2.KOf KX) mg "_law_classes" K69.f0b ["_law_rows_here"]:=by
   dsimp only[L2.KOf]
   refine' L2.c0b KX G ?a ?l ?c ?k (fun _ _ _ _ _ _ us hl=>match us,hl with | [_],_=>rfl)
   (case a=>k_is);(case l=>k_is);(case c=>k_is);(case k=>k_is)
  have d_law_papers:L2.DefN (L2.KOf KX) mg "_law_papers" K69.d0b ["_law_tape_here", "_law_rows_here"]:=by
   dsimp only[L2.KOf]
   refine' L2.c0b KX G ?a ?l ?c ?k (fun _ _ _ _ _ _ us hl=>match us,hl with | [_,_],_=>rfl)
   (case a=>k_is);(case l=>k_is);(case c=>k_is);(case k=>k_is)
  have d_law:L2.DefN (L2.KOf KX) mg "law" K69.a1e ["_law_script"]:=by
   dsimp only[L2.KOf]
   refine' L2.c0b KX G ?a ?l ?c ?k (fun _ _ _ _ _ _ us hl=>match us,hl with | [_],_=>rfl)
   (case a=>k_is);(case l=>k_is);(case c=>k_is);(case k=>k_is)
  have B:L2.BI mg:=by
   refine' L2.o1k KX G ?z_len ?z_range ?z_isinstance ?z_int ?z_bool ?z_list ?z_tuple ?z_str ?z_sum ?z_all ?z_max ?z_min ?z_sorted ?z_set ?z_zip ?z_enumerate ?z_reversed ?z_dict ?z_any ?z_abs
   (case z_len=>k_is);(case z_range=>k_is);(case z_isinstance=>k_is);(case z_int=>k_is);(case z_bool=>k_is);(case z_list=>k_is);(case z_tuple=>k_is);(case z_str=>k_is);(case z_sum=>k_is);(case z_all=>k_is);(case z_max=>k_is);(case z_min=>k_is);(case z_sorted=>k_is);(case z_set=>k_is);(case z_zip=>k_is);(case z_enumerate=>k_is);(case z_reversed=>k_is);(case z_dict=>k_is);(case z_any=>k_is);(case z_abs=>k_is)
  refine L2.j1h d_law hmg fun base=>?_
  exact K69.fin d_weight d_givens_of d_joined d_bound d_first_places d_classes_of d_givens_in d_unlike_number d_hang_number d_is_whole d_is_tuple d_bound_shown d_are_places d_are_unlike d_are_classes d_hang_together d_own_rows d_joining d_all_words d_rows_of d_tidied d_first_alike d_leant_on d_law_tape d_law_draw d_law_net d_law_rows d_law_wider d_law_classes d_law_papers d_law B
#print axioms PySem.Challenge.cw_fewjoins_k69_whole_no_net_has_fewer_holds

