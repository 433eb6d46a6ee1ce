import PyProof.Rows.All
import Wide.All
import OpenK.AllK
import Wide.FinOn
import PyProof.EqAt
import PyProof.EqKinds
import PyProof.TupleCall
import KE.BitLaws
import KE.OsGo
import Open.SpecLaws
import PyFlatLaws
import PySem.Challenge.RW_callhouse_s01_answers
set_option Elab.async false
set_option bootstrap.genMatcherCode false
set_option maxRecDepth 100000
set_option maxHeartbeats 4000000
set_option linter.all false
namespace L2
open PySem PySem.Spec PyProof.Rows
noncomputable abbrev Key:=Sum Int Str
noncomputable def zq9:Key→Value→Bool
 | .inl k,v=>Value.isInt k v
 | .inr x,v=>Value.isStrOf x v
noncomputable def zsS (w:World):Key→Int
 | .inl k=>hashInt k
 | .inr x=>hashStr w x
theorem y0:∀{k:Key} {v:Value},zq9 k v=true→(∃i t,k=Sum.inl i∧v=Value.int i t)∨(∃x t,k=Sum.inr x∧v=Value.str x t)
 | .inl i,v,h=>by
  obtain ⟨t,e⟩:=Value.isInt_shape (k:=i) (v:=v) h
  exact .inl ⟨i,t,rfl,e⟩
 | .inr x,v,h=>by
  obtain ⟨t,e⟩:=Value.isStrOf_shape (x:=x) (v:=v) h
  exact .inr ⟨x,t,rfl,e⟩
theorem zq8 (a b:Int):decide ((Sum.inl a:Key)=Sum.inl b)=(a == b):=by
 by_cases e:a=b
 ·subst e;simp
 ·have h:¬ (Sum.inl a:Key)=Sum.inl b:=fun q=>e (Sum.inl.inj q)
  rw [decide_eq_false h]
  exact (beq_eq_false_iff_ne.mpr e).symm
theorem zq5 (a b:Str):decide ((Sum.inr a:Key)=Sum.inr b)=decide (a=b):=by
 by_cases e:a=b
 ·subst e;simp
 ·have h:¬ (Sum.inr a:Key)=Sum.inr b:=fun q=>e (Sum.inr.inj q)
  rw [decide_eq_false h,decide_eq_false e]
theorem zq7 (a:Int) (b:Str):decide ((Sum.inl a:Key)=Sum.inr b)=false:=decide_eq_false (fun q=>nomatch q)
theorem zq6 (a:Str) (b:Int):decide ((Sum.inr a:Key)=Sum.inl b)=false:=decide_eq_false (fun q=>nomatch q)
noncomputable def znd (prog:Program) (w:World):PySem.KeyKind prog w Key where
 is:=zq9
 hash:=zsS w
 inj:=fun v a b ha hb=>by
  rcases y0 ha with ⟨i,t,rfl,rfl⟩ | ⟨x,t,rfl,rfl⟩
  ·rcases y0 hb with ⟨j,u,rfl,e⟩ | ⟨y,u,rfl,e⟩
   ·injection e with e1 _;rw [e1]
   ·exact nomatch e
  ·rcases y0 hb with ⟨j,u,rfl,e⟩ | ⟨y,u,rfl,e⟩
   ·exact nomatch e
   ·injection e with e1 _;rw [e1]
 byValue:=fun k v h=>by
  rcases y0 h with ⟨i,t,rfl,rfl⟩ | ⟨x,t,rfl,rfl⟩ <;> rfl
 pyHash:=fun hv h=>by
  rcases y0 hv with ⟨i,t,rfl,rfl⟩ | ⟨x,t,rfl,rfl⟩
  ·exact wpAny_pyHash_int h
  ·exact wpAny_pyHash_str h
 eqBool:=fun hu hv h=>by
  rcases y0 hu with ⟨i,t,rfl,rfl⟩ | ⟨x,t,rfl,rfl⟩
  ·rcases y0 hv with ⟨j,u,rfl,rfl⟩ | ⟨y,u,rfl,rfl⟩
   ·rw [zq8] at h;exact wpAny_eqBool_int h
   ·rw [zq7] at h;exact SeqAt.EqAt.int_str i t y u _ _ _ _ h
  ·rcases y0 hv with ⟨j,u,rfl,rfl⟩ | ⟨y,u,rfl,rfl⟩
   ·rw [zq6] at h;exact SeqAt.EqAt.str_int x t j u _ _ _ _ h
   ·rw [zq5] at h;exact wpAny_eqBool_str h
 «strs»:=fun k x t v h=>by
  rcases y0 h with ⟨i,u,rfl,e⟩ | ⟨y,u,rfl,e⟩
  ·exact nomatch e
  ·injection e with e1 _
   subst e1
   cases v <;> rfl
end L2
namespace L2
open PySem PySem.Spec PyProof.Rows
inductive V where
 | non | bl (b:Bool) | int (i:Int) | str (x:Str) | byt (b:Array UInt8) | flt (b:UInt64) | ref (a:Addr) | ty (n:String)
 deriving DecidableEq
noncomputable def Yz:V→Value→Prop
 | .non,u=>u=Value.none
 | .bl b,u=>u=Value.bool b
 | .int i,u=>∃t,u=Value.int i t
 | .str x,u=>∃t,u=Value.str x t
 | .byt b,u=>∃t,u=Value.bytes b t
 | .flt b,u=>∃t,u=Value.float b t
 | .ref a,u=>u=Value.ref a
 | .ty n,u=>u=Value.type n
noncomputable abbrev yU:List V→List Value→Prop:=Paired Yz
theorem yU.length {xs:List V} {us:List Value} (r:yU xs us):xs.length=us.length:=Paired.length r
theorem yU.get:∀{xs:List V} {us:List Value} {i:Nat} {x:V},yU xs us→xs[i]?=some x→∃u,us[i]?=some u∧Yz x u
 | _,_,_,_,.nil,e=>by simp at e
 | _,_,0,_,.cons r _,e=>by simp at e;subst e;exact ⟨_,rfl,r⟩
 | _,_,i + 1,x,.cons _ t,e=>by
  obtain ⟨u,h1,h2⟩:=yU.get (i:=i) (x:=x) t (by simpa using e)
  exact ⟨u,by simpa using h1,h2⟩
theorem yU.set {x:V} {u:Value} (r:Yz x u):∀{xs:List V} {us:List Value} (i:Nat),yU xs us→yU (xs.set i x) (us.set i u)
 | _,_,_,.nil=>.nil
 | _,_,0,.cons _ t=>.cons r t
 | _,_,i + 1,.cons q t=>.cons q (yU.set r i t)
theorem yU.append:∀{xs ys:List V} {us ws:List Value},yU xs us→yU ys ws→yU (xs++ys) (us++ws)
 | _,_,_,_,.nil,s=>s
 | _,_,_,_,.cons r t,s=>.cons r (yU.append t s)
theorem yU.take:∀{xs:List V} {us:List Value} (n:Nat),yU xs us→yU (xs.take n) (us.take n)
 | _,_,0,_=>.nil
 | _,_,_ + 1,.nil=>.nil
 | _,_,n + 1,.cons r t=>.cons r (yU.take n t)
theorem yU.drop:∀{xs:List V} {us:List Value} (n:Nat),yU xs us→yU (xs.drop n) (us.drop n)
 | _,_,0,r=>r
 | _,_,_ + 1,.nil=>.nil
 | _,_,n + 1,.cons _ t=>yU.drop n t
noncomputable def znY:Option V→Option Value→Prop
 | some v,some u=>Yz v u
 | none,none=>True
 | _,_=>False
noncomputable def KV {κ:Type}:List (κ × V)→List (κ × Value)→Prop:=Paired fun (p:κ × V) (q:κ × Value)=>p.1=q.1∧Yz p.2 q.2
noncomputable def kV:Key→V
 | .inl i=>.int i
 | .inr x=>.str x
inductive HO where
 | lst (xs:List V)
 | tup (xs:List V)
 | dK (kvs:List (Key × V)) | dT (kvs:List (List Key × V))
 | set (S:Int→Bool) (n:Nat)
 | ins (C dx:Addr) (fs:List (Str × V))
 | own (x:Addr)
 | xd (fs:List (Str × V))
 | met (f x:Addr)
 | rng (lo hi:Int)
 | frz (o:Obj) (u:HO)
 | tbl (ps:Array Value)
 | ext (φ:Heap→Prop)
noncomputable abbrev Hp:=Addr→Option HO
noncomputable def upd (H:Hp) (a:Addr) (o:HO):Hp:=fun b=>if b=a then some o else H b
theorem za {H:Hp} {a:Addr} {o:HO}:upd H a o a=some o:=by unfold upd;rw [if_pos rfl]
theorem zv {H:Hp} {a b:Addr} {o:HO} (h:b≠a):upd H a o b=H b:=by unfold upd;rw [if_neg h]
theorem zpq {H:Hp} {a:Addr} {o u:HO}:upd (upd H a o) a u=upd H a u:=by
 funext b;unfold upd;split <;> rfl
theorem zqZ {H:Hp} {a b:Addr} {o u:HO} (h:H a=some o) (h':H b=some u) (d:o≠u):a≠b:=by
 intro e;subst e;rw [h] at h';exact d (Option.some.inj h')
theorem zy {H:Hp} {a b:Addr} {o:HO} (h:H a=some o) (h':H b=none):a≠b:=by
 intro e;subst e;rw [h] at h';cases h'
section
variable (P:Program) (w:World)
noncomputable def za0 (H:Hp) (h:Heap) (a:Addr):HO→Prop
 | .lst xs=>xs.length≤sizeLine∧∃(its:List Value) (n:Nat),yU xs its∧h.get? a=some {cls:=.type "list",data:=.seq its.toArray n}
 | .tup xs=>xs.length≤sizeLine∧∃its:List Value,yU xs its∧IsTup h a its.toArray
 | .dK kvs=>kvs.length≤sizeLine∧(a == sysModules)=false∧∃vs,KV kvs vs∧h.DictOf (znd P w) a vs
 | .dT kvs=>kvs.length≤sizeLine∧(a == sysModules)=false∧∃xs:List (List Key × Addr × Value),
   Paired (fun (p:List Key × V) (q:List Key × Addr × Value)=>p.1=q.1∧H q.2.1=some (.tup (p.1.map kV))∧Yz p.2 q.2.2) kvs xs∧
   ∃o es ep,h.get? a=some o∧o.ExactDict∧o.data=.dict es ep∧es.toList=xs.map (entryOfKey (tupleKind (znd P w)))∧(xs.map (·.1)).Nodup
 | .set S n=>h.SetOf (intKind P w) a S n
 | .ins C dx fs=>H dx=some (.own a)∧fs.length≤1000∧dx≠a∧h.get? a=some (PySem.W.instObj C dx)∧
   ∃mA,h.Ns1 dx mA∧(∀f,znY (fs.lookup f) (mA f))∧PySem.Within mA (fs.map (·.1))
 | .own _=>∃o,h.get? a=some o
 | .xd fs=>∃mA,h.Ns1 a mA∧∀f,znY (fs.lookup f) (mA f)
 | .rng lo hi=>∃t u v,h.get? a=some {cls:=.type "range",data:=.fields #[.int lo t,.int hi u,.int 1 v]}
 | .frz o u=>h.get? a=some o∧za0 H h a u
 | .tbl ps=>h.get? a=some {cls:=.none,data:=.fields ps}
 | .met f x=>h.get? a=some (PySem.W.methodObj (.ref f) (.ref x))
 | .ext φ=>φ h∧(∃o,h.get? a=some o)∧∀h1 h2:Heap,φ h1→(∀o,h1.get? a=some o→h2.get? a=some o)→φ h2
noncomputable def HOk (H:Hp) (h:Heap):Prop:=∀a o,H a=some o→za0 P w H h a o
end
section
variable {P:Program} {w:World} {H H':Hp} {h h':Heap} {a:Addr} {o:HO}
theorem za0.lt (x:za0 P w H h a o):a < h.objs.size:=by
 cases o with
 | lst xs=>obtain ⟨_,_,_,_,e⟩:=x;exact Heap.lt_size e
 | tup xs=>obtain ⟨_,_,_,p⟩:=x;exact p.lt
 | dK kvs=>obtain ⟨_,_,_,_,o,_,_,e,_⟩:=x;exact Heap.lt_size e
 | dT kvs=>obtain ⟨_,_,_,_,o,_,_,e,_⟩:=x;exact Heap.lt_size e
 | set S n=>obtain ⟨o,_,_,_,e,_⟩:=x;exact Heap.lt_size e
 | ins C dx fs=>obtain ⟨_,_,_,e,_⟩:=x;exact Heap.lt_size e
 | own y=>obtain ⟨_,e⟩:=x;exact Heap.lt_size e
 | xd fs=>obtain ⟨_,⟨_,_,_,e,_⟩,_⟩:=x;exact Heap.lt_size e
 | rng lo hi=>obtain ⟨_,_,_,e⟩:=x;exact Heap.lt_size e
 | frz ob u=>obtain ⟨e,_⟩:=x;exact Heap.lt_size e
 | tbl ps=>exact Heap.lt_size (show h.get? a=some _ from x)
 | met f y=>exact Heap.lt_size (show h.get? a=some _ from x)
 | ext φ=>obtain ⟨_,⟨_,e⟩,_⟩:=x;exact Heap.lt_size e
theorem Paired.mapP {α β:Type} {F G:α→β→Prop}:∀{l₁:List α} {l₂:List β},Paired F l₁ l₂→(∀a b,F a b→G a b)→Paired G l₁ l₂
 | _,_,.nil,_=>.nil
 | _,_,.cons r t,f=>.cons (f _ _ r) (Paired.mapP t f)
theorem za0.stay (x:za0 P w H h a o) (k:∀b u,(b=a∨H b=some (.own a))→h.get? b=some u→h'.get? b=some u)
  (ho:∀b,H b=some (.own a)→H' b=some (.own a)) (ht:∀b xs,H b=some (.tup xs)→H' b=some (.tup xs)):za0 P w H' h' a o:=by
 induction o with
 | lst xs=>obtain ⟨z,its,n,r,e⟩:=x;exact ⟨z,its,n,r,k _ _ (.inl rfl) e⟩
 | tup xs=>obtain ⟨z,its,r,ob,e,c⟩:=x;exact ⟨z,its,r,ob,k _ _ (.inl rfl) e,c⟩
 | dK kvs=>obtain ⟨z,y,vs,r,ob,es,ep,e,c⟩:=x;exact ⟨z,y,vs,r,ob,es,ep,k _ _ (.inl rfl) e,c⟩
 | dT kvs=>
  obtain ⟨z,y,xs,r,ob,es,ep,e,c⟩:=x
  exact ⟨z,y,xs,Paired.mapP r fun p q z=>⟨z.1,ht _ _ z.2.1,z.2.2⟩,ob,es,ep,k _ _ (.inl rfl) e,c⟩
 | set S n=>obtain ⟨ob,es,ep,t,e,c⟩:=x;exact ⟨ob,es,ep,t,k _ _ (.inl rfl) e,c⟩
 | ins C dx fs=>
  obtain ⟨d,z,ne,e,mA,⟨od,es,ep,e2,c⟩,r⟩:=x
  exact ⟨ho _ d,z,ne,k _ _ (.inl rfl) e,mA,⟨od,es,ep,k _ _ (.inr d) e2,c⟩,r⟩
 | own y=>obtain ⟨ob,e⟩:=x;exact ⟨ob,k _ _ (.inl rfl) e⟩
 | xd fs=>obtain ⟨mA,⟨od,es,ep,e,c⟩,r⟩:=x;exact ⟨mA,⟨od,es,ep,k _ _ (.inl rfl) e,c⟩,r⟩
 | rng lo hi=>obtain ⟨t,u,v,e⟩:=x;exact ⟨t,u,v,k _ _ (.inl rfl) e⟩
 | frz ob u ih=>obtain ⟨e,q⟩:=x;exact ⟨k _ _ (.inl rfl) e,ih q⟩
 | tbl ps=>
  have e:h.get? a=some {cls:=.none,data:=.fields ps}:=x
  show h'.get? a=some {cls:=.none,data:=.fields ps}
  exact k a _ (.inl rfl) e
 | met f y=>
  have e:h.get? a=some (PySem.W.methodObj (.ref f) (.ref y)):=x
  show h'.get? a=some (PySem.W.methodObj (.ref f) (.ref y))
  exact k a _ (.inl rfl) e
 | ext φ=>obtain ⟨p,⟨o,e⟩,st⟩:=x;exact ⟨st _ _ p fun o q=>k _ _ (.inl rfl) q,⟨o,k _ _ (.inl rfl) e⟩,st⟩
theorem HOk.lt (x:HOk P w H h) (e:H a=some o):a < h.objs.size:=(x a o e).lt
theorem HOk.fresh (x:HOk P w H h) (e:h.objs.size≤a):H a=none:=by
 cases q:H a with
 | none=>rfl
 | some u=>exact absurd (Nat.lt_of_lt_of_le (x.lt q) e) (Nat.lt_irrefl _)
theorem HOk.kept (x:HOk P w H h) (k:∀b u,h.get? b=some u→h'.get? b=some u):HOk P w H h':=fun a o e=>
 (x a o e).stay (fun b u _ q=>k b u q) (fun _ q=>q) fun _ _ q=>q
theorem HOk.laid (x:HOk P w H h) (k:∀b u,h.get? b=some u→h'.get? b=some u) (hp:h.objs.size≤a) (new:za0 P w (upd H a o) h' a o):HOk P w (upd H a o) h':=fun b u e=>by
 have hn:=x.fresh hp
 by_cases hb:b=a
 ·subst hb;rw [za] at e;cases e;exact new
 ·rw [zv hb] at e
  exact (x b u e).stay (fun c v _ q=>k c v q) (fun c q=>by rw [zv (zy q hn)];exact q) fun c xs q=>by rw [zv (zy q hn)];exact q
end
noncomputable def Rd (H:Hp) (a:Addr) (u:HO):Prop:=H a=some u∨∃o,H a=some (.frz o u)
theorem Rd.ok {P:Program} {w:World} {H:Hp} {h:Heap} {a:Addr} {u:HO} (r:Rd H a u) (x:HOk P w H h):za0 P w H h a u:=by
 rcases r with r | ⟨o,r⟩
 ·exact x a u r
 ·obtain ⟨_,q⟩:=x a _ r
  exact q
noncomputable def Mut:Option HO→Prop
 | some (.lst _)=>True
 | some (.dK _)=>True
 | some (.dT _)=>True
 | some (.set _ _)=>True
 | some (.ins _ _ _)=>True
 | some (.ext _)=>True
 | _=>False
section
variable {P:Program} {w:World} {H:Hp} {h h':Heap} {x e:Addr} {o':HO}
theorem HOk.write (ok:HOk P w H h) (mu:Mut (H x)) (he:e=x∨H e=some (.own x)) (k:∀b u,b≠e→h.get? b=some u→h'.get? b=some u) (heo:∃u,h'.get? e=some u)
  (new:za0 P w (upd H x o') h' x o'):HOk P w (upd H x o') h':=fun b u q=>by
 have nown:∀c y,H c=some (.own y)→c≠x:=fun c y r z=>by subst z;rw [r] at mu;exact mu
 have ntup:∀c xs,H c=some (.tup xs)→c≠x:=fun c xs r z=>by subst z;rw [r] at mu;exact mu
 by_cases hb:b=x
 ·subst hb;rw [za] at q;cases q;exact new
 ·rw [zv hb] at q
  by_cases hbe:b=e
  ·have q':H b=some (.own x):=by
    rcases he with z | z
    ·exact absurd (hbe.trans z) hb
    ·rw [hbe];exact z
   rw [q] at q';cases q'
   obtain ⟨v,hv⟩:=heo
   exact ⟨v,by rw [hbe];exact hv⟩
  ·refine (ok b u q).stay (fun c v hc r=>k c v ?_ r) (fun c r=>by rw [zv (nown c b r)];exact r) fun c xs r=>by rw [zv (ntup c xs r)];exact r
   rcases hc with rfl | hc
   ·exact hbe
   ·rintro rfl
    rcases he with z | z
    ·exact nown c b hc z
    ·rw [hc] at z;cases z;exact hb rfl
end
structure Un (fs ex:List Addr) (H H':Hp) (h h':Heap):Prop where
 keep:∀b o,h.get? b=some o→H b=none→b ∉ fs→b ∉ ex→h'.get? b=some o
 slot:∀b o,h.get? b=some o→H b=none→b ∈ fs→b ∉ ex→∃sl,h'.get? b=some {o with slots:=sl}
 free:∀b o,h.get? b=some o→H b=none→b ∉ ex→H' b=none
 there:∀b o,h.get? b=some o→b ∉ ex→∃o',h'.get? b=some o'
 tups:∀b xs,H b=some (.tup xs)→H' b=some (.tup xs)
 frzs:∀b o u,H b=some (.frz o u)→H' b=some (.frz o u)
 tbls:∀b ps,H b=some (.tbl ps)→∃more,H' b=some (.tbl (ps++more))
section
variable {fs fs' ex ex':List Addr} {H H1 H2:Hp} {h h1 h2 h':Heap} {a x e:Addr} {o:HO}
theorem Un.any (u:Un fs ex H H1 h h1) {b:Addr} {ob:Obj} (q:h.get? b=some ob) (n:H b=none) (hx:b ∉ ex):∃sl,h1.get? b=some {ob with slots:=sl}:=by
 by_cases hb:b ∈ fs
 ·exact u.slot b ob q n hb hx
 ·exact ⟨ob.slots,u.keep b ob q n hb hx⟩
theorem Un.kept (k:∀b u,h.get? b=some u→h'.get? b=some u):Un fs ex H H h h':=
 ⟨fun b ob q _ _ _=>k b ob q,fun b ob q _ _ _=>⟨ob.slots,k b ob q⟩,fun _ _ _ n _=>n,fun b ob q _=>⟨ob,k b ob q⟩,fun _ _ q=>q,fun _ _ _ q=>q,fun _ ps q=>⟨#[],by rw [q];simp⟩⟩
theorem Un.refl:Un fs ex H H h h:=Un.kept fun _ _ q=>q
theorem Un.laid (k:∀b u,h.get? b=some u→h'.get? b=some u) (hp:h.objs.size≤a) (hn:H a=none):Un fs ex H (upd H a o) h h' where
 keep:=fun b u q _ _ _=>k b u q
 slot:=fun b u q _ _ _=>⟨u.slots,k b u q⟩
 free:=fun b u q n _=>by rw [zv (Nat.ne_of_lt (Nat.lt_of_lt_of_le (Heap.lt_size q) hp))];exact n
 there:=fun b u q _=>⟨u,k b u q⟩
 tups:=fun b xs q=>by rw [zv (zy q hn)];exact q
 frzs:=fun b u xs q=>by rw [zv (zy q hn)];exact q
 tbls:=fun b ps q=>⟨#[],by rw [zv (zy q hn),q];simp⟩
theorem Un.write (mu:Mut (H x)) (he:e=x∨H e=some (.own x)) (k:∀b u,b≠e→h.get? b=some u→h'.get? b=some u) (heo:∃u,h'.get? e=some u):Un fs ex H (upd H x o) h h':=by
 have hx:∀b,H b=none→b≠x:=fun b n z=>by subst z;rw [n] at mu;exact mu
 have hb:∀b,H b=none→b≠e:=fun b n z=>by
  subst z
  rcases he with r | r
  ·exact hx b n r
  ·rw [n] at r;cases r
 have hm:∀b u,H b=some u→¬ Mut (some u)→b≠x:=fun b u q nm z=>by subst z;rw [q] at mu;exact nm mu
 refine ⟨fun b u q n _ _=>k b u (hb b n) q,fun b u q n _ _=>⟨u.slots,k b u (hb b n) q⟩,fun b u q n _=>by rw [zv (hx b n)];exact n,fun b u q _=>?_,
  fun b xs q=>by rw [zv (hm b _ q fun z=>z)];exact q,fun b u xs q=>by rw [zv (hm b _ q fun z=>z)];exact q,fun b ps q=>⟨#[],by rw [zv (hm b _ q fun z=>z),q];simp⟩⟩
 by_cases hbe:b=e
 ·subst hbe;exact heo
 ·exact ⟨u,k b u hbe q⟩
end
noncomputable def trk (h:Heap) (H:Hp):List Addr:=(List.range h.objs.size).filter fun a=>(H a).isSome
noncomputable def zoM (h:Heap) (H:Hp):Heap:=PySem.W.hideAll h (trk h H)
theorem znq (h:Heap) (H:Hp):(zoM h H).objs.size=h.objs.size:=PySem.W.hideAll_size _ _
theorem zoL {h:Heap} {H:Hp} {b:Addr} {o:Obj} (e:h.get? b=some o) (n:H b=none):(zoM h H).get? b=some o:=
 PySem.W.hideAll_get _ e fun hm=>by
  have q:(H b).isSome=true:=(List.mem_filter.mp hm).2
  rw [n] at q;simp at q
theorem zpL {h:Heap} {H:Hp} {b:Addr} {o:Obj} (e:(zoM h H).get? b=some o):h.get? b=some o∧H b=none:=by
 have e':h.get? b=some o:=PySem.W.of_hideAll (trk h H) e
 refine ⟨e',?_⟩
 cases q:H b with
 | none=>rfl
 | some x=>
  have hm:b ∈ trk h H:=List.mem_filter.mpr ⟨List.mem_range.mpr (Heap.lt_size e'),by simp [q]⟩
  have z:(zoM h H).get? b=none:=PySem.W.hideAll_none (trk h H) hm
  rw [z] at e;cases e
end L2
namespace L2
open PySem PySem.Spec PyProof.Rows
structure Mod (K:PySem.W.Frag) (mg:Str→Option Value) (base:Heap):Prop where
 kin:K.In base
 glob:base.Ns mainGlobals mg
 blt:∃mb,base.Ns builtinsNs mb∧∀x:Str,x≠"__name__"→mb x=bootBuiltins x
 nolimit:base.NoLimit
structure Cx where
 prog:Program
 w:World
 K:PySem.W.Frag
 mg:Str→Option Value
 base:Heap
 A:Around
 N:List Str
 s₀:Shared
 H₀:Hp
 env:Env
 outer:List Env
 stack:List Env
 ex:List Addr
 fn:Str→Bool
 calm:Bool
 pn:List (Addr × Obj)
 xe:Value→Shared→Prop
noncomputable def frs (l:List Env):List Addr:=l.filterMap (·.frame)
noncomputable abbrev Cx.fs (X:Cx):List Addr:=frs X.outer
noncomputable def Vis (sc:Scope) (x:Str):Prop:=sc.names.lookup x=some .local∨sc.names.lookup x=some .cell∨sc.names.lookup x=some .free
noncomputable def Loc (sc:Scope) (x:Str):Prop:=sc.names.lookup x=some .local∨sc.names.lookup x=some .cell
noncomputable def zs3 (env:Env) (h:Heap) (m:Str→Option Value) (x:Str) (u:Value):Prop:=
 (env.kindOf x=some .local∧m x=some u)∨((env.kindOf x=some .cell∨env.kindOf x=some .free)∧∃c,env.cells.lookup x=some c∧h.IsCell c (some u))
structure Cx.Ok (X:Cx):Prop where
 mod:Mod X.K X.mg X.base
 kind:X.env.scope.kind=.function
 glob:X.env.globals=mainGlobals
 blt:X.env.builtins=builtinsNs
 above:X.s₀.heap.objs.size≤X.env.locals
 inj:∀x y c,X.env.cells.lookup x=some c→X.env.cells.lookup y=some c→x=y
 has:∀x,(X.env.kindOf x=some .cell∨X.env.kindOf x=some .free)→∃c,X.env.cells.lookup x=some c
 cab:∀x c,X.fn x=true→X.env.cells.lookup x=some c→X.s₀.heap.objs.size≤c
 hd:X.calm=true→X.A.handled=none
 frames:X.A.frames=some X.stack
 stk:X.stack=X.outer∨(X.stack=X.env::X.outer∧X.env.frame=some X.env.locals)
 exf:∀b ∈ X.ex,b≠X.env.locals∧∀x c,X.env.cells.lookup x=some c→c≠b
 bs:∀b o,X.base.get? b=some o→X.s₀.heap.get? b=some o∧X.H₀ b=none
 bsz:X.base.objs.size≤X.s₀.heap.objs.size
 noex:∀b o,X.base.get? b=some o→b ∉ X.ex
 exfs:∀b ∈ X.ex,b ∉ X.fs
 funs:X.s₀.heap.FunFrames X.base X.outer
 frf:∀b ∈ X.fs,X.H₀ b=none
structure Inv (X:Cx) (pins:List (Addr × Obj)) (σ:List (Option V)) (H:Hp) (s:Shared):Prop where
 ok:X.Ok
 os:s.os=X.s₀.os
 bare:AllBare s.gens
 base:Un X.fs X.ex X.H₀ H X.s₀.heap s.heap
 loc:∃m,s.heap.Ns X.env.locals m∧∀(i:Nat) (x:Str) (v:V),X.N[i]?=some x→σ[i]?=some (some v)→Vis X.env.scope x→∃u,Yz v u∧zs3 X.env s.heap m x u
 cell:∀x c,X.env.cells.lookup x=some c→∃v,s.heap.IsCell c v
 free:H X.env.locals=none
 freeC:∀x c,X.env.cells.lookup x=some c→H c=none
 pin:∀p ∈ X.pn++pins,s.heap.get? p.1=some p.2∧H p.1=none∧p.1≠X.env.locals∧p.1 ∉ X.fs∧∀v,p.2.data≠.cell v
 hok:HOk X.prog X.w H s.heap
 len:σ.length=X.N.length
section
variable {X:Cx} {pins:List (Addr × Obj)} {σ:List (Option V)} {H H':Hp} {s:Shared} {h':Heap}
theorem Cx.Ok.nofr (ok:X.Ok) {b:Addr} {o:Obj} (e:X.base.get? b=some o):b ∉ X.fs:=fun hb=>by
 have:=(ok.funs.mem hb).1
 rw [e] at this;cases this
theorem Inv.bs (I:Inv X pins σ H s):∀b o,X.base.get? b=some o→s.heap.get? b=some o∧H b=none:=fun b o e=>
 ⟨I.base.keep b o (I.ok.bs b o e).1 (I.ok.bs b o e).2 (I.ok.nofr e) (I.ok.noex b o e),I.base.free b o (I.ok.bs b o e).1 (I.ok.bs b o e).2 (I.ok.noex b o e)⟩
theorem Inv.bk (I:Inv X pins σ H s):∀b o,X.base.get? b=some o→s.heap.get? b=some o:=fun b o e=>(I.bs b o e).1
theorem Inv.mod (I:Inv X pins σ H s):Mod X.K X.mg X.base:=I.ok.mod
theorem Inv.kIn (I:Inv X pins σ H s):X.K.In s.heap:=I.ok.mod.kin.keeps I.bk
theorem Inv.lt (I:Inv X pins σ H s):X.env.locals < s.heap.objs.size:=let ⟨_,hn,_⟩:=I.loc;hn.lt
theorem Inv.sz (I:Inv X pins σ H s):X.s₀.heap.objs.size≤s.heap.objs.size:=Nat.le_trans I.ok.above (Nat.le_of_lt I.lt)
theorem Inv.nofs (I:Inv X pins σ H s) {a:Addr} (h:s.heap.objs.size≤a):a ∉ X.fs:=fun hb=>by
 obtain ⟨_,o,ho,_⟩:=I.ok.funs.mem hb
 exact absurd (Nat.lt_of_lt_of_le (Heap.lt_size ho) (Nat.le_trans I.sz h)) (Nat.lt_irrefl _)
theorem Inv.cne (I:Inv X pins σ H s):∀x c,X.env.cells.lookup x=some c→c≠X.env.locals:=fun x c e z=>by
 obtain ⟨v,o,ho,hd⟩:=I.cell x c e
 obtain ⟨m,⟨o',es,ep,ho',hd',_⟩,_⟩:=I.loc
 rw [z,ho'] at ho;cases ho;rw [hd'] at hd;cases hd
theorem Inv.funs (I:Inv X pins σ H s):s.heap.FunFrames X.base X.outer:=by
 have all:∀(l:List Env),(∀b ∈ frs l,b ∈ X.fs)→X.s₀.heap.FunFrames X.base l→s.heap.FunFrames X.base l:=by
  intro l
  induction l with
  | nil=>intro _ _;trivial
  | cons env r ih=>
   intro hs hl
   obtain ⟨hk,⟨L,o,hf,hn,ho,hd⟩,hr⟩:=hl
   have hL:L ∈ X.fs:=hs L (by unfold frs;rw [List.filterMap_cons,hf];exact List.mem_cons_self)
   obtain ⟨sl,e⟩:=I.base.slot L o ho (I.ok.frf L hL) hL fun z=>I.ok.exfs L z hL
   exact ⟨hk,⟨L,_,hf,hn,e,hd⟩,ih (fun b hb=>hs b (by unfold frs;rw [List.filterMap_cons,hf];exact List.mem_cons_of_mem _ hb)) hr⟩
 exact all X.outer (fun _ hb=>hb) I.ok.funs
theorem Inv.stack (I:Inv X pins σ H s):s.heap.FunFrames X.base X.stack:=by
 rcases I.ok.stk with e | ⟨e,hf⟩
 ·rw [e];exact I.funs
 ·rw [e]
  obtain ⟨m,hn,_⟩:=I.loc
  refine .cons (by rw [I.ok.kind];decide) hf hn ?_ I.funs
  exact Heap.get?_none_of_le (Nat.le_trans I.ok.bsz I.ok.above)
theorem Inv.stkSub (I:Inv X pins σ H s):∀b ∈ frs X.stack,b ∈ X.env.locals::X.fs:=fun b hb=>by
 rcases I.ok.stk with e | ⟨e,hf⟩
 ·rw [e] at hb;exact List.mem_cons_of_mem _ hb
 ·rw [e] at hb
  unfold frs at hb
  rw [List.filterMap_cons,hf] at hb
  exact hb
theorem Inv.stkFree (I:Inv X pins σ H s):∀b ∈ frs X.stack,H b=none:=fun b hb=>by
 rcases List.mem_cons.mp (I.stkSub b hb) with e | hb
 ·rw [e];exact I.free
 ·obtain ⟨_,o,ho,_⟩:=I.ok.funs.mem hb
  exact I.base.free b o ho (I.ok.frf b hb) fun z=>I.ok.exfs b z hb
theorem Inv.step {g':Array GenState} {t':Nat} {d':Drawn} {ch:List Addr} (I:Inv X pins σ H s)
  (hch:∀b ∈ ch,(b ∈ X.ex∨X.s₀.heap.objs.size≤b)∧b≠X.env.locals∧(∀x c,X.env.cells.lookup x=some c→c≠b)∧∀p ∈ X.pn++pins,p.1≠b)
  (keep:∀b o,b≠X.env.locals→b ∉ X.fs→b ∉ ch→s.heap.get? b=some o→H b=none→h'.get? b=some o)
  (slot:∀b o,b≠X.env.locals→b ∈ X.fs→b ∉ ch→s.heap.get? b=some o→H b=none→∃sl,h'.get? b=some {o with slots:=sl}) (free:∀b o,b ∉ ch→s.heap.get? b=some o→H b=none→H' b=none)
  (there:∀b o,b ∉ ch→s.heap.get? b=some o→∃o',h'.get? b=some o')
  (tups:∀b xs,H b=some (.tup xs)→H' b=some (.tup xs)) (frzs:∀b o u,H b=some (.frz o u)→H' b=some (.frz o u)) (tbls:∀b ps,H b=some (.tbl ps)→∃more,H' b=some (.tbl (ps++more)))
  (ns:∀m,s.heap.Ns X.env.locals m→h'.Ns X.env.locals m) (hok:HOk X.prog X.w H' h') (hg:AllBare g'):
  Inv X pins σ H' {s with heap:=h',gens:=g',drawn:=d',toks:=t'}:=by
 have neL:∀b o,X.s₀.heap.get? b=some o→b≠X.env.locals:=fun b o e=>Nat.ne_of_lt (Nat.lt_of_lt_of_le (Heap.lt_size e) I.ok.above)
 have neC:∀b o,X.s₀.heap.get? b=some o→b ∉ X.ex→b ∉ ch:=fun b o e hx hb=>by
  rcases (hch b hb).1 with z | z
  ·exact hx z
  ·exact absurd (Nat.lt_of_lt_of_le (Heap.lt_size e) z) (Nat.lt_irrefl _)
 have cellK:∀x c,X.env.cells.lookup x=some c→∀v,s.heap.IsCell c v→h'.IsCell c v:=fun x c e v ⟨o,ho,hd⟩=>by
  have nch:c ∉ ch:=fun z=>(hch c z).2.2.1 x c e rfl
  by_cases hc:c ∈ X.fs
  ·obtain ⟨sl,q⟩:=slot c o (I.cne x c e) hc nch ho (I.freeC x c e)
   exact ⟨_,q,hd⟩
  ·exact ⟨o,keep c o (I.cne x c e) hc nch ho (I.freeC x c e),hd⟩
 refine ⟨I.ok,I.os,hg,⟨fun b o e n hb hx=>?_,fun b o e n hb hx=>?_,fun b o e n hx=>?_,fun b o e hx=>?_,fun b xs e=>tups b xs (I.base.tups b xs e),fun b o xs e=>frzs b o xs (I.base.frzs b o xs e),fun b ps e=>?_⟩,?_,fun x c e=>?_,?_,fun x c e=>?_,fun p hp=>?_,hok,I.len⟩
 ·exact keep b o (neL b o e) hb (neC b o e hx) (I.base.keep b o e n hb hx) (I.base.free b o e n hx)
 ·obtain ⟨sl,e1⟩:=I.base.slot b o e n hb hx
  obtain ⟨sl',e2⟩:=slot b _ (neL b o e) hb (neC b o e hx) e1 (I.base.free b o e n hx)
  exact ⟨sl',e2⟩
 ·obtain ⟨o',e1⟩:=I.base.there b o e hx
  exact free b o' (neC b o e hx) e1 (I.base.free b o e n hx)
 ·obtain ⟨o',e1⟩:=I.base.there b o e hx
  exact there b o' (neC b o e hx) e1
 ·obtain ⟨m1,e1⟩:=I.base.tbls b ps e
  obtain ⟨m2,e2⟩:=tbls b _ e1
  exact ⟨m1++m2,by rw [e2,Array.append_assoc]⟩
 ·obtain ⟨m,hn,hl⟩:=I.loc
  refine ⟨m,ns m hn,fun i x v e1 e2 e3=>?_⟩
  obtain ⟨u,r,l⟩:=hl i x v e1 e2 e3
  refine ⟨u,r,?_⟩
  rcases l with l | ⟨k,c,e,z⟩
  ·exact .inl l
  ·exact .inr ⟨k,c,e,cellK x c e _ z⟩
 ·obtain ⟨v,z⟩:=I.cell x c e
  exact ⟨v,cellK x c e v z⟩
 ·obtain ⟨m,⟨o,_,_,ho,_⟩,_⟩:=I.loc
  exact free _ o (fun z=>(hch _ z).2.1 rfl) ho I.free
 ·obtain ⟨v,o,ho,hd⟩:=I.cell x c e
  exact free c o (fun z=>(hch c z).2.2.1 x c e rfl) ho (I.freeC x c e)
 ·obtain ⟨e,n,ne,nf,d⟩:=I.pin p hp
  have nch:p.1 ∉ ch:=fun z=>(hch p.1 z).2.2.2 p hp rfl
  exact ⟨keep p.1 p.2 ne nf nch e n,free p.1 p.2 nch e n,ne,nf,d⟩
theorem Inv.un {t':Nat} (I:Inv X pins σ H s) (u:Un X.fs [] H H' s.heap h') (hok:HOk X.prog X.w H' h'):Inv X pins σ H' {s with heap:=h',toks:=t'}:=by
 obtain ⟨m,⟨o,es,ep,ho,r⟩,_⟩:=id I.loc
 obtain ⟨sl,hL⟩:=u.any ho I.free (by simp)
 exact I.step (g':=s.gens) (d':=s.drawn) (ch:=[]) (fun _ z=>nomatch z) (fun b o _ hb _ e n=>u.keep b o e n hb (by simp)) (fun b o _ hb _ e n=>u.slot b o e n hb (by simp)) (fun b o _ e n=>u.free b o e n (by simp)) (fun b o _ e=>u.there b o e (by simp)) u.tups u.frzs u.tbls (fun m' hm=>by
  obtain ⟨o',es',ep',ho',r'⟩:=hm
  rw [ho] at ho';cases ho'
  exact ⟨_,es',ep',hL,r'⟩) hok I.bare
theorem Inv.call {g':Array GenState} {t':Nat} {d':Drawn} {ch:List Addr} (I:Inv X pins σ H s) (u:Un (frs X.stack) ch H H' s.heap h') (hok:HOk X.prog X.w H' h') (hg:AllBare g')
  (hch:∀b ∈ ch,(b ∈ X.ex∨X.s₀.heap.objs.size≤b)∧b≠X.env.locals∧(∀x c,X.env.cells.lookup x=some c→c≠b)∧∀p ∈ X.pn++pins,p.1≠b):
  Inv X pins σ H' {s with heap:=h',gens:=g',drawn:=d',toks:=t'}:=by
 obtain ⟨m,⟨o,es,ep,ho,r⟩,_⟩:=id I.loc
 obtain ⟨sl,hL⟩:=u.any ho I.free fun z=>(hch _ z).2.1 rfl
 exact I.step (ch:=ch) hch (fun b o hL hb hc e n=>u.keep b o e n (fun z=>(List.mem_cons.mp (I.stkSub b z)).elim hL hb) hc) (fun b o _ _ hc e n=>u.any e n hc) (fun b o hc e n=>u.free b o e n hc) (fun b o hc e=>u.there b o e hc) u.tups u.frzs u.tbls (fun m' hm=>by
  obtain ⟨o',es',ep',ho',r'⟩:=hm
  rw [ho] at ho';cases ho'
  exact ⟨_,es',ep',hL,r'⟩) hok hg
theorem Inv.turned {t':Nat} {it:Addr} (I:Inv X pins σ H s) (k:∀b o,b≠it→s.heap.get? b=some o→h'.get? b=some o) (hn:H it=none) (hL:it≠X.env.locals)
  (h1:it ∈ X.ex∨X.s₀.heap.objs.size≤it) (h2:∀x c,X.env.cells.lookup x=some c→c≠it) (h3:∀p ∈ X.pn++pins,p.1≠it):Inv X pins σ H {s with heap:=h',toks:=t'}:=by
 have nit:∀b u,H b=some u→b≠it:=fun b u e z=>by rw [z,hn] at e;cases e
 refine I.step (g':=s.gens) (d':=s.drawn) (ch:=[it]) (fun b hb=>?_) (fun b o _ _ hc e _=>k b o (fun z=>hc (by simp [z])) e) (fun b o _ _ hc e _=>⟨o.slots,k b o (fun z=>hc (by simp [z])) e⟩) (fun _ _ _ _ n=>n)
  (fun b o hc e=>⟨o,k b o (fun z=>hc (by simp [z])) e⟩) (fun _ _ e=>e) (fun _ _ _ e=>e) (fun b ps e=>⟨#[],by rw [e];simp⟩) (fun m hm=>?_) (fun b u e=>?_) I.bare
 ·have e:b=it:=by simpa using hb
  subst e
  exact ⟨h1,hL,h2,h3⟩
 ·obtain ⟨o,es,ep,ho,r⟩:=hm
  exact ⟨o,es,ep,k _ o (Ne.symm hL) ho,r⟩
 ·refine (I.hok b u e).stay (fun c v hc q=>k c v ?_ q) (fun _ q=>q) fun _ _ q=>q
  rcases hc with z | z
  ·rw [z];exact nit b u e
  ·exact nit c _ z
theorem Inv.tok (I:Inv X pins σ H s) (t:Nat):Inv X pins σ H {s with toks:=t}:=I.un (h':=s.heap) (t':=t) Un.refl I.hok
theorem Inv.kept {t':Nat} (I:Inv X pins σ H s) (k:∀b u,s.heap.get? b=some u→h'.get? b=some u):Inv X pins σ H {s with heap:=h',toks:=t'}:=I.un (Un.kept k) (I.hok.kept k)
theorem Inv.laid {a:Addr} {o:HO} {t':Nat} (I:Inv X pins σ H s) (k:∀b u,s.heap.get? b=some u→h'.get? b=some u) (hp:s.heap.objs.size≤a) (new:za0 X.prog X.w (upd H a o) h' a o):
  Inv X pins σ (upd H a o) {s with heap:=h',toks:=t'}:=I.un (Un.laid k hp (I.hok.fresh hp)) (I.hok.laid k hp new)
theorem Inv.write {x e:Addr} {o:HO} {t':Nat} (I:Inv X pins σ H s) (mu:Mut (H x)) (he:e=x∨H e=some (.own x)) (k:∀b u,b≠e→s.heap.get? b=some u→h'.get? b=some u) (heo:∃u,h'.get? e=some u)
  (new:za0 X.prog X.w (upd H x o) h' x o):Inv X pins σ (upd H x o) {s with heap:=h',toks:=t'}:=I.un (Un.write mu he k heo) (I.hok.write mu he k heo new)
theorem Inv.weak {σ':List (Option V)} (I:Inv X pins σ H s) (hl:σ'.length=σ.length) (w:∀(i:Nat) v,σ'[i]?=some (some v)→σ[i]?=some (some v)):Inv X pins σ' H s:=
 ⟨I.ok,I.os,I.bare,I.base,let ⟨m,hn,hl'⟩:=I.loc;⟨m,hn,fun i x v e1 e2 e3=>hl' i x v e1 (w i v e2) e3⟩,I.cell,I.free,I.freeC,I.pin,I.hok,hl.trans I.len⟩
theorem Inv.pins_of {pins':List (Addr × Obj)} (I:Inv X pins σ H s) (h:∀p ∈ pins',s.heap.get? p.1=some p.2∧H p.1=none∧p.1≠X.env.locals∧p.1 ∉ X.fs∧∀v,p.2.data≠.cell v):Inv X pins' σ H s:=
 ⟨I.ok,I.os,I.bare,I.base,I.loc,I.cell,I.free,I.freeC,fun p hp=>(List.mem_append.mp hp).elim (fun z=>I.pin p (List.mem_append_left _ z)) (h p),I.hok,I.len⟩
theorem zhD {N:List Str} (hN:N.Nodup) {i j:Nat} {x:Str} (a:N[i]?=some x) (b:N[j]?=some x):i=j:=by
 obtain ⟨h1,e1⟩:=List.getElem?_eq_some_iff.mp a
 obtain ⟨h2,e2⟩:=List.getElem?_eq_some_iff.mp b
 exact (List.getElem_inj hN).mp (e1.trans e2.symm)
theorem zir {M:Model} {A:Around} {E:Value→Shared→Prop} {i:Nat} {x:Str} {v:V} {u:Value} {Q:Unit→Shared→Prop} (I:Inv X pins σ H s) (hN:X.N.Nodup) (hi:X.N[i]?=some x) (hx:Loc X.env.scope x) (r:Yz v u)
  (h:∀s',Inv X pins (σ.set i (some v)) H s'→(∃a,Heap.SameBut a s.heap s'.heap∧(a=X.env.locals∨X.env.cells.lookup x=some a))→Q () s') (hf:X.fn x=true∨X.env.scope.names.lookup x=some .local:=by first | exact .inl rfl | exact .inr rfl | assumption):wpAny M A (storeName X.env x u) Q E s:=by
 obtain ⟨m,hn,hl⟩:=id I.loc
 have hcls:(X.env.scope.kind == .class||(X.env.scope.kind == .module&&X.env.locals !=X.env.globals))=false:=by rw [I.ok.kind];rfl
 have hiσ:i < σ.length:=by rw [I.len];exact (List.getElem?_eq_some_iff.mp hi).1
 have cne:=I.cne
 have tracked:∀{a:Addr} {h':Heap},(∃o,s.heap.get? a=some o∧H a=none)→Heap.SameBut a s.heap h'→HOk X.prog X.w H h':=fun {a h'} ha hs b ob e=>by
  obtain ⟨_,_,hfree⟩:=ha
  refine (I.hok b ob e).stay (fun c w' hc q=>(hs.2 c ?_).trans q) (fun _ q=>q) fun _ _ q=>q
  rintro rfl
  rcases hc with rfl | hc
  ·rw [hfree] at e;cases e
  ·rw [hfree] at hc;cases hc
 rcases hx with hk | hk
 ·refine wpAny_storeName_local hk hn (fun h' hn' hs=>?_) hcls
  obtain ⟨oL,_,_,hoL,_⟩:=id hn
  refine h _ ⟨I.ok,I.os,I.bare,⟨fun b o e n hb hx=>?_,fun b o e n hb hx=>?_,I.base.free,fun b o e hx=>?_,I.base.tups,I.base.frzs,I.base.tbls⟩,⟨_,hn',fun j y v' e1 e2 e3=>?_⟩,fun y c e=>?_,I.free,I.freeC,fun p hp=>?_,tracked ⟨oL,hoL,I.free⟩ hs,by simpa using I.len⟩ ⟨_,hs,.inl rfl⟩
  ·exact (hs.2 b (Nat.ne_of_lt (Nat.lt_of_lt_of_le (Heap.lt_size e) I.ok.above))).trans (I.base.keep b o e n hb hx)
  ·obtain ⟨sl,e1⟩:=I.base.slot b o e n hb hx
   exact ⟨sl,(hs.2 b (Nat.ne_of_lt (Nat.lt_of_lt_of_le (Heap.lt_size e) I.ok.above))).trans e1⟩
  ·obtain ⟨o',e1⟩:=I.base.there b o e hx
   exact ⟨o',(hs.2 b (Nat.ne_of_lt (Nat.lt_of_lt_of_le (Heap.lt_size e) I.ok.above))).trans e1⟩
  ·by_cases hj:j=i
   ·subst hj
    rw [hi] at e1;cases e1
    rw [List.getElem?_set_self hiσ] at e2
    cases e2
    exact ⟨u,r,.inl ⟨hk,by simp⟩⟩
   ·rw [List.getElem?_set_ne (Ne.symm hj)] at e2
    obtain ⟨u',r',q⟩:=hl j y v' e1 e2 e3
    refine ⟨u',r',?_⟩
    rcases q with ⟨k,e⟩ | ⟨k,c,e,z⟩
    ·refine .inl ⟨k,?_⟩
     have:y≠x:=fun e=>hj (zhD hN e1 (e ▸ hi))
     simp [this,e]
    ·exact .inr ⟨k,c,e,z.sameBut hs (cne y c e)⟩
  ·obtain ⟨w',z⟩:=I.cell y c e
   exact ⟨w',z.sameBut hs (cne y c e)⟩
  ·obtain ⟨e,n,ne,nf,d⟩:=I.pin p hp
   exact ⟨(hs.2 p.1 ne).trans e,n,ne,nf,d⟩
 ·have hfn:X.fn x=true:=by
   rcases hf with z | z
   ·exact z
   ·rw [z] at hk;cases hk
  obtain ⟨c,hc⟩:=I.ok.has x (.inl hk)
  obtain ⟨w',z⟩:=I.cell x c hc
  refine wpAny_storeName_cell I.ok.kind hk hc z (fun h' hc' hs=>?_)
  obtain ⟨oc,hoc,hocd⟩:=id z
  refine h {s with heap:=h'} ⟨I.ok,I.os,I.bare,⟨fun b o e n hb hx=>?_,fun b o e n hb hx=>?_,I.base.free,fun b o e hx=>?_,I.base.tups,I.base.frzs,I.base.tbls⟩,⟨m,hn.sameBut hs (Ne.symm (cne x c hc)),fun j y v' e1 e2 e3=>?_⟩,fun y c' e=>?_,I.free,I.freeC,fun p hp=>?_,tracked ⟨oc,hoc,I.freeC x c hc⟩ hs,by simpa using I.len⟩ ⟨c,hs,.inr hc⟩
  ·exact (hs.2 b (Nat.ne_of_lt (Nat.lt_of_lt_of_le (Heap.lt_size e) (I.ok.cab x c hfn hc)))).trans (I.base.keep b o e n hb hx)
  ·obtain ⟨sl,e1⟩:=I.base.slot b o e n hb hx
   exact ⟨sl,(hs.2 b (Nat.ne_of_lt (Nat.lt_of_lt_of_le (Heap.lt_size e) (I.ok.cab x c hfn hc)))).trans e1⟩
  ·obtain ⟨o',e1⟩:=I.base.there b o e hx
   exact ⟨o',(hs.2 b (Nat.ne_of_lt (Nat.lt_of_lt_of_le (Heap.lt_size e) (I.ok.cab x c hfn hc)))).trans e1⟩
  ·by_cases hj:j=i
   ·subst hj
    rw [hi] at e1;cases e1
    rw [List.getElem?_set_self hiσ] at e2
    cases e2
    exact ⟨u,r,.inr ⟨.inl hk,c,hc,hc'⟩⟩
   ·rw [List.getElem?_set_ne (Ne.symm hj)] at e2
    obtain ⟨u',r',q⟩:=hl j y v' e1 e2 e3
    refine ⟨u',r',?_⟩
    rcases q with q | ⟨k,c',e,z'⟩
    ·exact .inl q
    ·refine .inr ⟨k,c',e,z'.sameBut hs ?_⟩
     rintro rfl
     exact hj (zhD hN e1 (I.ok.inj _ _ _ e hc ▸ hi))
  ·by_cases hcc:c'=c
   ·subst hcc;exact ⟨_,hc'⟩
   ·obtain ⟨w2,z2⟩:=I.cell y c' e
    exact ⟨w2,z2.sameBut hs hcc⟩
  ·obtain ⟨e,n,ne,nf,d⟩:=I.pin p hp
   refine ⟨(hs.2 p.1 ?_).trans e,n,ne,nf,d⟩
   intro q
   rw [q,hoc] at e
   have q':oc=p.2:=Option.some.inj e
   exact d w' (by rw [← q'];exact hocd)
theorem zkP {M:Model} {A:Around} {E:Value→Shared→Prop} {i:Nat} {x:Str} {v:V} {u:Value} {Q:Unit→Shared→Prop} (I:Inv X pins σ H s) (hN:X.N.Nodup) (hi:X.N[i]?=some x) (hx:Loc X.env.scope x) (r:Yz v u)
  (h:∀s',Inv X pins (σ.set i (some v)) H s'→Q () s') (hf:X.fn x=true∨X.env.scope.names.lookup x=some .local:=by first | exact .inl rfl | exact .inr rfl | assumption):wpAny M A (storeName X.env x u) Q E s:=
 zir I hN hi hx r (fun s' I' _=>h s' I') hf
theorem Inv.call' {s':Shared} {ch:List Addr} (I:Inv X pins σ H s) (ho:s'.os=s.os) (u:Un (frs X.stack) ch H H' s.heap s'.heap) (hok:HOk X.prog X.w H' s'.heap) (hg:AllBare s'.gens)
  (hch:∀b ∈ ch,(b ∈ X.ex∨X.s₀.heap.objs.size≤b)∧b≠X.env.locals∧(∀x c,X.env.cells.lookup x=some c→c≠b)∧∀p ∈ X.pn++pins,p.1≠b):Inv X pins σ H' s':=by
 obtain ⟨h',g',d',t',o'⟩:=s'
 have e:o'=s.os:=ho
 subst e
 exact I.call (g':=g') (t':=t') (d':=d') u hok hg hch
end
noncomputable abbrev XK:=Value→Option Addr→Hp→Prop
noncomputable abbrev St:=List (Option V)
noncomputable abbrev VK:=V→Hp→Prop
noncomputable abbrev TE:=St→Hp→VK→Prop
noncomputable abbrev TT:=St→Hp→(Bool→Hp→Prop)→Prop
noncomputable abbrev TA:=St→Hp→(List V→Hp→Prop)→Prop
structure zk9 where
 nx:St→Hp→Prop
 rt:VK
 bk:St→Hp→Prop:=fun _ _=>False
 ct:St→Hp→Prop:=fun _ _=>False
noncomputable abbrev TS:=zk9→St→Hp→Prop
noncomputable def EP (X:Cx) (pins:List (Addr × Obj)) (σ:St) (Q:VK) (u:Value) (s':Shared):Prop:=∃v H',Inv X pins σ H' s'∧Yz v u∧Q v H'
noncomputable def TP (X:Cx) (pins:List (Addr × Obj)) (σ:St) (Q:Bool→Hp→Prop) (b:Bool) (s':Shared):Prop:=∃H',Inv X pins σ H' s'∧Q b H'
noncomputable def AP (X:Cx) (pins:List (Addr × Obj)) (σ:St) (Q:List V→Hp→Prop) (us:List Value) (s':Shared):Prop:=∃vs H',Inv X pins σ H' s'∧yU vs us∧Q vs H'
noncomputable def SP (X:Cx) (pins:List (Addr × Obj)) (D:zk9) (f:Flow) (s':Shared):Prop:=
 match f with
 | .next=>∃σ' H',Inv X pins σ' H' s'∧D.nx σ' H'
 | .brk=>∃σ' H',Inv X pins σ' H' s'∧D.bk σ' H'
 | .cont=>∃σ' H',Inv X pins σ' H' s'∧D.ct σ' H'
 | .ret u=>∃v σ' H',Inv X pins σ' H' s'∧Yz v u∧D.rt v H'
noncomputable def PE (X:Cx) (e:Expr) (t:TE):Prop:=
 ∀(pins:List (Addr × Obj)) (s:Shared) (σ:St) (H:Hp) (Q:VK),Inv X pins σ H s→t σ H Q→wpAny (model X.prog X.w) X.A (eval e X.env) (EP X pins σ Q) X.xe s
noncomputable def PT (X:Cx) (e:Expr) (t:TT):Prop:=
 ∀(pins:List (Addr × Obj)) (s:Shared) (σ:St) (H:Hp) (Q:Bool→Hp→Prop),Inv X pins σ H s→t σ H Q→wpAny (model X.prog X.w) X.A (isTrue e X.env (eval e X.env)) (TP X pins σ Q) X.xe s
noncomputable def PW (X:Cx) (e:Expr) (t:TT):Prop:=
 ∀(whole:Sem Value) (pins:List (Addr × Obj)) (s:Shared) (σ:St) (H:Hp) (Q:Bool→Hp→Prop),Inv X pins σ H s→t σ H Q→wpAny (model X.prog X.w) X.A (isTrue e X.env whole) (TP X pins σ Q) X.xe s
theorem PW.pt {X:Cx} {e:Expr} {t:TT} (h:PW X e t):PT X e t:=h _
noncomputable def PA (X:Cx) (es:List Expr) (t:TA):Prop:=
 ∀(pos:Pos) (pins:List (Addr × Obj)) (s:Shared) (σ:St) (H:Hp) (Q:List V→Hp→Prop),Inv X pins σ H s→t σ H Q→wpAny (model X.prog X.w) X.A (spliced (backTo pos (starEach es X.env))) (AP X pins σ Q) X.xe s
noncomputable def PS (X:Cx) (st:Stmt) (t:TS):Prop:=
 ∀(pins:List (Addr × Obj)) (s:Shared) (σ:St) (H:Hp) (D:zk9),Inv X pins σ H s→t D σ H→wpAny (model X.prog X.w) X.A (exec st X.env) (SP X pins D) X.xe s
noncomputable def PSs (X:Cx) (st:List Stmt) (t:TS):Prop:=
 ∀(pins:List (Addr × Obj)) (s:Shared) (σ:St) (H:Hp) (D:zk9),Inv X pins σ H s→t D σ H→wpAny (model X.prog X.w) X.A (execs st X.env) (SP X pins D) X.xe s
theorem thn {α:Type} {t:Sem α} {Q Q':α→Shared→Prop} {M:Model} {A:Around} {E:Value→Shared→Prop} {s:Shared} (h:wpAny M A t Q E s) (hQ:∀a s,Q a s→Q' a s):wpAny M A t Q' E s:=wpAny_mono h hQ fun _ _ x=>x
end L2
namespace L2
open PySem PySem.Spec PyProof.Rows
section
variable {X:Cx}
noncomputable def zmv (i:Nat):TE:=fun σ H Q=>∃v,σ[i]?=some (some v)∧Q v H
noncomputable def tC (v:V):TE:=fun _ H Q=>Q v H
theorem zqP {i:Nat} {x:Str} {pos:Pos} (hN:X.N[i]?=some x) (hv:Vis X.env.scope x) (hd:(x == ("__debug__":Str))=false:=by decide) (hcd:(x == ("__classdict__":Str))=false:=by decide):PE X (.Name x pos) (zmv i):=by
 intro pins s σ H Q I h
 obtain ⟨v,e,h⟩:=h
 obtain ⟨m,hn,hl⟩:=I.loc
 obtain ⟨u,r,l⟩:=hl i x v hN e hv
 have fin:EP X pins σ Q u s:=⟨v,H,I,r,h⟩
 rcases l with ⟨hk,hm⟩ | ⟨hk,c,hc,hcell⟩
 ·exact wpAny_Name (wpAny_loadName_local I.ok.kind hk hn hm fin) hd
 ·rcases hk with hk | hk
  ·exact wpAny_Name (wpAny_loadName_cell I.ok.kind hk hc hcell fin) hd
  ·exact wpAny_Name (wpAny_loadName_free I.ok.kind hk hc hcell fin hcd) hd
theorem zu {i j pos}:PE X (.Constant (.int i) j pos) (tC (.int i)):=fun _ _ _ H _ I h=>wpAny_Constant_int ⟨.int i,H,I.tok _,⟨_,rfl⟩,h⟩
theorem zeZ {b j pos}:PE X (.Constant (.bool b) j pos) (tC (.bl b)):=fun _ _ _ H _ I h=>Constant_bool ⟨.bl b,H,I,rfl,h⟩
theorem zY {j pos}:PE X (.Constant .none j pos) (tC .non):=fun _ _ _ H _ I h=>Constant_none ⟨.non,H,I,rfl,h⟩
theorem yt {x j pos}:PE X (.Constant (.str x) j pos) (tC (.str x)):=fun _ _ _ H _ I h=>Calls.Constant_str ⟨.str x,H,I.tok _,⟨_,rfl⟩,h⟩
noncomputable def Gl (X:Cx) (x:Str):Prop:=X.env.kindOf x=some .globalImplicit
theorem zfg {E:Value→Shared→Prop} {pins:List (Addr × Obj)} {s:Shared} {σ:St} {H:Hp} {x:Str} {u:Value} {pos:Pos} {Q:Value→Shared→Prop} (I:Inv X pins σ H s) (hg:Gl X x) (hm:X.mg x=some u) (h:Q u s)
  (hd:(x == ("__debug__":Str))=false:=by decide):wpAny (model X.prog X.w) X.A (eval (.Name x pos) X.env) Q E s:=
 Calls.Name_function_global I.ok.kind hg (Calls.loadGlobal_global (by rw [I.ok.glob];exact I.mod.glob.keeps I.bk) hm h) hd
theorem zgF {E:Value→Shared→Prop} {pins:List (Addr × Obj)} {s:Shared} {σ:St} {H:Hp} {x:Str} {u:Value} {pos:Pos} {Q:Value→Shared→Prop} (I:Inv X pins σ H s) (hg:Gl X x) (hm:X.mg x=none) (hv:bootBuiltins x=some u) (h:Q u s)
  (hn:x≠"__name__":=by decide) (hd:(x == ("__debug__":Str))=false:=by decide):wpAny (model X.prog X.w) X.A (eval (.Name x pos) X.env) Q E s:=by
 obtain ⟨mb,h1,h2⟩:=I.mod.blt
 exact Calls.Name_function_global I.ok.kind hg (Calls.loadGlobal_builtin (by rw [I.ok.glob];exact I.mod.glob.keeps I.bk) hm (by rw [I.ok.blt];exact h1.keeps I.bk) ((h2 x hn).trans hv) h) hd
theorem zpG {x:Str} {v:V} {u:Value} {pos:Pos} (hg:Gl X x) (hm:X.mg x=some u) (r:Yz v u) (hd:(x == ("__debug__":Str))=false:=by decide):PE X (.Name x pos) (tC v):=
 fun _ _ _ H _ I h=>zfg I hg hm ⟨v,H,I,r,h⟩ hd
noncomputable def t2I (ta tb:TE) (k:Int→Int→Hp→Prop):St→Hp→Prop:=fun σ H=>ta σ H fun x H1=>tb σ H1 fun y H2=>∃i j,x=.int i∧y=.int j∧k i j H2
variable {a b:Expr} {ta tb:TE} {pos:Pos}
noncomputable def zqk (p:Int→Int→Bool) (ta tb:TE):TE:=fun σ H Q=>t2I ta tb (fun i j H2=>Q (.bl (p i j)) H2) σ H
noncomputable abbrev tLt:TE→TE→TE:=zqk fun i j=>decide (i < j)
noncomputable abbrev tLe:TE→TE→TE:=zqk fun i j=>decide (i≤j)
noncomputable abbrev tGt:TE→TE→TE:=zqk fun i j=>decide (j < i)
noncomputable abbrev tGe:TE→TE→TE:=zqk fun i j=>decide (j≤i)
noncomputable abbrev zs6:TE→TE→TE:=zqk fun i j=>decide (i=j)
noncomputable abbrev zs5:TE→TE→TE:=zqk fun i j=>!decide (i=j)
noncomputable def tB (t:TE):TT:=fun σ H Q=>t σ H fun x H1=>∃c,x=.bl c∧Q c H1
theorem yi {e:Expr} {t:TE} (h:PE X e t) (he:∀whole,isTrue e X.env whole=(do let v ← whole;standAt e.pos;holding [v] (truthy v)):=by intro _;rfl):PT X e (tB t):=by
 intro pins s σ H Q I hw
 refine isTrue_plain (thn (h pins s σ H _ I hw) fun v s1 ⟨x,H1,I1,r1,q1⟩=>?_) (he _)
 obtain ⟨d,rfl,q⟩:=q1
 cases r1
 exact wpAny_truthy_bool ⟨H1,I1,q⟩
variable {tA tB':TT} {rest:List Expr}
noncomputable def zsK (t u:TT):TT:=fun σ H Q=>t σ H fun c H1=>if c=true then u σ H1 Q else Q false H1
noncomputable def tOr (t u:TT):TT:=fun σ H Q=>t σ H fun c H1=>if c=true then Q true H1 else u σ H1 Q
noncomputable def zsH (t:TT):TT:=fun σ H Q=>t σ H fun c H1=>Q (!c) H1
theorem Q1 (ha:PT X a tA):PW X (.BoolOp .And [a] pos) tA:=by
 intro wh pins s σ H Q I h
 refine isTrue_and (thn (ha pins s σ H Q I h) fun c s1 e=>?_)
 cases c with
 | true=>exact isTrue_and_nil e
 | false=>exact e
theorem Zm (ha:PT X a tA):PW X (.BoolOp .Or [a] pos) tA:=by
 intro wh pins s σ H Q I h
 refine isTrue_or (thn (ha pins s σ H Q I h) fun c s1 e=>?_)
 cases c with
 | false=>exact isTrue_or_nil e
 | true=>exact e
theorem za2 (ha:PT X a tA) (hb:PW X (.BoolOp .And (b::rest) pos) tB'):PW X (.BoolOp .And (a::b::rest) pos) (zsK tA tB'):=by
 intro wh pins s σ H Q I h
 refine isTrue_and (thn (ha pins s σ H _ I h) fun c s1 ⟨H1,I1,q1⟩=>?_)
 cases c with
 | true=>exact hb wh pins s1 σ H1 Q I1 q1
 | false=>exact ⟨H1,I1,q1⟩
theorem Z9 (ha:PT X a tA) (hb:PW X (.BoolOp .Or (b::rest) pos) tB'):PW X (.BoolOp .Or (a::b::rest) pos) (tOr tA tB'):=by
 intro wh pins s σ H Q I h
 refine isTrue_or (thn (ha pins s σ H _ I h) fun c s1 ⟨H1,I1,q1⟩=>?_)
 cases c with
 | true=>exact ⟨H1,I1,q1⟩
 | false=>exact hb wh pins s1 σ H1 Q I1 q1
theorem yT (ha:PT X a tA):PT X (.UnaryOp .Not a pos) (zsH tA):=by
 intro pins s σ H Q I h
 exact isTrue_not (ha pins s σ H (fun c H1=>Q (!c) H1) I h)
noncomputable def zrO (ta tb:TE):TE:=fun σ H Q=>ta σ H fun x H1=>∃c,x=.bl c∧if c=true then tb σ H1 Q else Q (.bl false) H1
noncomputable def zsG (ta tb:TE):TE:=fun σ H Q=>ta σ H fun x H1=>∃c,x=.bl c∧if c=true then Q (.bl true) H1 else tb σ H1 Q
noncomputable def zrK (ta:TE):TE:=fun σ H Q=>ta σ H fun x H1=>∃c,x=.bl c∧Q (.bl (!c)) H1
theorem Zn {op} {t:TE} (h:PE X a t):PE X (.BoolOp op [a] pos) t:=fun pins s σ H Q I hw=>BoolOp_one (h pins s σ H Q I hw)
theorem Yb (ha:PE X a ta) (hb:PE X (.BoolOp .And (b::rest) pos) tb):PE X (.BoolOp .And (a::b::rest) pos) (zrO ta tb):=by
 intro pins s σ H Q I h
 refine BoolOp_and (thn (ha pins s σ H _ I h) fun v s1 ⟨x,H1,I1,r1,q1⟩=>?_)
 obtain ⟨c,rfl,q1⟩:=q1
 cases r1
 refine wpAny_truthy_bool ?_
 cases c with
 | true=>exact hb pins s1 σ H1 Q I1 q1
 | false=>exact ⟨.bl false,H1,I1,rfl,q1⟩
theorem zf3 (ha:PE X a ta) (hb:PE X (.BoolOp .Or (b::rest) pos) tb):PE X (.BoolOp .Or (a::b::rest) pos) (zsG ta tb):=by
 intro pins s σ H Q I h
 refine BoolOp_or (thn (ha pins s σ H _ I h) fun v s1 ⟨x,H1,I1,r1,q1⟩=>?_)
 obtain ⟨c,rfl,q1⟩:=q1
 cases r1
 refine wpAny_truthy_bool ?_
 cases c with
 | false=>exact hb pins s1 σ H1 Q I1 q1
 | true=>exact ⟨.bl true,H1,I1,rfl,q1⟩
theorem zqR (ha:PE X a ta):PE X (.UnaryOp .Not a pos) (zrK ta):=by
 intro pins s σ H Q I h
 refine UnaryOp_ (thn (ha pins s σ H _ I h) fun v s1 ⟨x,H1,I1,r1,q1⟩=>?_)
 obtain ⟨c,rfl,q1⟩:=q1
 cases r1
 exact not_of (wpAny_truthy_bool ⟨.bl (!c),H1,I1,rfl,q1⟩)
noncomputable def tIf (t:TT) (ta tb:TE):TE:=fun σ H Q=>t σ H fun c H1=>if c=true then ta σ H1 Q else tb σ H1 Q
theorem yI {c:Expr} (hc:PT X c tA) (ha:PE X a ta) (hb:PE X b tb):PE X (.IfExp c a b pos) (tIf tA ta tb):=by
 intro pins s σ H Q I h
 refine wpAny_IfExp (thn (hc pins s σ H _ I h) fun d s1 ⟨H1,I1,q1⟩=>?_)
 cases d with
 | true=>exact ha pins s1 σ H1 Q I1 q1
 | false=>exact hb pins s1 σ H1 Q I1 q1
end
end L2
namespace L2
open PySem PySem.Spec PyProof.Rows
noncomputable def SqL (K:PySem.W.Frag) (H:Hp) (a:Addr) (xs:List V):Prop:=
 Rd H a (.lst xs)∨
  ∃(o:Obj) (its:Array Value) (n:Nat),K.lookup a=some o∧o.cls=.type "list"∧o.dict=none∧o.data=.seq its n∧its.size≤sizeLine∧yU xs its.toList
noncomputable def SqT (K:PySem.W.Frag) (H:Hp) (a:Addr) (xs:List V):Prop:=
 Rd H a (.tup xs)∨
  ∃(o:Obj) (its:Array Value) (n:Nat),K.lookup a=some o∧o.cls=.type "tuple"∧o.data=.seq its n∧its.size≤sizeLine∧yU xs its.toList
noncomputable def zs2:Value→Option V
 | .none=>some .non
 | .bool b=>some (.bl b)
 | .int i _=>some (.int i)
 | .str x _=>some (.str x)
 | .bytes b _=>some (.byt b)
 | .float b _=>some (.flt b)
 | .ref a=>some (.ref a)
 | .type n=>some (.ty n)
 | _=>none
theorem Yz.abs {x:V} {u:Value} (r:Yz x u):zs2 u=some x:=by
 cases x with
 | non=>cases r;rfl
 | bl _=>cases r;rfl
 | int _=>obtain ⟨t,rfl⟩:=r;rfl
 | str _=>obtain ⟨t,rfl⟩:=r;rfl
 | byt _=>obtain ⟨t,rfl⟩:=r;rfl
 | flt _=>obtain ⟨t,rfl⟩:=r;rfl
 | ref _=>cases r;rfl
 | ty _=>cases r;rfl
theorem Yz.inj {x y:V} {u:Value} (r:Yz x u) (q:Yz y u):x=y:=Option.some.inj (r.abs.symm.trans q.abs)
theorem yU.inj:∀{xs ys:List V} {us:List Value},yU xs us→yU ys us→xs=ys
 | _,_,_,.nil,.nil=>rfl
 | _,_,_,.cons r t,.cons r' t'=>by rw [r.inj r',yU.inj t t']
section
variable {X:Cx} {pins:List (Addr × Obj)} {σ:St} {H:Hp} {s:Shared} {a:Addr} {xs ys:List V}
theorem SqL.of {K:PySem.W.Frag} (h:H a=some (.lst xs)):SqL K H a xs:=.inl (.inl h)
theorem SqT.of {K:PySem.W.Frag} (h:H a=some (.tup xs)):SqT K H a xs:=.inl (.inl h)
theorem Inv.list (I:Inv X pins σ H s) (h:SqL X.K H a xs):∃its:List Value,yU xs its∧PlainL s.heap a its.toArray∧xs.length≤sizeLine:=by
 rcases h with h | ⟨o,its,n,hk,hc,hd,hs,hz,r⟩
 ·obtain ⟨z,its,n,r,e⟩:=h.ok I.hok
  exact ⟨its,r,⟨_,n,e,rfl,rfl,rfl⟩,z⟩
 ·refine ⟨its.toList,r,⟨o,n,I.kIn a o hk,hc,hd,by simpa using hs⟩,?_⟩
  have e:=r.length
  simp only [Array.length_toList] at e
  omega
theorem Inv.tuple (I:Inv X pins σ H s) (h:SqT X.K H a xs):∃its:List Value,yU xs its∧IsTup s.heap a its.toArray∧xs.length≤sizeLine:=by
 rcases h with h | ⟨o,its,n,hk,hc,hs,hz,r⟩
 ·obtain ⟨z,its,r,p⟩:=h.ok I.hok
  exact ⟨its,r,p,z⟩
 ·refine ⟨its.toList,r,⟨o,I.kIn a o hk,hc,n,by simpa using hs⟩,?_⟩
  have e:=r.length
  simp only [Array.length_toList] at e
  omega
theorem Inv.list_inj (I:Inv X pins σ H s) (h:SqL X.K H a xs) (h':SqL X.K H a ys):xs=ys:=by
 obtain ⟨its,r,⟨o,n,e,_,_,d⟩,_⟩:=I.list h
 obtain ⟨its',r',⟨o',n',e',_,_,d'⟩,_⟩:=I.list h'
 rw [e] at e';cases e'
 rw [d] at d'
 injection d' with d1 _
 have:its=its':=by simpa using congrArg Array.toList d1
 subst this
 exact r.inj r'
theorem Inv.tuple_inj (I:Inv X pins σ H s) (h:SqT X.K H a xs) (h':SqT X.K H a ys):xs=ys:=by
 obtain ⟨its,r,⟨o,e,_,n,d⟩,_⟩:=I.tuple h
 obtain ⟨its',r',⟨o',e',_,n',d'⟩,_⟩:=I.tuple h'
 rw [e] at e';cases e'
 rw [d] at d'
 injection d' with d1 _
 have:its=its':=by simpa using congrArg Array.toList d1
 subst this
 exact r.inj r'
end
noncomputable abbrev Cx.wish (X:Cx) (E:Value→Shared→Prop):Cx:={X with xe:=E}
noncomputable abbrev Cx.nox (X:Cx):Cx:=X.wish fun _ _=>False
theorem Cx.Ok.wish {X:Cx} (ok:X.Ok) (E:Value→Shared→Prop):(X.wish E).Ok:=
 ⟨ok.mod,ok.kind,ok.glob,ok.blt,ok.above,ok.inj,ok.has,ok.cab,ok.hd,ok.frames,ok.stk,ok.exf,ok.bs,ok.bsz,ok.noex,ok.exfs,ok.funs,ok.frf⟩
theorem Cx.Ok.unwish {X:Cx} {E:Value→Shared→Prop} (ok:(X.wish E).Ok):X.Ok:=
 ⟨ok.mod,ok.kind,ok.glob,ok.blt,ok.above,ok.inj,ok.has,ok.cab,ok.hd,ok.frames,ok.stk,ok.exf,ok.bs,ok.bsz,ok.noex,ok.exfs,ok.funs,ok.frf⟩
section
variable {X:Cx} {pins:List (Addr × Obj)} {σ:St} {H:Hp} {s:Shared} {E:Value→Shared→Prop}
theorem Inv.wish (I:Inv X pins σ H s) (E:Value→Shared→Prop):Inv (X.wish E) pins σ H s:=⟨I.ok.wish E,I.os,I.bare,I.base,I.loc,I.cell,I.free,I.freeC,I.pin,I.hok,I.len⟩
theorem Inv.unwish (I:Inv (X.wish E) pins σ H s):Inv X pins σ H s:=⟨I.ok.unwish,I.os,I.bare,I.base,I.loc,I.cell,I.free,I.freeC,I.pin,I.hok,I.len⟩
theorem SP.unwish {D:zk9} {f:Flow} {s':Shared} (h:SP (X.wish E) pins D f s'):SP X pins D f s':=by
 cases f with
 | next=>obtain ⟨σ',H',I,q⟩:=h;exact ⟨σ',H',I.unwish,q⟩
 | brk=>obtain ⟨σ',H',I,q⟩:=h;exact ⟨σ',H',I.unwish,q⟩
 | cont=>obtain ⟨σ',H',I,q⟩:=h;exact ⟨σ',H',I.unwish,q⟩
 | ret u=>obtain ⟨v,σ',H',I,r,q⟩:=h;exact ⟨v,σ',H',I.unwish,r,q⟩
theorem PSs.nox {st:List Stmt} {t:TS} (h:PSs X.nox st t):PSs X st t:=fun pins s σ H D I hw=>
 wpAny_mono (h pins s σ H D (I.wish _) hw) (fun _ _ q=>q.unwish) fun _ _ z=>False.elim z
end
section
variable {X:Cx} {st:Stmt} {rest:List Stmt} {t u:TS} {e:Expr} {te:TE} {pos:Pos}
noncomputable def zqt:TS:=fun D σ H=>D.nx σ H
noncomputable def zsm (t u:TS):TS:=fun D σ H=>t {D with nx:=u D} σ H
theorem zF:PSs X [] zqt:=fun _ _ σ H _ I h=>wpAny_execs_nil ⟨σ,H,I,h⟩
theorem zc (h1:PS X st t) (h2:PSs X rest u):PSs X (st::rest) (zsm t u):=by
 intro pins s σ H D I h
 refine wpAny_execs_cons (thn (h1 pins s σ H {D with nx:=u D} I h) fun f s1 q=>?_)
 cases f with
 | next=>
  obtain ⟨σ',H',I',q⟩:=q
  exact h2 pins s1 σ' H' D I' q
 | ret v=>exact q
 | brk=>exact q
 | cont=>exact q
theorem zg (h1:PS X st t):PSs X [st] t:=by
 intro pins s σ H D I h
 refine wpAny_execs_cons (thn (h1 pins s σ H D I h) fun f s1 q=>?_)
 cases f with
 | next=>exact wpAny_execs_nil q
 | ret v=>exact q
 | brk=>exact q
 | cont=>exact q
theorem Inv.quiet {pins:List (Addr × Obj)} {σ:St} {H:Hp} {s:Shared} (I:Inv X pins σ H s):interactive X.env=false:=by simp [interactive,I.ok.kind]
noncomputable def zrM (te:TE):TS:=fun D σ H=>te σ H fun _ H1=>D.nx σ H1
theorem yx (he:PE X e te) (hs:swapsWith e none pos.line X.env=pure false:=by rfl):PS X (.Expr e pos) (zrM te):=by
 intro pins s σ H D I h
 exact wpAny_Expr_any (thn (he pins s σ H _ I h) fun v s1 ⟨x,H1,I1,r1,q1⟩=>⟨σ,H1,I1,q1⟩) I.quiet hs
noncomputable def zqs (te:TE):TS:=fun D σ H=>te σ H D.rt
theorem zm (he:PE X e te):PS X (.Return (some e) pos) (zqs te):=by
 intro pins s σ H D I h
 exact wpAny_Return_some (thn (he pins s σ H _ I h) fun v s1 ⟨x,H1,I1,r1,q1⟩=>⟨x,σ,H1,I1,r1,q1⟩)
noncomputable def zsI (c:TT) (t u:TS):TS:=fun D σ H=>c σ H fun b H1=>if b=true then t D σ H1 else u D σ H1
theorem z4 {c:Expr} {a b:List Stmt} {tc:TT} (hc:PT X c tc) (ha:PSs X a t) (hb:PSs X b u):PS X (.If c a b pos) (zsI tc t u):=by
 intro pins s σ H D I h
 refine wpAny_If (thn (hc pins s σ H _ I h) fun d s1 ⟨H1,I1,q1⟩=>?_)
 cases d with
 | true=>exact ha pins s1 σ H1 D I1 q1
 | false=>exact hb pins s1 σ H1 D I1 q1
end
noncomputable abbrev TG:=V→St→Hp→(St→Hp→Prop)→Prop
noncomputable abbrev TGs:=List V→St→Hp→(St→Hp→Prop)→Prop
noncomputable def PG (X:Cx) (target:Expr) (t:TG):Prop:=
 ∀(pins:List (Addr × Obj)) (s:Shared) (σ:St) (H:Hp) (v:V) (u:Value) (Q:St→Hp→Prop),Inv X pins σ H s→Yz v u→t v σ H Q→
  wpAny (model X.prog X.w) X.A (assign target X.env u) (fun _ s'=>∃σ' H',Inv X pins σ' H' s'∧Q σ' H') X.xe s
noncomputable abbrev zsc:=V→V→V→Hp→(Hp→Prop)→Prop
noncomputable def zsB (X:Cx) (t:zsc):Prop:=
 ∀(pins:List (Addr × Obj)) (s:Shared) (σ:St) (H:Hp) (o i v:V) (ov iv u:Value) (Q:Hp→Prop),Inv X pins σ H s→Yz o ov→Yz i iv→Yz v u→t o i v H Q→
  wpAny (model X.prog X.w) X.A (setItem ov iv u) (fun _ s'=>∃H',Inv X pins σ H' s'∧Q H') X.xe s
noncomputable abbrev TIp:=V→V→Hp→VK→Prop
section
variable {X:Cx} {pos:Pos}
noncomputable def Jf (i:Nat):TG:=fun v σ H Q=>Q (σ.set i (some v)) H
theorem zX {i:Nat} {x:Str} (hN:X.N.Nodup) (hi:X.N[i]?=some x) (hx:Loc X.env.scope x) (hf:X.fn x=true∨X.env.scope.names.lookup x=some .local:=by first | exact .inl rfl | exact .inr rfl | assumption):PG X (.Name x pos) (Jf i):=by
 intro pins s σ H v u Q I r h
 exact wpAny_assign_Name (zkP I hN hi hx r (fun s' I'=>⟨_,H,I',h⟩) hf)
noncomputable def zsV (to ti:TE) (t:zsc):TG:=fun v σ H Q=>to σ H fun o H1=>ti σ H1 fun i H2=>t o i v H2 fun H3=>Q σ H3
theorem zqN {o i:Expr} {to ti:TE} {t:zsc} (ho:PE X o to) (hi:PE X i ti) (hs:zsB X t)
  (ha:∀v,assign (.Subscript o i pos) X.env v=(do
   let ov ← holding [v] (eval o X.env)
   let iv ← holding [v,ov] (eval i X.env)
   standAt pos
   holding [v,ov,iv] (setItem ov iv v)
   release [v,ov,iv] []):=by intro _;rfl):PG X (.Subscript o i pos) (zsV to ti t):=by
 intro pins s σ H v u Q I r h
 rw [ha]
 refine wpAny_bind (wpAny_holding (thn (ho pins s σ H _ I h) fun ov s1 ⟨x,H1,I1,r1,q1⟩=>?_))
 refine wpAny_bind (wpAny_holding (thn (hi pins s1 σ H1 _ I1 q1) fun iv s2 ⟨y,H2,I2,r2,q2⟩=>?_))
 refine wpAny_bind (wpAny_standAt (wpAny_bind (wpAny_holding (thn (hs pins s2 σ H2 x y v ov iv u _ I2 r1 r2 r q2) fun _ s3 ⟨H3,I3,q3⟩=>?_))))
 exact wpAny_release ⟨σ,H3,I3,q3⟩
noncomputable def zrx (te:TE) (g:TG):TS:=fun D σ H=>te σ H fun x H1=>g x σ H1 D.nx
theorem zqK {tg e:Expr} {te:TE} {g:TG} (he:PE X e te) (hg:PG X tg g) (hs:swapsWithSole [tg] e pos.line X.env=pure false:=by rfl) (hw:swappedStores [tg] e X.env=pure none:=by rfl)
  (h1:(assignEach [tg] X.env).map (·.2)=[assign tg X.env]:=by rfl):PS X (.Assign [tg] e pos) (zrx te g):=by
 intro pins s σ H D I h
 refine wpAny_Assign_stores (thn (he pins s σ H _ I h) fun v s1 ⟨x,H1,I1,r1,q1⟩=>?_) hs hw
 rw [h1]
 exact thn (hg pins s1 σ H1 x v _ I1 r1 q1) fun _ s2 q=>q
theorem zE {i:Nat} {x:Str} {e:Expr} {te:TE} {pos':Pos} (hN:X.N.Nodup) (hi:X.N[i]?=some x) (hx:Loc X.env.scope x) (he:PE X e te) (hs:swapsWith e (some (.Name x pos')) pos.line X.env=pure false:=by rfl) (hf:X.fn x=true∨X.env.scope.names.lookup x=some .local:=by first | exact .inl rfl | exact .inr rfl | assumption):
  PS X (.Assign [.Name x pos'] e pos) (zrx te (Jf i)):=by
 intro pins s σ H D I h
 refine wpAny_Assign_Name (thn (he pins s σ H _ I h) fun v s1 ⟨y,H1,I1,r1,q1⟩=>?_) hs
 exact zkP I1 hN hi hx r1 (fun s2 I2=>⟨_,H1,I2,q1⟩) hf
end
section
variable {X:Cx} {pos:Pos}
noncomputable def zo6 (c:TT) (tb:TS):TS:=fun D σ H=>∃W:Nat→St→Hp→Prop,(∃m,W m σ H)∧∀m σ H,W m σ H→
 c σ H fun b H1=>if b=true then ∃N:St→Hp→Prop,(∀σ' H',N σ' H'→∃m',m' < m∧W m' σ' H')∧tb {D with nx:=N,ct:=N,bk:=D.nx} σ H1 else D.nx σ H1
theorem zca {c:Expr} {body:List Stmt} {tc:TT} {tb:TS} (hp:PassesOwn (model X.prog X.w) X.A X.env X.xe) (hc:PT X c tc) (hb:PSs X body tb):PS X (.While c body [] pos) (zo6 tc tb):=by
 intro pins s σ H D I h
 obtain ⟨W,⟨m0,w0⟩,turn⟩:=h
 refine wpAny_While (codeAny_whileLoop (fun n s'=>∃σ' H',Inv X pins σ' H' s'∧W n σ' H') ?_ m0 ⟨σ,H,I,w0⟩)
 rintro n s1 ⟨σ1,H1,I1,w1⟩
 refine wpAny_passesOwn hp (thn (hc pins s1 σ1 H1 _ I1 (turn n σ1 H1 w1)) fun b s2 ⟨H2,I2,q2⟩=>?_)
 cases b with
 | true=>
  obtain ⟨N,hN,q2⟩:=q2
  rw [if_pos rfl]
  refine wpAny_passesOwn hp (thn (hb pins s2 σ1 H2 _ I2 q2) fun f s3 q3=>?_)
  cases f with
  | next=>
   obtain ⟨σ3,H3,I3,n3⟩:=q3
   obtain ⟨m',hm,w3⟩:=hN σ3 H3 n3
   exact ⟨m',hm,σ3,H3,I3,w3⟩
  | cont=>
   obtain ⟨σ3,H3,I3,n3⟩:=q3
   obtain ⟨m',hm,w3⟩:=hN σ3 H3 n3
   exact ⟨m',hm,σ3,H3,I3,w3⟩
  | brk=>exact q3
  | ret v=>exact q3
 | false=>
  rw [if_neg Bool.false_ne_true]
  exact wpAny_execs_nil ⟨σ1,H2,I2,q2⟩
end
structure It where
 go:Nat→Hp→Prop
 yld:Nat→Hp→V→Hp→Prop
 stop:Nat→Hp→Prop
noncomputable def zn0 (X:Cx) (pins:List (Addr × Obj)) (H:Hp) (b:Addr):Prop:=
 H b=none∧b≠X.env.locals∧b ∉ X.fs∧(b ∈ X.ex∨X.s₀.heap.objs.size≤b)∧(∀x c,X.env.cells.lookup x=some c→c≠b)∧∀p ∈ X.pn++pins,p.1≠b
theorem Inv.fpOk {X:Cx} {pins:List (Addr × Obj)} {σ:St} {H H':Hp} {s:Shared} {b:Addr} (I:Inv X pins σ H s) (hb:s.heap.objs.size≤b) (hn:H' b=none):zn0 X pins H' b:=by
 refine ⟨hn,Nat.ne_of_gt (Nat.lt_of_lt_of_le I.lt hb),I.nofs hb,.inr (Nat.le_trans I.sz hb),fun x c e z=>?_,fun p hp z=>?_⟩
 ·obtain ⟨v,q⟩:=I.cell x c e
  exact absurd (Nat.lt_of_lt_of_le q.lt (by rw [z];exact hb)) (Nat.lt_irrefl _)
 ·exact absurd (Nat.lt_of_lt_of_le (Heap.lt_size (I.pin p hp).1) (by rw [z];exact hb)) (Nat.lt_irrefl _)
structure zqc (P:Program) (w:World) (K:PySem.W.Frag) (tg:Expr) (J:It) (fp:List Addr) (it:Addr) (tn:Nat→Heap→Prop):Prop where
 mem:it ∈ fp
 obj:∀i h,tn i h→∀b ∈ fp,∃o,h.get? b=some o∧∀v,o.data≠.cell v
 keep:∀i h h',tn i h→(∀b ∈ fp,∀o,h.get? b=some o→h'.get? b=some o)→tn i h'
 item:∀(X:Cx),X.prog=P→X.w=w→X.K=K→X.calm=true→∀(i:Nat) (pins:List (Addr × Obj)) (s:Shared) (σ:St) (H:Hp) (E:Value→Shared→Prop),Inv X pins σ H s→(∀b ∈ fp,zn0 X pins H b)→tn i s.heap→J.go i H→
  wpAny (model P w) X.A (pyNext (.ref it)) (fun r s1=>∃u,r=some u∧
   wpAny (model P w) X.A (letOwnedTupleGo tg (.ref it) u) (fun _ s2=>∃x H',Inv X pins σ H' s2∧Yz x u∧J.yld i H x H'∧tn (i + 1) s2.heap∧∀b ∈ fp,H' b=none) E s1) E s
 done:∀(X:Cx),X.prog=P→X.w=w→X.K=K→X.calm=true→∀(i:Nat) (pins:List (Addr × Obj)) (s:Shared) (σ:St) (H:Hp) (E:Value→Shared→Prop),Inv X pins σ H s→(∀b ∈ fp,zn0 X pins H b)→tn i s.heap→J.stop i H→
  wpAny (model P w) X.A (pyNext (.ref it)) (fun r s1=>r=none∧Inv X pins σ H s1) E s
 self:∀(A:Around) (i:Nat) (s:Shared) (Q:Value→Shared→Prop) (E:Value→Shared→Prop),tn i s.heap→Q (.ref it) s→wpAny (model P w) A (pyIter (.ref it)) Q E s
noncomputable abbrev TI:=St→Hp→(It→Hp→Prop)→Prop
noncomputable def PIE (X:Cx) (pins:List (Addr × Obj)) (σ:St) (tg:Expr) (R:It→Hp→Prop) (itv:Value) (s2:Shared):Prop:=
 ∃(it:Addr) (fp:List Addr) (tn:Nat→Heap→Prop) (J:It) (H':Hp),itv=.ref it∧Inv X pins σ H' s2∧zqc X.prog X.w X.K tg J fp it tn∧tn 0 s2.heap∧(∀b ∈ fp,zn0 X pins H' b)∧R J H'
noncomputable def PI (X:Cx) (tg iter:Expr) (wi:TI):Prop:=
 ∀(pins:List (Addr × Obj)) (s:Shared) (σ:St) (H:Hp) (R:It→Hp→Prop),Inv X pins σ H s→wi σ H R→
  wpAny (model X.prog X.w) X.A (eval iter X.env) (fun v s1=>wpAny (model X.prog X.w) X.A (pyIter v) (PIE X pins σ tg R) X.xe s1) X.xe s
theorem znt {M:Model} {A:Around} {E:Value→Shared→Prop} {s:Shared} {tg:Expr} {it:Addr} {u:Value} {o:Obj} {n:String} {vs:Array Value} {Q:Unit→Shared→Prop} (ho:s.heap.get? it=some o) (hc:o.cls=.type n) (hd:o.data=.fields vs)
  (hn:["enumerate","zip","dict_itemiterator","dict_reverseitemiterator","odict_iterator","itertools.zip_longest","itertools.pairwise"].contains n=false) (hQ:Q () s):wpAny M A (letOwnedTupleGo tg (.ref it) u) Q E s:=by
 unfold letOwnedTupleGo
 cases tg <;> first
  | exact wpAny_pure hQ
  | (cases u <;> first
    | exact wpAny_pure hQ
    |(refine wpAny_bind (wpAny_load ho ?_)
      rw [hc,hd]
      show wpAny M A (if (["enumerate","zip","dict_itemiterator","dict_reverseitemiterator","odict_iterator","itertools.zip_longest","itertools.pairwise"].contains n&&vs[0]? == some (rawInt _))=true then _ else _) Q E s
      rw [if_neg (by intro h;rw [hn,Bool.false_and] at h;cases h)]
      exact wpAny_pure hQ))
noncomputable def Itl (K:PySem.W.Frag) (a:Addr):It:=
 ⟨fun i H=>∃xs x,SqL K H a xs∧xs[i]?=some x,fun i H x H'=>H'=H∧∀xs,SqL K H a xs→xs[i]?=some x,fun i H=>∃xs,SqL K H a xs∧xs.length≤i⟩
noncomputable def Itt (K:PySem.W.Frag) (a:Addr):It:=
 ⟨fun i H=>∃xs x,SqT K H a xs∧xs[i]?=some x,fun i H x H'=>H'=H∧∀xs,SqT K H a xs→xs[i]?=some x,fun i H=>∃xs,SqT K H a xs∧xs.length≤i⟩
noncomputable def Itr (lo:Int) (n:Nat):It:=⟨fun i _=>i < n,fun i H x H'=>H'=H∧x=.int (lo + i),fun i _=>n≤i⟩
theorem zmu {P:Program} {w:World} {K:PySem.W.Frag} {tg:Expr} (a it:Addr):zqc P w K tg (Itl K a) [it] it (fun i h=>h.IsListIter it a i) where
 mem:=by simp
 obj:=fun i h st b hb=>by
  have e:b=it:=by simpa using hb
  subst e
  obtain ⟨o,e,c,d⟩:=st
  exact ⟨o,e,fun v z=>by rw [d] at z;cases z⟩
 keep:=fun i h h' st k=>st.at fun o e=>k it (by simp) o e
 item:=by
  intro X hP hw hK hc i pins s σ H E I hf st hg
  subst hP hw hK
  obtain ⟨xs,x,hq,hx⟩:=hg
  obtain ⟨its,rv,p,hz⟩:=I.list hq
  obtain ⟨u,hu,ru⟩:=rv.get hx
  obtain ⟨f0,f1,f2,f3,f4,f5⟩:=hf it (by simp)
  refine wpAny_pyNext_list_item st p.isList (x:=u) (by simpa using hu) fun h' st' sb=>?_
  have I1:Inv X pins σ H {s with heap:=h'}:=I.turned (t':=s.toks) (fun b o hb e=>(sb.2 b hb).trans e) f0 f1 f3 f4 f5
  obtain ⟨o,e,c,d⟩:=id st'
  exact ⟨u,rfl,znt (s:={s with heap:=h'}) e c d (by decide) ⟨x,H,I1,ru,⟨rfl,fun ys hy=>by rw [I.list_inj hy hq];exact hx⟩,st',fun b hb=>(hf b hb).1⟩⟩
 done:=by
  intro X hP hw hK hc i pins s σ H E I hf st hg
  subst hP hw hK
  obtain ⟨xs,hq,hx⟩:=hg
  obtain ⟨its,rv,p,hz⟩:=I.list hq
  obtain ⟨f0,f1,f2,f3,f4,f5⟩:=hf it (by simp)
  have hl:=rv.length
  exact wpAny_pyNext_list_end (I.ok.hd hc) st p.isList (by simp;omega) fun h' eb=>⟨rfl,I.turned (t':=s.toks) (fun b o hb e=>eb b o hb e) f0 f1 f3 f4 f5⟩
 self:=fun _ _ _ _ _ st h=>wpAny_pyIter_listiter st h
theorem zlc {P:Program} {w:World} {K:PySem.W.Frag} {tg:Expr} (a it:Addr):zqc P w K tg (Itt K a) [it] it (fun i h=>h.IsTupleIter it a i) where
 mem:=by simp
 obj:=fun i h st b hb=>by
  have e:b=it:=by simpa using hb
  subst e
  obtain ⟨o,e,c,d⟩:=st
  exact ⟨o,e,fun v z=>by rw [d] at z;cases z⟩
 keep:=fun i h h' st k=>st.at fun o e=>k it (by simp) o e
 item:=by
  intro X hP hw hK hc i pins s σ H E I hf st hg
  subst hP hw hK
  obtain ⟨xs,x,hq,hx⟩:=hg
  obtain ⟨its,rv,p,hz⟩:=I.tuple hq
  obtain ⟨u,hu,ru⟩:=rv.get hx
  obtain ⟨f0,f1,f2,f3,f4,f5⟩:=hf it (by simp)
  refine wpAny_pyNext_tuple_item st (show s.heap.IsTuple a its.toArray from p) (x:=u) (by simpa using hu) fun h' st' sb=>?_
  have I1:Inv X pins σ H {s with heap:=h'}:=I.turned (t':=s.toks) (fun b o hb e=>(sb.2 b hb).trans e) f0 f1 f3 f4 f5
  obtain ⟨o,e,c,d⟩:=id st'
  exact ⟨u,rfl,znt (s:={s with heap:=h'}) e c d (by decide) ⟨x,H,I1,ru,⟨rfl,fun ys hy=>by rw [I.tuple_inj hy hq];exact hx⟩,st',fun b hb=>(hf b hb).1⟩⟩
 done:=by
  intro X hP hw hK hc i pins s σ H E I hf st hg
  subst hP hw hK
  obtain ⟨xs,hq,hx⟩:=hg
  obtain ⟨its,rv,p,hz⟩:=I.tuple hq
  obtain ⟨f0,f1,f2,f3,f4,f5⟩:=hf it (by simp)
  have hl:=rv.length
  exact wpAny_pyNext_tuple_end (I.ok.hd hc) st (show s.heap.IsTuple a its.toArray from p) (by simp;omega) fun h' eb=>⟨rfl,I.turned (t':=s.toks) (fun b o hb e=>eb b o hb e) f0 f1 f3 f4 f5⟩
 self:=fun _ _ _ _ _ st h=>wpAny_pyIter_tupleiter st h
theorem zld {P:Program} {w:World} {K:PySem.W.Frag} {tg:Expr} (it:Addr) (lo:Int) (n:Nat):zqc P w K tg (Itr lo n) [it] it (fun i h=>IsRangeIter h it (lo + (i:Nat) * 1) ((n:Int) - (i:Nat)) 1) where
 mem:=by simp
 obj:=fun i h st b hb=>by
  have e:b=it:=by simpa using hb
  subst e
  exact ⟨_,st,fun v z=>by
   have z':Data.fields _=Data.cell v:=z
   cases z'⟩
 keep:=fun i h h' st k=>k it (by simp) _ st
 item:=by
  intro X hP hw hK hc i pins s σ H E I hf st hg
  subst hP hw hK
  obtain ⟨f0,f1,f2,f3,f4,f5⟩:=hf it (by simp)
  have W:=Walks.range (prog:=X.prog) (w:=X.w) (I.ok.hd hc) it lo 1 n
  refine W.item i s _ _ hg st fun v h' tk hv st' kk=>?_
  obtain ⟨t,rfl⟩:=hv
  have I1:Inv X pins σ H {s with heap:=h',toks:=tk}:=I.turned (fun b o hb e=>kk b o (by simpa using hb) e) f0 f1 f3 f4 f5
  refine ⟨_,rfl,znt (s:={s with heap:=h',toks:=tk}) (n:="range_iterator") st' rfl rfl (by decide) ⟨.int (lo + i),H,I1,⟨t,?_⟩,⟨rfl,rfl⟩,st',fun b hb=>(hf b hb).1⟩⟩
  rw [Int.mul_one]
 done:=by
  intro X hP hw hK hc i pins s σ H E I hf st hg
  subst hP hw hK
  obtain ⟨f0,f1,f2,f3,f4,f5⟩:=hf it (by simp)
  exact wpAny_pyNext_range_end (I.ok.hd hc) st (by have:n≤i:=hg;omega) fun h' eb=>⟨rfl,I.turned (t':=s.toks) (fun b o hb e=>eb b o hb e) f0 f1 f3 f4 f5⟩
 self:=fun _ _ _ _ _ st h=>wpAny_pyIter_rangeiter st h
end L2
namespace L2
open PySem PySem.Spec PyProof.Rows
section
variable {X:Cx} {tg:Expr}
noncomputable def zr4 (K:PySem.W.Frag) (tl:TE):TI:=fun σ H R=>tl σ H fun x H1=>∃a,x=.ref a∧(∃xs,SqT K H1 a xs)∧R (Itt K a) H1
theorem zqL {l:Expr} {tl:TE} (hl:PE X l tl):PI X tg l (zr4 X.K tl):=by
 intro pins s σ H R I h
 refine thn (hl pins s σ H _ I h) fun v s1 ⟨x,H1,I1,r1,q1⟩=>?_
 obtain ⟨a,e,⟨xs,hq⟩,q⟩:=q1
 subst e
 cases r1
 obtain ⟨its,rv,p,hz⟩:=I1.tuple hq
 refine wpAny_pyIter_tuple (show s1.heap.IsTuple a its.toArray from p) ?_
 refine ⟨s1.heap.objs.size,[s1.heap.objs.size],_,_,H1,rfl,I1.kept (t':=s1.toks) fun b o e=>Heap.get?_push_of_some _ e,zlc a _,⟨_,Heap.get?_push_size _ rfl,rfl,rfl⟩,fun b hb=>?_,q⟩
 have e:b=s1.heap.objs.size:=by simpa using hb
 subst e
 exact I1.fpOk (Nat.le_refl _) (I1.hok.fresh (Nat.le_refl _))
theorem zob {pins:List (Addr × Obj)} {σ:St} {H:Hp} {s:Shared} {R:It→Hp→Prop} {E:Value→Shared→Prop} {lo hi:Int} {t u v:Tok} {tk:Nat} (I:Inv X pins σ H s) (h1:-(2 ^ 62)≤lo) (h2:lo < 2 ^ 62) (h3:-(2 ^ 62)≤hi) (h4:hi < 2 ^ 62)
  (q:R (Itr lo (hi - lo).toNat) H):wpAny (model X.prog X.w) X.A (pyIter (.ref s.heap.objs.size)) (PIE X pins σ tg R) E {s with heap:=s.heap.push {cls:=.type "range",data:=.fields #[.int lo t,.int hi u,.int 1 v]},toks:=tk}:=by
 refine wpAny_pyIter_range (IsRange.new ..) (small_one h1 h2 h3 h4) ?_
 have I1:Inv X pins σ H {s with heap:=s.heap.push {cls:=.type "range",data:=.fields #[.int lo t,.int hi u,.int 1 v]},toks:=tk}:=I.kept fun b o e=>Heap.get?_push_of_some _ e
 refine ⟨(s.heap.push {cls:=.type "range",data:=.fields #[.int lo t,.int hi u,.int 1 v]}).objs.size,[(s.heap.push {cls:=.type "range",data:=.fields #[.int lo t,.int hi u,.int 1 v]}).objs.size],_,_,H,rfl,
  I1.kept (t':=tk) fun b o e=>Heap.get?_push_of_some _ e,zld _ lo (hi - lo).toNat,?_,fun b hb=>?_,q⟩
 ·have e1:lo + ((0:Nat):Int) * 1=lo:=by simp
  have e2:(((hi - lo).toNat:Nat):Int) - ((0:Nat):Int)=Builtin.Range.rangeSize lo hi 1:=by rw [rangeSize_one];split <;> omega
  show IsRangeIter _ _ (lo + ((0:Nat):Int) * 1) ((((hi - lo).toNat:Nat):Int) - ((0:Nat):Int)) 1
  rw [e1,e2]
  exact Heap.get?_push_size _ rfl
 ·have e:b=(s.heap.push {cls:=.type "range",data:=.fields #[.int lo t,.int hi u,.int 1 v]}).objs.size:=by simpa using hb
  subst e
  exact I1.fpOk (Nat.le_refl _) (I1.hok.fresh (Nat.le_refl _))
noncomputable def zr5 (ta:TA):TI:=fun σ H R=>ta σ H fun vs H1=>∃j:Int,vs=[.int j]∧-(2 ^ 62)≤j∧j < 2 ^ 62∧R (Itr 0 j.toNat) H1
theorem zmW {a:Expr} {ta:TA} {p pos:Pos} (hg:Gl X "range") (hm:X.mg "range"=none) (ha:PA X [a] ta) (hs:starEach [a] X.env=[(false,eval a X.env)]:=by rfl):PI X tg (.Call (.Name "range" p) [a] [] pos) (zr5 ta):=by
 intro pins s σ H R I h
 refine Call_ (zgF I hg hm boot_range (PyProof.Rows.callWith_type1 (thn (ha pos pins s σ H _ I h) fun us s1 ⟨vs,H1,I1,r1,q1⟩=>?_) hs rfl))
 obtain ⟨j,e,q1,q2,q⟩:=q1
 subst e
 cases r1 with
 | cons r rr=>
  cases rr
  obtain ⟨t,rfl⟩:=r
  exact call_range_1 (zob I1 (by omega) (by omega) q1 q2 (by simpa using q))
noncomputable def zsJ (wi:TI) (g:TG) (tb:TS):TS:=fun D σ H=>wi σ H fun J H1=>∃W:Nat→Nat→St→Hp→Prop,(∃m,W 0 m σ H1)∧∀i m σ H,W i m σ H→
 (J.stop i H∧D.nx σ H)∨(J.go i H∧∃N:St→Hp→Prop,(∀σ' H',N σ' H'→∃m',m' < m∧W (i + 1) m' σ' H')∧∀x H',J.yld i H x H'→g x σ H' fun σ2 H2=>tb {D with nx:=N,ct:=N,bk:=D.nx} σ2 H2)
noncomputable def ziR (fp:List Addr) (h:Heap):List (Addr × Obj):=fp.filterMap fun b=>(h.get? b).map fun o=>(b,o)
theorem zdf {fp:List Addr} {h:Heap} {b:Addr} {o:Obj} (hb:b ∈ fp) (e:h.get? b=some o):(b,o) ∈ ziR fp h:=List.mem_filterMap.mpr ⟨b,hb,by rw [e];rfl⟩
theorem zm9 {fp:List Addr} {h:Heap} {p:Addr × Obj} (hp:p ∈ ziR fp h):p.1 ∈ fp∧h.get? p.1=some p.2:=by
 obtain ⟨b,hb,e⟩:=List.mem_filterMap.mp hp
 cases q:h.get? b with
 | none=>rw [q] at e;cases e
 | some o=>
  rw [q] at e
  have e':(b,o)=p:=Option.some.inj e
  subst e'
  exact ⟨hb,q⟩
theorem Inv.pinned {pins:List (Addr × Obj)} {σ:St} {H:Hp} {s:Shared} {fp:List Addr} (I:Inv X pins σ H s) (hf:∀b ∈ fp,zn0 X pins H b) (ho:∀b ∈ fp,∃o,s.heap.get? b=some o∧∀v,o.data≠.cell v):Inv X (pins++ziR fp s.heap) σ H s:=
 I.pins_of fun p hp=>(List.mem_append.mp hp).elim (fun z=>I.pin p (List.mem_append_right _ z)) fun z=>by
  obtain ⟨hb,e⟩:=zm9 z
  obtain ⟨f0,f1,f2,_⟩:=hf p.1 hb
  obtain ⟨o,e',d⟩:=ho p.1 hb
  rw [e] at e';cases e'
  exact ⟨e,f0,f1,f2,d⟩
theorem Inv.unpinned {pins pl:List (Addr × Obj)} {σ:St} {H:Hp} {s:Shared} (I:Inv X (pins++pl) σ H s):Inv X pins σ H s:=I.pins_of fun p hp=>I.pin p (List.mem_append_right _ (List.mem_append_left _ hp))
theorem JP {iter:Expr} {body:List Stmt} {wi:TI} {g:TG} {tb:TS} {pos:Pos} (hp:PassesOwn (model X.prog X.w) X.A X.env X.xe) (hc:X.calm=true) (hi:PI X tg iter wi) (hg:PG X tg g) (hb:PSs X body tb)
  (hs:∀x,foldedSetIterable iter X.env x=pure x:=by intro _;rfl):PS X (.For tg iter body [] pos) (zsJ wi g tb):=by
 intro pins s σ H D I h
 refine wpAny_For (thn (hi pins s σ H _ I h) fun v s1 h1=>thn h1 fun itv s2 h2=>?_) hs
 obtain ⟨it,fp,tn,J,H2,e,I2,T,st2,f2,W,⟨m0,w0⟩,turn⟩:=h2
 subst e
 have stat:∀{H':Hp},(∀b ∈ fp,H' b=none)→∀b ∈ fp,zn0 X pins H' b:=fun hn b hb=>⟨hn b hb,(f2 b hb).2⟩
 refine codeAny_forLoop_any (fun n s'=>∃i σ' H',Inv X pins σ' H' s'∧tn i s'.heap∧(∀b ∈ fp,H' b=none)∧W i n σ' H') ?_ m0 ⟨0,σ,H2,I2,st2,fun b hb=>(f2 b hb).1,w0⟩
 rintro n s3 ⟨i,σ3,H3,I3,st3,fr3,w3⟩
 rcases turn i n σ3 H3 w3 with ⟨stop,qn⟩ | ⟨go,N,hN,step⟩
 ·refine wpAny_passesOwn hp (thn (T.done X rfl rfl rfl hc i pins s3 σ3 H3 X.xe I3 (stat fr3) st3 stop) fun r s4 ⟨hr,I4⟩=>?_)
  subst hr
  exact wpAny_execs_nil ⟨σ3,H3,I4,qn⟩
 ·refine wpAny_passesOwn hp (thn (T.item X rfl rfl rfl hc i pins s3 σ3 H3 X.xe I3 (stat fr3) st3 go) fun r s4 ⟨u,hr,h4⟩=>?_)
  subst hr
  refine wpAny_passesOwn hp (thn h4 fun _ s5 ⟨x,H5,I5,r5,y5,st5,fr5⟩=>?_)
  have I5':=I5.pinned (stat fr5) (T.obj _ _ st5)
  refine wpAny_passesOwn hp (thn (hg _ s5 σ3 H5 x u _ I5' r5 (step x H5 y5)) fun _ s6 ⟨σ6,H6,I6,q6⟩=>?_)
  refine wpAny_passesOwn hp (thn (hb _ s6 σ6 H6 _ I6 q6) fun f s7 q7=>?_)
  have again:∀{σ7:St} {H7:Hp},Inv X (pins++ziR fp s5.heap) σ7 H7 s7→N σ7 H7→∃m,m < n∧∃i σ' H',Inv X pins σ' H' s7∧tn i s7.heap∧(∀b ∈ fp,H' b=none)∧W i m σ' H':=fun {σ7 H7} I7 n7=>by
   obtain ⟨m',hm,w7⟩:=hN σ7 H7 n7
   refine ⟨m',hm,i + 1,σ7,H7,I7.unpinned,T.keep _ _ _ st5 fun b hb o e=>(I7.pin (b,o) (List.mem_append_right _ (List.mem_append_right _ (zdf hb e)))).1,fun b hb=>?_,w7⟩
   obtain ⟨o,e,d⟩:=T.obj _ _ st5 b hb
   exact (I7.pin (b,o) (List.mem_append_right _ (List.mem_append_right _ (zdf hb e)))).2.1
  cases f with
  | next=>obtain ⟨σ7,H7,I7,n7⟩:=q7;exact again I7 n7
  | cont=>obtain ⟨σ7,H7,I7,n7⟩:=q7;exact again I7 n7
  | brk=>obtain ⟨σ7,H7,I7,q7⟩:=q7;exact ⟨σ7,H7,I7.unpinned,q7⟩
  | ret v=>obtain ⟨x7,σ7,H7,I7,r7,q7⟩:=q7;exact ⟨x7,σ7,H7,I7.unpinned,r7,q7⟩
end
theorem Yy {K:PySem.W.Frag} {a:Addr} {xs:List V} {g:TG} {tb:TS} {D:zk9} {σ:St} {H:Hp} (Pv:Nat→St→Hp→Prop) (h0:Pv 0 σ H) (hl:∀i σ H,i≤xs.length→Pv i σ H→SqL K H a xs)
  (hs:∀i x σ H,xs[i]?=some x→Pv i σ H→g x σ H fun σ2 H2=>tb {D with nx:=Pv (i + 1),ct:=Pv (i + 1),bk:=D.nx} σ2 H2) (hd:∀σ H,Pv xs.length σ H→D.nx σ H):
  ∃W:Nat→Nat→St→Hp→Prop,(∃m,W 0 m σ H)∧∀i m σ H,W i m σ H→
   ((Itl K a).stop i H∧D.nx σ H)∨((Itl K a).go i H∧∃N:St→Hp→Prop,(∀σ' H',N σ' H'→∃m',m' < m∧W (i + 1) m' σ' H')∧∀x H',(Itl K a).yld i H x H'→g x σ H' fun σ2 H2=>tb {D with nx:=N,ct:=N,bk:=D.nx} σ2 H2):=by
 refine ⟨fun i m σ H=>m=xs.length - i∧i≤xs.length∧Pv i σ H,⟨xs.length,by simp,Nat.zero_le _,h0⟩,?_⟩
 rintro i m σ H ⟨rfl,hi,p⟩
 have q:=hl i σ H hi p
 by_cases hlt:i < xs.length
 ·refine .inr ⟨⟨xs,xs[i],q,by simp [hlt]⟩,Pv (i + 1),fun σ' H' p'=>⟨xs.length - (i + 1),by omega,rfl,hlt,p'⟩,fun x H' y=>?_⟩
  obtain ⟨e,y⟩:=y
  subst e
  exact hs i x σ _ (y xs q) p
 ·have e:i=xs.length:=by omega
  subst e
  exact .inl ⟨⟨xs,q,Nat.le_refl _⟩,hd σ H p⟩
theorem zpZ {K:PySem.W.Frag} {a:Addr} {xs:List V} {g:TG} {tb:TS} {D:zk9} {σ:St} {H:Hp} (Pv:Nat→St→Hp→Prop) (h0:Pv 0 σ H) (hl:∀i σ H,i≤xs.length→Pv i σ H→SqT K H a xs)
  (hs:∀i x σ H,xs[i]?=some x→Pv i σ H→g x σ H fun σ2 H2=>tb {D with nx:=Pv (i + 1),ct:=Pv (i + 1),bk:=D.nx} σ2 H2) (hd:∀σ H,Pv xs.length σ H→D.nx σ H):
  ∃W:Nat→Nat→St→Hp→Prop,(∃m,W 0 m σ H)∧∀i m σ H,W i m σ H→
   ((Itt K a).stop i H∧D.nx σ H)∨((Itt K a).go i H∧∃N:St→Hp→Prop,(∀σ' H',N σ' H'→∃m',m' < m∧W (i + 1) m' σ' H')∧∀x H',(Itt K a).yld i H x H'→g x σ H' fun σ2 H2=>tb {D with nx:=N,ct:=N,bk:=D.nx} σ2 H2):=by
 refine ⟨fun i m σ H=>m=xs.length - i∧i≤xs.length∧Pv i σ H,⟨xs.length,by simp,Nat.zero_le _,h0⟩,?_⟩
 rintro i m σ H ⟨rfl,hi,p⟩
 have q:=hl i σ H hi p
 by_cases hlt:i < xs.length
 ·refine .inr ⟨⟨xs,xs[i],q,by simp [hlt]⟩,Pv (i + 1),fun σ' H' p'=>⟨xs.length - (i + 1),by omega,rfl,hlt,p'⟩,fun x H' y=>?_⟩
  obtain ⟨e,y⟩:=y
  subst e
  exact hs i x σ _ (y xs q) p
 ·have e:i=xs.length:=by omega
  subst e
  exact .inl ⟨⟨xs,q,Nat.le_refl _⟩,hd σ H p⟩
theorem znv {lo:Int} {n:Nat} {g:TG} {tb:TS} {D:zk9} {σ:St} {H:Hp} (Pv:Nat→St→Hp→Prop) (h0:Pv 0 σ H)
  (hs:∀i σ H,i < n→Pv i σ H→g (.int (lo + i)) σ H fun σ2 H2=>tb {D with nx:=Pv (i + 1),ct:=Pv (i + 1),bk:=D.nx} σ2 H2) (hd:∀σ H,Pv n σ H→D.nx σ H):
  ∃W:Nat→Nat→St→Hp→Prop,(∃m,W 0 m σ H)∧∀i m σ H,W i m σ H→
   ((Itr lo n).stop i H∧D.nx σ H)∨((Itr lo n).go i H∧∃N:St→Hp→Prop,(∀σ' H',N σ' H'→∃m',m' < m∧W (i + 1) m' σ' H')∧∀x H',(Itr lo n).yld i H x H'→g x σ H' fun σ2 H2=>tb {D with nx:=N,ct:=N,bk:=D.nx} σ2 H2):=by
 refine ⟨fun i m σ H=>m=n - i∧i≤n∧Pv i σ H,⟨n,by simp,Nat.zero_le _,h0⟩,?_⟩
 rintro i m σ H ⟨rfl,hi,p⟩
 by_cases hlt:i < n
 ·refine .inr ⟨hlt,Pv (i + 1),fun σ' H' p'=>⟨n - (i + 1),by omega,rfl,hlt,p'⟩,fun x H' y=>?_⟩
  obtain ⟨e,y⟩:=y
  subst e y
  exact hs i σ _ hlt p
 ·have e:i=n:=by omega
  subst e
  exact .inl ⟨Nat.le_refl _,hd σ H p⟩
end L2
namespace L2
open PySem PySem.Spec PyProof.Rows
noncomputable abbrev R2:=V→V→Hp→VK→Prop
noncomputable def OpR (X:Cx) (f:Value→Value→Sem Value) (r:R2):Prop:=
 ∀(pins:List (Addr × Obj)) (s:Shared) (σ:St) (H:Hp) (x y:V) (v u:Value) (Q:VK),Inv X pins σ H s→Yz x v→Yz y u→r x y H Q→
  wpAny (model X.prog X.w) X.A (f v u) (EP X pins σ Q) X.xe s
noncomputable def UnR (X:Cx) (f:Value→Sem Value) (r:V→Hp→VK→Prop):Prop:=
 ∀(pins:List (Addr × Obj)) (s:Shared) (σ:St) (H:Hp) (x:V) (v:Value) (Q:VK),Inv X pins σ H s→Yz x v→r x H Q→
  wpAny (model X.prog X.w) X.A (f v) (EP X pins σ Q) X.xe s
noncomputable def JW (X:Cx) (f:Value) (r:List V→Hp→VK→Prop):Prop:=
 ∀(pins:List (Addr × Obj)) (s:Shared) (σ:St) (H:Hp) (xs:List V) (us:List Value) (Q:VK),Inv X pins σ H s→yU xs us→r xs H Q→
  wpAny (model X.prog X.w) X.A (call f us) (EP X pins σ Q) X.xe s
noncomputable def tOp (r:R2) (ta tb:TE):TE:=fun σ H Q=>ta σ H fun x H1=>tb σ H1 fun y H2=>r x y H2 Q
noncomputable def tUn (r:V→Hp→VK→Prop) (ta:TE):TE:=fun σ H Q=>ta σ H fun x H1=>r x H1 Q
noncomputable def rI (C:Int→Int→Prop) (g:Int→Int→V):R2:=fun x y H Q=>∃i j,x=.int i∧y=.int j∧C i j∧Q (g i j) H
noncomputable def rI0 (g:Int→Int→V):R2:=fun x y H Q=>∃i j,x=.int i∧y=.int j∧Q (g i j) H
noncomputable def rU (g:Int→V):V→Hp→VK→Prop:=fun x H Q=>∃i,x=.int i∧Q (g i) H
section
variable {X:Cx} {a b c:Expr} {ta tb tc:TE} {pos:Pos}
theorem zsa (ha:PE X a ta) (hb:PE X b tb) {pins:List (Addr × Obj)} {s:Shared} {σ:St} {H:Hp} {R:V→V→Hp→Prop} (I:Inv X pins σ H s)
  (h:ta σ H fun x H1=>tb σ H1 fun y H2=>R x y H2) {Q:Value→Shared→Prop} {f:Value→Value→Sem Value}
  (hf:∀v u s2 x y H2,Inv X pins σ H2 s2→Yz x v→Yz y u→R x y H2→wpAny (model X.prog X.w) X.A (f v u) Q X.xe s2):
  wpAny (model X.prog X.w) X.A (eval a X.env) (fun v s₁=>wpAny (model X.prog X.w) X.A (eval b X.env) (fun u s₂=>wpAny (model X.prog X.w) X.A (f v u) Q X.xe s₂) X.xe s₁) X.xe s:=by
 refine thn (ha pins s σ H _ I h) fun v s1 ⟨x,H1,I1,r1,q1⟩=>?_
 refine thn (hb pins s1 σ H1 _ I1 q1) fun u s2 ⟨y,H2,I2,r2,q2⟩=>?_
 exact hf v u s2 x y H2 I2 r1 r2 q2
theorem zU {op:Operator} {r:R2} (ho:OpR X (binaryOp op) r) (ha:PE X a ta) (hb:PE X b tb):PE X (.BinOp a op b pos) (tOp r ta tb):=by
 intro pins s σ H Q I h
 exact wpAny_BinOp (zsa ha hb I h fun v u s2 x y H2 I2 rx ry q=>ho pins s2 σ H2 x y v u Q I2 rx ry q)
theorem zoj {op:UnaryOp} {r:V→Hp→VK→Prop} (ho:UnR X (unaryOp op) r) (ha:PE X a ta):PE X (.UnaryOp op a pos) (tUn r ta):=by
 intro pins s σ H Q I h
 exact UnaryOp_ (thn (ha pins s σ H _ I h) fun v s1 ⟨x,H1,I1,r1,q1⟩=>ho pins s1 σ H1 x v Q I1 r1 q1)
theorem opI {f:Value→Value→Sem Value} {C:Int→Int→Prop} {g:Int→Int→Int}
  (rule:∀(i j:Int) (t u:Tok) (s:Shared) (Q:Value→Shared→Prop) (E:Value→Shared→Prop),C i j→Q (.int (g i j) s.toks) {s with toks:=s.toks + 1}→wpAny (model X.prog X.w) X.A (f (.int i t) (.int j u)) Q E s):
  OpR X f (rI C fun i j=>.int (g i j)):=by
 intro pins s σ H x y v u Q I rx ry h
 obtain ⟨i,j,rfl,rfl,hc,q⟩:=h
 obtain ⟨t,rfl⟩:=rx
 obtain ⟨t',rfl⟩:=ry
 exact rule i j t t' s _ _ hc ⟨.int (g i j),H,I.tok _,⟨_,rfl⟩,q⟩
theorem zrA {f:Value→Value→Sem Value} {g:Int→Int→Int}
  (rule:∀(i j:Int) (t u:Tok) (s:Shared) (Q:Value→Shared→Prop) (E:Value→Shared→Prop),Q (.int (g i j) s.toks) {s with toks:=s.toks + 1}→wpAny (model X.prog X.w) X.A (f (.int i t) (.int j u)) Q E s):
  OpR X f (rI0 fun i j=>.int (g i j)):=by
 intro pins s σ H x y v u Q I rx ry h
 obtain ⟨i,j,rfl,rfl,q⟩:=h
 obtain ⟨t,rfl⟩:=rx
 obtain ⟨t',rfl⟩:=ry
 exact rule i j t t' s _ _ ⟨.int (g i j),H,I.tok _,⟨_,rfl⟩,q⟩
theorem zrB {f:Value→Value→Sem Value} {g:Int→Int→Bool}
  (rule:∀(i j:Int) (t u:Tok) (s:Shared) (Q:Value→Shared→Prop) (E:Value→Shared→Prop),Q (.bool (g i j)) s→wpAny (model X.prog X.w) X.A (f (.int i t) (.int j u)) Q E s):
  OpR X f (rI0 fun i j=>.bl (g i j)):=by
 intro pins s σ H x y v u Q I rx ry h
 obtain ⟨i,j,rfl,rfl,q⟩:=h
 obtain ⟨t,rfl⟩:=rx
 obtain ⟨t',rfl⟩:=ry
 exact rule i j t t' s _ _ ⟨.bl (g i j),H,I,rfl,q⟩
noncomputable def zsk (i j:Int):Prop:=(-(2 ^ 64) < i∧i < 2 ^ 64)∨(-(2 ^ 64) < j∧j < 2 ^ 64)
theorem zsk.ok {i j:Int} (h:zsk i j):IntMulOk i j:=by
 rcases h with ⟨h1,h2⟩ | ⟨h1,h2⟩
 ·exact .of_left (intBits_le_64 h1 h2)
 ·exact .of_right (intBits_le_64 h1 h2)
theorem zlb (k:Nat):(0:Int)≤2 ^ k:=by
 rw [two_pow_cast]
 exact Int.natCast_nonneg _
theorem yY:OpR X (binaryOp .Add) (rI0 fun i j=>.int (i + j)):=zrA fun _ _ _ _ _ _ _ q=>add_int q
theorem zdD:OpR X (binaryOp .Sub) (rI0 fun i j=>.int (i - j)):=zrA fun _ _ _ _ _ _ _ q=>sub_int q
theorem zm3:OpR X (binaryOp .Mult) (rI zsk fun i j=>.int (i * j)):=opI fun _ _ _ _ _ _ _ hc q=>mul_int q hc.ok
theorem zqX:OpR X (binaryOp .Mod) (rI (fun _ j=>0 < j) fun i j=>.int (i % j)):=opI fun i j _ _ _ _ _ hc q=>by
 have h1:(0:Int) < j:=hc
 exact mod_int' (by omega) (by rw [Int.fmod_eq_emod_of_nonneg i (by omega)];exact q)
theorem zpe:OpR X (binaryOp .RShift) (rI (fun _ j=>0≤j) fun i j=>.int (i / 2 ^ j.toNat)):=opI fun i j _ _ _ _ _ hc q=>
 rshift_int hc (by rw [Int.fdiv_eq_ediv_of_nonneg i (zlb _)];exact q)
theorem zpf:OpR X (binaryOp .BitAnd) (rI0 fun i j=>.int (Builtin.bitAnd i j)):=zrA fun _ _ _ _ _ _ _ q=>and_int q
theorem zqV:OpR X (binaryOp .BitXor) (rI0 fun i j=>.int (Builtin.bitXor i j)):=zrA fun _ _ _ _ _ _ _ q=>xor_int q
theorem unI {f:Value→Sem Value} {g:Int→Int}
  (rule:∀(i:Int) (t:Tok) (s:Shared) (Q:Value→Shared→Prop) (E:Value→Shared→Prop),Q (.int (g i) s.toks) {s with toks:=s.toks + 1}→wpAny (model X.prog X.w) X.A (f (.int i t)) Q E s):
  UnR X f (rU fun i=>.int (g i)):=by
 intro pins s σ H x v Q I rx h
 obtain ⟨i,rfl,q⟩:=h
 obtain ⟨t,rfl⟩:=rx
 exact rule i t s _ _ ⟨.int (g i),H,I.tok _,⟨_,rfl⟩,q⟩
theorem zkN:UnR X (unaryOp .USub) (rU fun i=>.int (-i)):=unI fun _ _ _ _ _ q=>neg_int q
end
noncomputable def zsp:V→V→Bool
 | .non,.non=>true | .non,.int _=>true | .int _,.non=>true | .non,.bl _=>true | .bl _,.non=>true | .non,.str _=>true | .str _,.non=>true
 | .int _,.int _=>true | .bl _,.bl _=>true | .str _,.str _=>true | .byt _,.byt _=>true
 | .int _,.str _=>true | .str _,.int _=>true | .bl _,.str _=>true | .str _,.bl _=>true
 | _,_=>false
noncomputable def rEq:R2:=fun x y H Q=>zsp x y=true∧Q (.bl (decide (x=y))) H
noncomputable def rNe:R2:=fun x y H Q=>zsp x y=true∧Q (.bl (!decide (x=y))) H
theorem znD {i j:Int}:decide (V.int i=V.int j)=(i == j):=by
 rw [Bool.eq_iff_iff]
 simp
theorem zpj {i j:Bool}:decide (V.bl i=V.bl j)=(i == j):=by
 rw [Bool.eq_iff_iff]
 simp
theorem znC {i j:Str}:decide (V.str i=V.str j)=(i == j):=by
 rw [Bool.eq_iff_iff]
 simp
theorem znE {i j:Array UInt8}:decide (V.byt i=V.byt j)=(i.toList == j.toList):=by
 rw [Bool.eq_iff_iff]
 cases i
 cases j
 simp
section
variable {X:Cx} {a b c:Expr} {ta tb tc:TE} {pos:Pos}
theorem yD {pins:List (Addr × Obj)} {σ:St} {H:Hp} {s:Shared} {Q:VK} {k k':Bool} (I:Inv X pins σ H s) (q:Q (.bl k) H) (e:k=k'):EP X pins σ Q (.bool k') s:=by
 subst e
 exact ⟨.bl k,H,I,rfl,q⟩
theorem Z0:OpR X (compareOp .Eq) rEq:=by
 intro pins s σ H x y v u Q I rx ry h
 obtain ⟨hs,q⟩:=h
 cases x with
 | non=>
  cases rx
  cases y with
  | non=>cases ry;exact PySem.EqNone.eq_none_none (yD I q (by simp))
  | bl j=>cases ry;exact PySem.EqNone.eq_none_bool (yD I q (by simp))
  | int j=>obtain ⟨t',rfl⟩:=ry;exact PySem.EqNone.eq_none_int (yD I q (by simp))
  | str j=>obtain ⟨t',rfl⟩:=ry;exact PySem.EqNone.eq_none_str (yD I q (by simp))
  | _=>exact absurd (show false=true from hs) Bool.false_ne_true
 | bl i=>
  cases rx
  cases y with
  | non=>cases ry;exact PySem.EqNone.eq_bool_none (yD I q (by simp))
  | bl j=>cases ry;exact eq_bool (yD I q zpj)
  | str j=>obtain ⟨t',rfl⟩:=ry;exact PySem.EqMixed.eq_bool_str (yD I q (by simp))
  | _=>exact absurd (show false=true from hs) Bool.false_ne_true
 | int i=>
  obtain ⟨t,rfl⟩:=rx
  cases y with
  | non=>cases ry;exact PySem.EqNone.eq_int_none (yD I q (by simp))
  | int j=>obtain ⟨t',rfl⟩:=ry;exact eq_int (yD I q znD)
  | str j=>obtain ⟨t',rfl⟩:=ry;exact PySem.EqMixed.eq_int_str (yD I q (by simp))
  | _=>exact absurd (show false=true from hs) Bool.false_ne_true
 | str i=>
  obtain ⟨t,rfl⟩:=rx
  cases y with
  | non=>cases ry;exact PySem.EqNone.eq_str_none (yD I q (by simp))
  | bl j=>cases ry;exact PySem.EqMixed.eq_str_bool (yD I q (by simp))
  | int j=>obtain ⟨t',rfl⟩:=ry;exact PySem.EqMixed.eq_str_int (yD I q (by simp))
  | str j=>obtain ⟨t',rfl⟩:=ry;exact eq_str (yD I q znC)
  | _=>exact absurd (show false=true from hs) Bool.false_ne_true
 | byt i=>
  obtain ⟨t,rfl⟩:=rx
  cases y with
  | byt j=>obtain ⟨t',rfl⟩:=ry;exact PySem.W.eq_bytes (yD I q znE)
  | _=>exact absurd (show false=true from hs) Bool.false_ne_true
 | _=>cases y <;> exact absurd (show false=true from hs) Bool.false_ne_true
theorem ziW:OpR X (compareOp .NotEq) rNe:=by
 intro pins s σ H x y v u Q I rx ry h
 obtain ⟨hs,q⟩:=h
 cases x with
 | non=>
  cases rx
  cases y with
  | non=>cases ry;exact PySem.EqNone.ne_none_none (yD I q (by simp))
  | bl j=>cases ry;exact PySem.EqNone.ne_none_bool (yD I q (by simp))
  | int j=>obtain ⟨t',rfl⟩:=ry;exact PySem.EqNone.ne_none_int (yD I q (by simp))
  | str j=>obtain ⟨t',rfl⟩:=ry;exact PySem.EqNone.ne_none_str (yD I q (by simp))
  | _=>exact absurd (show false=true from hs) Bool.false_ne_true
 | bl i=>
  cases rx
  cases y with
  | non=>cases ry;exact PySem.EqNone.ne_bool_none (yD I q (by simp))
  | bl j=>cases ry;exact ne_bool (yD I q (congrArg not zpj))
  | str j=>obtain ⟨t',rfl⟩:=ry;exact PySem.EqMixed.ne_bool_str (yD I q (by simp))
  | _=>exact absurd (show false=true from hs) Bool.false_ne_true
 | int i=>
  obtain ⟨t,rfl⟩:=rx
  cases y with
  | non=>cases ry;exact PySem.EqNone.ne_int_none (yD I q (by simp))
  | int j=>obtain ⟨t',rfl⟩:=ry;exact ne_int (yD I q (congrArg not znD))
  | str j=>obtain ⟨t',rfl⟩:=ry;exact PySem.EqMixed.ne_int_str (yD I q (by simp))
  | _=>exact absurd (show false=true from hs) Bool.false_ne_true
 | str i=>
  obtain ⟨t,rfl⟩:=rx
  cases y with
  | non=>cases ry;exact PySem.EqNone.ne_str_none (yD I q (by simp))
  | bl j=>cases ry;exact PySem.EqMixed.ne_str_bool (yD I q (by simp))
  | int j=>obtain ⟨t',rfl⟩:=ry;exact PySem.EqMixed.ne_str_int (yD I q (by simp))
  | str j=>obtain ⟨t',rfl⟩:=ry;exact ne_str (yD I q (congrArg not znC))
  | _=>exact absurd (show false=true from hs) Bool.false_ne_true
 | byt i=>
  obtain ⟨t,rfl⟩:=rx
  cases y with
  | byt j=>obtain ⟨t',rfl⟩:=ry;exact PySem.W.ne_bytes (yD I q (congrArg not znE))
  | _=>exact absurd (show false=true from hs) Bool.false_ne_true
 | _=>cases y <;> exact absurd (show false=true from hs) Bool.false_ne_true
theorem zd0:OpR X (compareOp .Lt) (rI0 fun i j=>.bl (decide (i < j))):=zrB fun _ _ _ _ _ _ _ q=>lt_int q
theorem ZG:OpR X (compareOp .LtE) (rI0 fun i j=>.bl (decide (i≤j))):=zrB fun _ _ _ _ _ _ _ q=>le_int q
theorem zhs:OpR X (compareOp .Gt) (rI0 fun i j=>.bl (decide (j < i))):=zrB fun _ _ _ _ _ _ _ q=>gt_int q
theorem zpK:OpR X (compareOp .GtE) (rI0 fun i j=>.bl (decide (j≤i))):=zrB fun _ _ _ _ _ _ _ q=>ge_int q
theorem YG:OpR X (compareOp .Is) (fun x y H Q=>y=.non∧Q (.bl (decide (x=.non))) H):=by
 intro pins s σ H x y v u Q I rx ry h
 obtain ⟨rfl,q⟩:=h
 cases ry
 refine is_none_gen (yD I q ?_)
 cases x <;> first
  | (cases rx;rfl)
  | (obtain ⟨t,rfl⟩:=rx;rfl)
theorem zkg:OpR X (compareOp .IsNot) (fun x y H Q=>y=.non∧Q (.bl (!decide (x=.non))) H):=by
 intro pins s σ H x y v u Q I rx ry h
 obtain ⟨rfl,q⟩:=h
 cases ry
 refine isnot_none_gen (yD I q ?_)
 cases x <;> first
  | (cases rx;rfl)
  | (obtain ⟨t,rfl⟩:=rx;rfl)
theorem zz (b:Expr) {op:CmpOp} (h:op≠.In:=by decide) (h2:op≠.NotIn:=by decide):behindInMarks op b=false:=by
 have e1:(op == CmpOp.In)=false:=by cases op <;> first | rfl | exact absurd rfl h
 have e2:(op == CmpOp.NotIn)=false:=by cases op <;> first | rfl | exact absurd rfl h2
 cases b <;> simp [behindInMarks,e1,e2]
theorem yj {op:CmpOp} {r:R2} (ho:OpR X (compareOp op) r) (ha:PE X a ta) (hb:PE X b tb) (hm:behindInMarks op b=false):PE X (.Compare a [op] [b] pos) (tOp r ta tb):=by
 intro pins s σ H Q I h
 exact wpAny_Compare1 (zsa ha hb I h fun v u s2 x y H2 I2 rx ry q=>ho pins s2 σ H2 x y v u Q I2 rx ry q) hm
noncomputable def zps (t:TE):TT:=fun σ H Q=>t σ H fun x H'=>∃k,x=.bl k∧Q k H'
theorem zw {op:CmpOp} {r:R2} (ho:OpR X (compareOp op) r) (ha:PE X a ta) (hb:PE X b tb) (hm:behindInMarks op b=false):PT X (.Compare a [op] [b] pos) (zps (tOp r ta tb)):=by
 intro pins s σ H Q I h
 refine wpAny_isTrue_Compare1 (thn (ha pins s σ H _ I h) fun v s1 ⟨x,H1,I1,r1,q1⟩=>thn (hb pins s1 σ H1 _ I1 q1) fun u s2 ⟨y,H2,I2,r2,q2⟩=>
  thn (ho pins s2 σ H2 x y v u _ I2 r1 r2 q2) fun c s3 ⟨z,H3,I3,r3,k,e,q3⟩=>?_) hm
 subst e
 cases r3
 exact wpAny_truthy_bool ⟨H3,I3,q3⟩
noncomputable def zo7 (r r':R2) (ta tb tc:TE):TE:=fun σ H Q=>ta σ H fun x H1=>tb σ H1 fun y H2=>r x y H2 fun z H3=>∃k,z=.bl k∧
 (if k=true then tc σ H3 fun w' H4=>r' y w' H4 Q else Q (.bl false) H3)
theorem ZZ {op op':CmpOp} {r r':R2} (ho:OpR X (compareOp op) r) (ho':OpR X (compareOp op') r') (ha:PE X a ta) (hb:PE X b tb) (hc:PE X c tc)
  (hm:lastMarks [op,op'] [b,c]=false:=by with_unfolding_all rfl):PE X (.Compare a [op,op'] [b,c] pos) (zo7 r r' ta tb tc):=by
 intro pins s σ H Q I h
 refine Compare_chain (thn (ha pins s σ H _ I h) fun v s1 ⟨x,H1,I1,r1,q1⟩=>chain_link (thn (hb pins s1 σ H1 _ I1 q1) fun u s2 ⟨y,H2,I2,r2,q2⟩=>
  thn (ho pins s2 σ H2 x y v u _ I2 r1 r2 q2) fun d s3 ⟨z,H3,I3,r3,k,e,q3⟩=>?_)) hm
 subst e
 cases r3
 refine wpAny_truthy_bool ?_
 cases k with
 | false=>exact ite_ff ⟨.bl false,H3,I3,rfl,q3⟩
 | true=>exact ite_tt (chain_last (thn (hc pins s3 σ H3 _ I3 q3) fun w' s4 ⟨z',H4,I4,r4,q4⟩=>ho' pins s4 σ H4 y z' u w' Q I4 r2 r4 q4))
theorem zeh {op op':CmpOp} {r r':R2} (ho:OpR X (compareOp op) r) (ho':OpR X (compareOp op') r') (ha:PE X a ta) (hb:PE X b tb) (hc:PE X c tc)
  (hm:lastMarks [op,op'] [b,c]=false:=by with_unfolding_all rfl):PT X (.Compare a [op,op'] [b,c] pos) (zps (zo7 r r' ta tb tc)):=by
 intro pins s σ H Q I h
 refine isTrue_chain (thn (ha pins s σ H _ I h) fun v s1 ⟨x,H1,I1,r1,q1⟩=>test_link (thn (hb pins s1 σ H1 _ I1 q1) fun u s2 ⟨y,H2,I2,r2,q2⟩=>
  thn (ho pins s2 σ H2 x y v u _ I2 r1 r2 q2) fun d s3 ⟨z,H3,I3,r3,k,e,q3⟩=>?_)) hm
 subst e
 cases r3
 refine wpAny_truthy_bool ?_
 cases k with
 | false=>
  obtain ⟨k',e',q'⟩:=q3
  cases e'
  exact ite_ff ⟨H3,I3,q'⟩
 | true=>
  refine ite_tt (test_last (thn (hc pins s3 σ H3 _ I3 q3) fun w' s4 ⟨z',H4,I4,r4,q4⟩=>thn (ho' pins s4 σ H4 y z' u w' _ I4 r2 r4 q4) fun d' s5 ⟨z2,H5,I5,r5,k2,e2,q5⟩=>?_))
  subst e2
  cases r5
  exact wpAny_truthy_bool ⟨H5,I5,q5⟩
theorem zjb:(sizeLine:Nat) < 2 ^ 63:=by rw [sizeLine_eq];decide
theorem Yq:OpR X (binaryOp .Add) (fun x y H Q=>∃i j,x=.str i∧y=.str j∧i.length + j.length≤sizeLine∧Q (.str (i++j)) H):=by
 intro pins s σ H x y v u Q I rx ry h
 obtain ⟨i,j,rfl,rfl,hz,q⟩:=h
 obtain ⟨t,rfl⟩:=rx
 obtain ⟨t',rfl⟩:=ry
 exact add_str (fun t' tk=>⟨.str (i++j),H,I.tok _,⟨_,rfl⟩,q⟩) hz
theorem zmt {x:V} {us:List Value} (r:yU [x] us):∃u,us=[u]∧Yz x u:=by
 cases r with
 | cons r1 r2=>cases r2;exact ⟨_,rfl,r1⟩
theorem zrI {x y:V} {us:List Value} (r:yU [x,y] us):∃u w',us=[u,w']∧Yz x u∧Yz y w':=by
 cases r with
 | cons r1 r2=>
  cases r2 with
  | cons r3 r4=>cases r4;exact ⟨_,_,rfl,r1,r3⟩
theorem znH (hc:X.calm=true):JW X (.builtin "min") (fun xs H Q=>∃i j,xs=[.int i,.int j]∧Q (.int (if j < i then j else i)) H):=by
 intro pins s σ H xs us Q I r h
 obtain ⟨i,j,rfl,q⟩:=h
 obtain ⟨u,w',rfl,⟨t,rfl⟩,⟨t',rfl⟩⟩:=zrI r
 refine min_two_ints (I.ok.hd hc) fun h' tk k=>⟨_,H,I.kept k,?_,q⟩
 by_cases hj:j < i
 ·rw [if_pos hj,if_pos hj];exact ⟨_,rfl⟩
 ·rw [if_neg hj,if_neg hj];exact ⟨_,rfl⟩
theorem YL:JW X (.type "str") (fun xs H Q=>∃i,xs=[.int i]∧i.natAbs.log2 < 1920∧Q (.str (toString i)) H):=by
 intro pins s σ H xs us Q I r h
 obtain ⟨i,rfl,hz,q⟩:=h
 obtain ⟨u,rfl,t,rfl⟩:=zmt r
 exact PySem.P.str_of_int hz ⟨.str _,H,I.tok _,⟨_,rfl⟩,q⟩
theorem zk7:JW X (.builtin "ord") (fun xs H Q=>∃x,xs=[.str x]∧x.length=1∧Q (.int (x.cps.getD 0 0:Nat)) H):=by
 intro pins s σ H xs us Q I r h
 obtain ⟨x,rfl,hz,q⟩:=h
 obtain ⟨u,rfl,t,rfl⟩:=zmt r
 exact ord_of_one hz ⟨.int _,H,I.tok _,⟨_,rfl⟩,q⟩
end
end L2
namespace L2
open PySem PySem.Spec PyProof.Rows
structure zqf (h:Heap) (x dx C:Addr) (mA:Str→Option Value):Prop where
 obj:h.get? x=some (PySem.W.instObj C dx)
 ns:h.Ns1 dx mA
 ne:dx≠x
theorem zne {h:Heap} {dx:Addr} {mA:Str→Option Value} (n:h.Ns1 dx mA):∃od,h.get? dx=some od∧∀name,PySem.W.lookIn name od=some (mA name):=by
 obtain ⟨o,es,ep,ho,hd,hk,_,hm⟩:=n
 refine ⟨o,ho,fun name=>?_⟩
 have e:=hm name
 unfold nsFind findBy at e
 rw [← Array.find?_toList] at e
 unfold PySem.W.lookIn
 rw [hd]
 dsimp only
 split
 ·rename_i y q
  rw [q] at e
  exact congrArg some e
 ·rename_i q
  rw [q] at e
  have a:es.toList.any (·.refKey)=false:=by
   rw [List.any_eq_false]
   intro y hy
   obtain ⟨z,t,hkey⟩:=hk y (Array.mem_toList_iff.mp hy)
   simp [DictEntry.refKey,hkey]
  have a':¬ es.toList.any (·.refKey)=true:=by rw [a];exact Bool.false_ne_true
  rw [if_neg a']
  exact congrArg some e
theorem zqf.look {h:Heap} {x dx C:Addr} {mA:Str→Option Value} (I:zqf h x dx C mA):∃od,PySem.W.InstAt h x (PySem.W.instObj C dx) C (some od)∧∀name,PySem.W.lookIn name od=some (mA name):=
 let ⟨od,ho,hl⟩:=zne I.ns
 ⟨od,⟨I.obj,rfl,rfl,ho⟩,hl⟩
section
variable {prog:Program} {w:World} {A:Around} {E:Value→Shared→Prop} {s:Shared} {K:PySem.W.Frag} {x dx C f:Addr} {mA:Str→Option Value} {name:Str} {v:Value}
theorem zpX {expr:Bool} {Q:Value→Shared→Prop} (X:K.In s.heap) (I:zqf s.heap x dx C mA) (hg:PySem.W.plainGet K C name=true) (hh:PySem.W.hasDictIn K C=true)
  (ha:PySem.W.findIn K (.ref C) name=some none) (hv:mA name=some v) (hv':PySem.W.handedIn v=true) (h:Q v {s with toks:=s.toks + 1}):
  wpAny (model prog w) A (getAttr (.ref x) name expr) Q E s:=by
 obtain ⟨od,J,hl⟩:=I.look
 exact PySem.W.get_value X J (PySem.W.plainGet_of hg).1 (PySem.W.findObj_own hh ha rfl (by rw [hl,hv])) hv' h
theorem zoO {pl:Sem Bool} {Q:Value × List Value→Shared→Prop} (X:K.In s.heap) (I:zqf s.heap x dx C mA) (hg:PySem.W.plainGet K C name=true)
  (hf:PySem.W.findIn K (.ref C) name=some (some (.ref f))) (ht:PySem.W.isFn K (.ref f)=true) (hv:mA name=none) (h:Q (.ref f,[.ref x]) s):
  wpAny (model prog w) A (getMethod (.ref x) name pl) Q E s:=by
 obtain ⟨od,J,hl⟩:=I.look
 exact PySem.W.method_fn X J (PySem.W.plainGet_of hg).1 (PySem.W.plainGet_of hg).2 hf (beq_iff_eq.mp ht) (by show (PySem.W.lookIn name od).map (·.isSome)=some false;rw [hl,hv];rfl) h
theorem zpv {ns:List Str} {Q:Unit→Shared→Prop} (X:K.In s.heap) (I:zqf s.heap x dx C mA)
  (hs:PySem.W.findIn K (.ref C) "__setattr__"=some (some (.builtin "object.__setattr__"))) (hp:PySem.W.plainOver K C=true) (ht:PySem.W.takerIn K C name=some none) (hh:PySem.W.hasDictIn K C=true)
  (hw:PySem.Within mA ns) (hsz:ns.length≤sizeLine)
  (h:∀h',zqf h' x dx C (fun y=>if y=name then some v else mA y)→Heap.SameBut dx s.heap h'→Q () {s with heap:=h',toks:=s.toks + 2}):
  wpAny (model prog w) A (setAttr (.ref x) name v) Q E s:=by
 obtain ⟨od,J,hl⟩:=I.look
 refine PySem.W.set_plain X J hs (PySem.W.osa_open (s:={s with toks:=s.toks + 1}) (r:=none) X J hp ht fun b=>?_)
 obtain ⟨cd,hc,hd'⟩:=PySem.W.any_some hh
 have hx:s.heap.get? x=some ⟨.ref C,some dx,.plain,#[]⟩:=I.obj
 refine wpAny_bind (wpAny_pure (wpAny_bind (wpAny_bind (wpAny_loadPart hx (wpAny_bind (PySem.W.Looks.here (s:={s with toks:=s.toks + 1}) (PySem.W.looks_clsIn X hc) ?_))))))
 rw [hd']
 refine wpAny_pure (a:=some dx) (wpAny_bind (wpAny_pure (wpAny_bind ?_)))
 refine wpAny_nsSet1 (s:={s with toks:=s.toks + 1}) I.ns fun h' hn2 hs2=>?_
 obtain ⟨oD,esD,epD,hoD,hdD,hcD⟩:=hn2.count (PySem.Within.cons name v hw)
 refine wpAny_bind (wpAny_lookBehind hoD (by rw [hdD];exact pastItsLine_dict (Nat.le_trans hcD (by rw [List.length_cons];omega))) ?_)
 exact wpAny_pure (h _ ⟨(hs2.2 _ (Ne.symm I.ne)).trans I.obj,hn2,I.ne⟩ hs2)
theorem zoA {R:Result→Shared→Prop} {vs:List Value} {kw:List (Str × Value)} (X:K.In s.heap) (hm:PySem.W.makesIn K C=true)
  (hi:PySem.W.findIn K (.ref C) "__init__"=some (some (.ref f))) (hf:PySem.W.typeIn K (.ref f)=some (.type "function"))
  (h:codeAny (model prog w) (A.under (.builtin "type.__call__" ⟨.ref C::vs,kw⟩)) (.call (.ref f) ⟨.ref (s.heap.objs.size + 1)::vs,kw⟩) (PySem.W.InitBack (s.heap.objs.size + 1) R)
   {s with heap:=(s.heap.push PySem.W.emptyDict).push (PySem.W.instObj C s.heap.objs.size)}):
  codeAny (model prog w) A (.call (.ref C) ⟨vs,kw⟩) R s:=by
 obtain ⟨hh,g,d,t,os⟩:=s
 exact PySem.W.make_core (PySem.W.makes_of X hm) (PySem.W.looks_findIn X hi) (fun self=>PySem.W.bind_fn X self hf) (.inl rfl) h
end
noncomputable def yH (f:Str) (v:V):List (Str × V)→List (Str × V)
 | []=>[(f,v)]
 | (g,x)::r=>if g=f then (g,v)::r else (g,x)::yH f v r
theorem zfe (f g:Str) (v:V):∀fs:List (Str × V),(yH f v fs).lookup g=if g=f then some v else fs.lookup g
 | []=>by
  show List.lookup g [(f,v)]=_
  by_cases h:g=f
  ·have hb:(g == f)=true:=beq_iff_eq.mpr h
   simp only [List.lookup,hb,if_pos h]
  ·have hb:(g == f)=false:=beq_eq_false_iff_ne.mpr h
   simp only [List.lookup,hb,if_neg h]
 | (k,x)::r=>by
  have ih:=zfe f g v r
  rw [show yH f v ((k,x)::r)=(if k=f then (k,v)::r else (k,x)::yH f v r) from rfl]
  by_cases hk:k=f
  ·rw [if_pos hk]
   by_cases h:g=k
   ·have hb:(g == k)=true:=beq_iff_eq.mpr h
    simp only [List.lookup,hb,if_pos (h.trans hk)]
   ·have hb:(g == k)=false:=beq_eq_false_iff_ne.mpr h
    simp only [List.lookup,hb,if_neg (fun e:g=f=>h (e.trans hk.symm))]
  ·rw [if_neg hk]
   by_cases h:g=k
   ·have hb:(g == k)=true:=beq_iff_eq.mpr h
    simp only [List.lookup,hb,if_neg (fun e:g=f=>hk (h.symm.trans e))]
   ·have hb:(g == k)=false:=beq_eq_false_iff_ne.mpr h
    simp only [List.lookup,hb]
    exact ih
theorem zfj (f:Str) (v:V):∀fs:List (Str × V),f ∈ (yH f v fs).map (·.1)∧∀g,g ∈ fs.map (·.1)→g ∈ (yH f v fs).map (·.1)
 | []=>⟨by simp [yH],fun g h=>by simp at h⟩
 | (k,x)::r=>by
  obtain ⟨i1,i2⟩:=zfj f v r
  rw [show yH f v ((k,x)::r)=(if k=f then (k,v)::r else (k,x)::yH f v r) from rfl]
  by_cases hk:k=f
  ·rw [if_pos hk]
   subst hk
   exact ⟨by simp,fun g h=>by simpa using h⟩
  ·rw [if_neg hk]
   refine ⟨?_,fun g h=>?_⟩
   ·rw [List.map_cons]
    exact List.mem_cons_of_mem _ i1
   ·rw [List.map_cons] at h ⊢
    rcases List.mem_cons.mp h with e | e
    ·exact List.mem_cons.mpr (.inl e)
    ·exact List.mem_cons_of_mem _ (i2 g e)
theorem zbH (f:Str) (v:V):∀fs:List (Str × V),(yH f v fs).length≤fs.length + 1
 | []=>by simp [yH]
 | (k,x)::r=>by
  have ih:=zbH f v r
  rw [show yH f v ((k,x)::r)=(if k=f then (k,v)::r else (k,x)::yH f v r) from rfl]
  by_cases hk:k=f
  ·rw [if_pos hk,List.length_cons,List.length_cons];omega
  ·rw [if_neg hk,List.length_cons,List.length_cons];omega
theorem znY.some_of {v:V} {o:Option Value} (r:znY (some v) o):∃u,o=some u∧Yz v u:=by
 cases o with
 | none=>exact (show False from r).elim
 | some u=>exact ⟨u,rfl,r⟩
theorem znY.none_of {o:Option Value} (r:znY none o):o=none:=by
 cases o with
 | none=>rfl
 | some u=>exact (show False from r).elim
theorem zns {v:V} {u:Value} (r:Yz v u):PySem.W.handedIn u=true:=by
 cases v with
 | non=>cases (show u=Value.none from r);rfl
 | bl b=>cases (show u=Value.bool b from r);rfl
 | int i=>obtain ⟨t,e⟩:=(show ∃t,u=Value.int i t from r);cases e;rfl
 | str x=>obtain ⟨t,e⟩:=(show ∃t,u=Value.str x t from r);cases e;rfl
 | byt b=>obtain ⟨t,e⟩:=(show ∃t,u=Value.bytes b t from r);cases e;rfl
 | flt b=>obtain ⟨t,e⟩:=(show ∃t,u=Value.float b t from r);cases e;rfl
 | ref a=>cases (show u=Value.ref a from r);rfl
 | ty n=>cases (show u=Value.type n from r);rfl
section
variable {P:Program} {w:World} {H H':Hp} {h h':Heap} {a C dx:Addr} {fs fs':List (Str × V)}
theorem zhI (hok:HOk P w H h) (e:H a=some (.ins C dx fs)):∃mA,zqf h a dx C mA∧(∀f,znY (fs.lookup f) (mA f))∧PySem.Within mA (fs.map (·.1))∧fs.length≤1000∧H dx=some (.own a):=by
 obtain ⟨d,z,ne,ob,mA,n,r,q⟩:=(show za0 P w H h a (.ins C dx fs) from hok a _ e)
 exact ⟨mA,⟨ob,n,ne⟩,r,q,z,d⟩
end
structure Cls (K:PySem.W.Frag) (C:Addr):Prop where
 pg:PySem.W.plainGet K C Str.empty=true
 hd:PySem.W.hasDictIn K C=true
 po:PySem.W.plainOver K C=true
 sa:PySem.W.findIn K (.ref C) "__setattr__"=some (some (.builtin "object.__setattr__"))
theorem Cls.get {K:PySem.W.Frag} {C:Addr} (c:Cls K C) (f:Str):PySem.W.plainGet K C f=true:=c.pg
noncomputable def zS (K:PySem.W.Frag) (C:Addr) (f:Str):Prop:=PySem.W.findIn K (.ref C) f=some none
theorem zS.taker {K:PySem.W.Frag} {C:Addr} {f:Str} (n:zS K C f):PySem.W.takerIn K C f=some none:=by
 unfold PySem.W.takerIn
 rw [show PySem.W.findIn K (.ref C) f=some none from n]
 rfl
structure zrH (K:PySem.W.Frag) (C:Addr) (m:Str) (f:Addr):Prop where
 at_:PySem.W.findIn K (.ref C) m=some (some (.ref f))
 fn:PySem.W.isFn K (.ref f)=true
 kp:PySem.W.keepIn K (.ref f)=true
section
variable {X:Cx} {pins:List (Addr × Obj)} {σ:St} {H:Hp} {s:Shared} {a C dx:Addr} {fs:List (Str × V)} {f:Str} {v:V} {A:Around} {E:Value→Shared→Prop}
theorem zlZ {b:Bool} {Q:Value→Shared→Prop} (I:Inv X pins σ H s) (e:H a=some (.ins C dx fs)) (c:Cls X.K C) (n:zS X.K C f) (l:fs.lookup f=some v)
  (h:∀u s',Inv X pins σ H s'→Yz v u→Q u s'):wpAny (model X.prog X.w) A (getAttr (.ref a) f b) Q E s:=by
 obtain ⟨mA,O,r,_,_,_⟩:=zhI I.hok e
 obtain ⟨u,hu,ru⟩:=znY.some_of (v:=v) (o:=mA f) (by rw [← l];exact r f)
 exact zpX I.kIn O (c.get f) c.hd n hu (zns ru) (h u _ (I.tok _) ru)
theorem zlY {m:Str} {g:Addr} {pl:Sem Bool} {Q:Value × List Value→Shared→Prop} (I:Inv X pins σ H s) (e:H a=some (.ins C dx fs)) (c:Cls X.K C) (k:zrH X.K C m g) (l:fs.lookup m=none)
  (h:Q (.ref g,[.ref a]) s):wpAny (model X.prog X.w) A (getMethod (.ref a) m pl) Q E s:=by
 obtain ⟨mA,O,r,_,_,_⟩:=zhI I.hok e
 have hn:mA m=none:=znY.none_of (by rw [← l];exact r m)
 exact zoO I.kIn O (c.get m) k.at_ k.fn hn h
theorem zlr {y:V} {u:Value} {Q:Unit→Shared→Prop} (I:Inv X pins σ H s) (e:H a=some (.ins C dx fs)) (c:Cls X.K C) (n:zS X.K C f) (hl:fs.length < 1000) (ry:Yz y u)
  (h:∀s',Inv X pins σ (upd H a (.ins C dx (yH f y fs))) s'→Q () s'):wpAny (model X.prog X.w) A (setAttr (.ref a) f u) Q E s:=by
 obtain ⟨mA,O,r,wi,_,ho⟩:=zhI I.hok e
 have hz:(fs.map (·.1)).length≤sizeLine:=by rw [List.length_map,sizeLine_eq];omega
 refine zpv I.kIn O c.sa c.po n.taker c.hd wi hz fun h' O' sb=>h _ ?_
 have hd:∃o,h'.get? dx=some o:=let ⟨o,_,_,e',_⟩:=O'.ns;⟨o,e'⟩
 refine I.write (x:=a) (e:=dx) (by rw [e];exact True.intro) (.inr ho) (fun b q hb z=>(sb.2 b hb).trans z) hd ?_
 refine ⟨by rw [zv O.ne];exact ho,?_,O.ne,O'.obj,_,O'.ns,fun g=>?_,fun g hg=>?_⟩
 ·have:=zbH f y fs;omega
 ·show znY ((yH f y fs).lookup g) (if g=f then some u else mA g)
  rw [zfe]
  by_cases q:g=f
  ·rw [if_pos q,if_pos q];exact ry
  ·rw [if_neg q,if_neg q];exact r g
 ·by_cases q:g=f
  ·rw [q];exact (zfj f y fs).1
  ·refine (zfj f y fs).2 g (wi g fun z=>hg ?_)
   show (if g=f then some u else mA g)=none
   rw [if_neg q];exact z
theorem Inv.made (I:Inv X pins σ H s):Inv X pins σ (upd (upd H s.heap.objs.size (.own (s.heap.objs.size + 1))) (s.heap.objs.size + 1) (.ins C s.heap.objs.size []))
  {s with heap:=(s.heap.push PySem.W.emptyDict).push (PySem.W.instObj C s.heap.objs.size)}:=by
 have e1:(s.heap.push PySem.W.emptyDict).get? s.heap.objs.size=some PySem.W.emptyDict:=Heap.get?_push_size s.heap rfl
 have e2:((s.heap.push PySem.W.emptyDict).push (PySem.W.instObj C s.heap.objs.size)).get? (s.heap.objs.size + 1)=some (PySem.W.instObj C s.heap.objs.size):=by
  have:=Heap.get?_push_size (s.heap.push PySem.W.emptyDict) (o:=PySem.W.instObj C s.heap.objs.size) rfl
  rwa [Heap.size_push] at this
 have e3:(s.heap.push PySem.W.emptyDict).Ns s.heap.objs.size (fun _=>none):=⟨PySem.W.emptyDict,#[],_,e1,rfl,(fun e he=>absurd he (by simp)),fun _=>rfl⟩
 have I1:=I.laid (a:=s.heap.objs.size) (o:=.own (s.heap.objs.size + 1)) (h':=s.heap.push PySem.W.emptyDict) (t':=s.toks) (fun b u q=>Heap.get?_push_of_some _ q) (Nat.le_refl _) ⟨_,e1⟩
 refine I1.laid (a:=s.heap.objs.size + 1) (o:=.ins C s.heap.objs.size []) (t':=s.toks) (fun b u q=>Heap.get?_push_of_some _ q) (Nat.le_of_eq (Heap.size_push _ _)) ?_
 have ne:s.heap.objs.size≠s.heap.objs.size + 1:=Nat.ne_of_lt (Nat.lt_succ_self _)
 refine ⟨by rw [zv ne,za],Nat.zero_le _,ne,e2,fun _=>none,(Heap.Ns1.of_empty e3).at fun o q=>Heap.get?_push_of_some _ q,fun _=>True.intro,fun y hy=>absurd rfl hy⟩
theorem zp9 {prog:Program} {w:World} {env:Env} {e:Expr} {f:Str} {pos:Pos} {s:Shared} {Q:Value→Shared→Prop} (hb:attributeBase e f env (eval e env)=eval e env)
  (h:wpAny (model prog w) A (eval e env) (fun o s₁=>wpAny (model prog w) A (getAttr o f true) Q E s₁) E s):wpAny (model prog w) A (eval (.Attribute e f pos) env) Q E s:=
 Attribute_any_ h (by rw [arm_eval_Attribute,hb])
end
noncomputable def zso (K:PySem.W.Frag) (ta:TE) (f:Str):TE:=fun σ H Q=>ta σ H fun x H1=>∃a C dx fs v,x=.ref a∧H1 a=some (.ins C dx fs)∧Cls K C∧zS K C f∧fs.lookup f=some v∧Q v H1
noncomputable def zry (K:PySem.W.Frag) (ta tv:TE) (f:Str):TS:=fun D σ H=>tv σ H fun y H1=>ta σ H1 fun x H2=>∃a C dx fs,x=.ref a∧H2 a=some (.ins C dx fs)∧Cls K C∧zS K C f∧fs.length < 1000∧
 D.nx σ (upd H2 a (.ins C dx (yH f y fs)))
section
variable {X:Cx} {o e value:Expr} {f:Str} {pos pos' tpos:Pos} {ta tv:TE}
theorem zqT (he:PE X e ta) (hb:attributeBase e f X.env (eval e X.env)=eval e X.env):PE X (.Attribute e f pos) (zso X.K ta f):=by
 intro pins s σ H Q I h
 refine zp9 hb (thn (he pins s σ H _ I h) fun u s1 ⟨x,H1,I1,rx,a,C,dx,fs,v,ex,ea,c,n,l,q⟩=>?_)
 subst ex
 obtain rfl:u=Value.ref a:=rx
 exact zlZ I1 ea c n l fun u' s2 I2 ru=>⟨v,H1,I2,ru,q⟩
theorem zqJ (ha:PE X o ta) (hv:PE X value tv) (hs:swapsWith value (some (.Attribute o f pos')) pos.line X.env=pure false):PS X (.Assign [.Attribute o f pos'] value pos) (zry X.K ta tv f):=by
 intro pins s σ H D I h
 refine plainObj_wpAny_Assign_Attribute (thn (hv pins s σ H _ I h) fun u s1 ⟨y,H1,I1,ry,q⟩=>thn (ha pins s1 σ H1 _ I1 q) fun ov s2 ⟨x,H2,I2,rx,a,C,dx,fs,ex,ea,c,n,l,q2⟩=>?_) hs
 subst ex
 obtain rfl:ov=Value.ref a:=rx
 exact zlr I2 ea c n l ry fun s3 I3=>⟨σ,_,I3,q2⟩
end
section
variable {X:Cx} {pins:List (Addr × Obj)} {σ:St} {H:Hp} {s:Shared} {A:Around} {E:Value→Shared→Prop} {Q:Value→Shared→Prop} {c:Value} {b:Bool}
end
end L2
namespace L2
open PySem PySem.Spec PyProof.Rows
structure za9 (k:Nat) (A:Around):Prop where
 hd:A.handled=none
 dp:A.depth + 3 * k + 5 < recursionLimit
 un:A.units + 16 * k + 200 < cLine
theorem za9.mono {j k:Nat} {A:Around} (r:za9 k A) (h:j≤k):za9 j A:=⟨r.hd,by have:=r.dp;omega,by have:=r.un;omega⟩
theorem za9.deeper {k:Nat} {A:Around} (r:za9 (k + 1) A) (env:Env):za9 k (A.deeper env):=
 ⟨r.hd,by have:=r.dp;show A.depth + 1 + 3 * k + 5 < _;omega,by have:=r.un;show A.units + 3 + 16 * k + 200 < _;omega⟩
theorem zlV {A:Around} {C:Addr} {us:List Value} {kw:List (Str × Value)}:(A.under (.builtin "type.__call__" ⟨.ref C::us,kw⟩)).depth=A.depth + 1:=by
 first | rfl | simp [Around.under,Code.weight,Code.isCreation,Code.isGuard,Code.isCaller,Code.frames,Code.isFrame,guardIds]
theorem zlU {A:Around} {C:Addr} {us:List Value} {kw:List (Str × Value)}:(A.under (.builtin "type.__call__" ⟨.ref C::us,kw⟩)).units=A.units + 1:=by
 first | rfl | simp [Around.under,Code.cUnits,Code.frames,Code.isFrame]
theorem za9.make {k:Nat} {A:Around} (r:za9 (k + 1) A) (C:Addr) (us:List Value) (kw:List (Str × Value)):za9 k (A.under (.builtin "type.__call__" ⟨.ref C::us,kw⟩)):=
 ⟨r.hd,by have:=r.dp;rw [zlV];omega,by have:=r.un;rw [zlU];omega⟩
theorem za9.depth {k:Nat} {A:Around} (r:za9 k A):A.depth < recursionLimit:=by have:=r.dp;omega
theorem za9.units {k:Nat} {A:Around} (r:za9 k A):A.units + 64 < cLine:=by have:=r.un;omega
theorem za9.units0 {k:Nat} {A:Around} (r:za9 k A):A.units < cLine:=by have:=r.un;omega
noncomputable def znV:TA:=fun _ H Q=>Q [] H
noncomputable def zgJ (ta:TE) (tr:TA):TA:=fun σ H Q=>ta σ H fun x H1=>tr σ H1 fun xs H2=>Q (x::xs) H2
section
variable {X:Cx} {e:Expr} {es:List Expr} {te:TE} {t:TA} {pos:Pos}
theorem zb:PA X [] znV:=fun _ _ _ _ H Q I h=>Calls.spliced_nil ⟨[],H,I,.nil,h⟩
theorem zpI (ha:PE X e te) (hr:PA X es t) (hs:starEach (e::es) X.env=(false,eval e X.env)::starEach es X.env:=by rfl):PA X (e::es) (zgJ te t):=by
 intro pos pins s σ H Q I h
 rw [hs]
 show wpAny _ _ (spliced ((false,eval e X.env)::backTo pos (starEach es X.env))) _ _ s
 refine Calls.spliced_cons (thn (ha pins s σ H _ I h) fun u s1 ⟨x,H1,I1,r1,q1⟩=>?_)
 exact thn (hr pos pins s1 σ H1 _ I1 q1) fun us s2 ⟨xs,H2,I2,r2,q2⟩=>⟨x::xs,H2,I2,.cons r1 r2,q2⟩
noncomputable def zsl (t:TA):TE:=fun σ H Q=>t σ H fun xs H1=>xs.length≤sizeLine∧∀p,H1 p=none→Q (.ref p) (upd H1 p (.tup xs))
noncomputable def zsn (t:TA):TE:=fun σ H Q=>t σ H fun xs H1=>xs.length≤sizeLine∧∀p,H1 p=none→Q (.ref p) (upd H1 p (.lst xs))
theorem zqQ {x1} (h:PA X es t):PE X (.Tuple es x1 pos) (zsl t):=by
 intro pins s σ H Q I hq
 refine wpAny_Tuple_spliced (thn (h pos pins s σ H _ I hq) fun us s1 ⟨xs,H1,I1,r,z,q⟩=>⟨by rw [← r.length];exact z,?_⟩)
 have hf:H1 s1.heap.objs.size=none:=I1.hok.fresh (Nat.le_refl _)
 refine ⟨.ref s1.heap.objs.size,upd H1 s1.heap.objs.size (.tup xs),I1.laid (t':=s1.toks) (fun b u e=>Heap.get?_push_of_some _ e) (Nat.le_refl _) ?_,rfl,q _ hf⟩
 exact ⟨z,us,r,⟨_,Heap.get?_push_size _ rfl,rfl,_,rfl⟩⟩
theorem zO (h:PA X es t):PE X (.List es pos) (zsn t):=by
 intro pins s σ H Q I hq
 refine wpAny_List_spliced (thn (h pos pins s σ H _ I hq) fun us s1 ⟨xs,H1,I1,r,z,q⟩=>⟨by rw [← r.length];exact z,?_⟩)
 have hf:H1 s1.heap.objs.size=none:=I1.hok.fresh (Nat.le_refl _)
 refine ⟨.ref s1.heap.objs.size,upd H1 s1.heap.objs.size (.lst xs),I1.laid (t':=s1.toks) (fun b u e=>Heap.get?_push_of_some _ e) (Nat.le_refl _) ?_,rfl,q _ hf⟩
 exact ⟨z,us,0,r,Heap.get?_push_size _ rfl⟩
end
noncomputable abbrev Sp:=List V→Hp→VK→XK→Prop
noncomputable abbrev CXT:=List Env→Hp→Shared→XK→Value→Shared→Prop
structure zqh (P:Program) (w:World) (K:PySem.W.Frag) (mg:Str→Option Value) (base:Heap) (A:Around) (outer:List Env) (s:Shared) (H:Hp):Prop where
 frames:A.frames=some outer
 mod:Mod K mg base
 bs:∀b o,base.get? b=some o→s.heap.get? b=some o∧H b=none
 bsz:base.objs.size≤s.heap.objs.size
 funs:s.heap.FunFrames base outer
 frf:∀b ∈ frs outer,H b=none
 hok:HOk P w H s.heap
 bare:AllBare s.gens
noncomputable def CE (outer:List Env) (P:Program) (w:World) (H:Hp) (s:Shared) (Q:VK) (u:Value) (s':Shared):Prop:=
 ∃v H',s'.os=s.os∧AllBare s'.gens∧Un (frs outer) [] H H' s.heap s'.heap∧HOk P w H' s'.heap∧Yz v u∧Q v H'
noncomputable def CR (CX:CXT) (outer:List Env) (P:Program) (w:World) (H:Hp) (s:Shared) (Q:VK) (E:XK) (r:Result) (s':Shared):Prop:=
 match r with
 | .ok (.ret u)=>CE outer P w H s Q u s'
 | .ok _=>False
 | .error e=>CX outer H s E e s'
structure zmp (P:Program) (w:World) (K:PySem.W.Frag) (mg:Str→Option Value) (base:Heap) (CX:CXT) (k:Nat) (f:Addr) (fd:FuncData) (ps:List Str) (sp:Sp):Prop where
 len:∀vs H Q E,sp vs H Q E→vs.length=ps.length
 run:∀(A:Around) (outer:List Env) (s:Shared) (H:Hp) (args:Args) (us:List Value) (vs:List V) (Q:VK) (E:XK),za9 k A→zqh P w K mg base A outer s H→BindsTo s fd args (ps.zip us)→yU vs us→sp vs H Q E→
  codeAny (model P w) A (.call (.ref f) args) (CR CX outer P w H s Q E) s
theorem zqh.make {P:Program} {w:World} {K:PySem.W.Frag} {mg:Str→Option Value} {base:Heap} {A:Around} {outer:List Env} {s:Shared} {H:Hp} (e:zqh P w K mg base A outer s H) (C:Addr) (us:List Value) (kw:List (Str × Value)):
  zqh P w K mg base (A.under (.builtin "type.__call__" ⟨.ref C::us,kw⟩)) outer s H:=⟨by first | exact e.frames | (simpa [Around.under,Code.envs,Code.isFrame,pushEnvs] using e.frames),e.mod,e.bs,e.bsz,e.funs,e.frf,e.hok,e.bare⟩
section
variable {X:Cx} {pins:List (Addr × Obj)} {σ:St} {H:Hp} {s s':Shared}
theorem Inv.env0 (I:Inv X pins σ H s):zqh X.prog X.w X.K X.mg X.base X.A X.stack s H:=
 ⟨I.ok.frames,I.ok.mod,I.bs,Nat.le_trans I.ok.bsz I.sz,I.stack,I.stkFree,I.hok,I.bare⟩
theorem Inv.after {Q:VK} {u:Value} (I:Inv X pins σ H s) (h:CE X.stack X.prog X.w H s Q u s'):EP X pins σ Q u s':=by
 obtain ⟨v,H',os,bare,un,hok,r,q⟩:=h
 obtain ⟨hh,g,d,t,os'⟩:=s'
 obtain rfl:os'=s.os:=os
 exact ⟨v,H',I.call (h':=hh) (g':=g) (d':=d) (t':=t) (ch:=[]) un hok bare (fun b z=>absurd z (by simp)),r,q⟩
end
noncomputable def zqv (sp:Sp) (dvs:List V) (E:XK) (t:TA):TE:=fun σ H Q=>t σ H fun vs H1=>sp (vs++dvs) H1 Q E
noncomputable def zrL (C:Addr) (m:Str) (sp:Sp) (dvs:List V) (E:XK) (ta:TE) (t:TA):TE:=fun σ H Q=>ta σ H fun x H1=>∃a dx fs,x=.ref a∧H1 a=some (.ins C dx fs)∧fs.lookup m=none∧
 t σ H1 fun vs H2=>sp (x::(vs++dvs)) H2 Q E
noncomputable def zqu (C:Addr) (sp:Sp) (dvs:List V) (E:XK) (t:TA):TE:=fun σ H Q=>t σ H fun vs H1=>∀x dx,H1 x=none→H1 dx=none→dx≠x→
 sp (.ref x::(vs++dvs)) (upd (upd H1 dx (.own x)) x (.ins C dx [])) (fun v H2=>v=.non∧Q (.ref x) H2) E
noncomputable def zdA (K:PySem.W.Frag) (fd:FuncData) (ps:List Str) (ds:List Value):Prop:=
 ∀(s:Shared) (us:List Value),K.In s.heap→(us++ds).length=ps.length→BindsTo s fd ⟨us,[]⟩ (ps.zip (us++ds))
theorem zdA.all {K:PySem.W.Frag} {fd:FuncData} {ps:List Str} (h:∀us:List Value,us.length=ps.length→bindArgs fd ⟨us,[]⟩=pure (ps.zip us)):zdA K fd ps []:=fun s us _ hl=>by
 rw [List.append_nil] at hl ⊢
 exact .of_eq (h us hl)
noncomputable def zdR (CX:CXT) (X:Cx) (E:XK):Prop:=∀(pins:List (Addr × Obj)) (σ:St) (H:Hp) (s:Shared) (e:Value) (s':Shared),Inv X pins σ H s→CX X.stack H s E e s'→X.xe e s'
section
variable {X:Cx} {CX:CXT} {k:Nat} {f C:Addr} {fd:FuncData} {ps:List Str} {sp:Sp} {dvs:List V} {ds:List Value} {E:XK} {x m:Str} {p pos apos:Pos} {e o:Expr} {es:List Expr} {ta:TE} {t:TA}
theorem zmN {pins:List (Addr × Obj)} {σ:St} {H:Hp} {s:Shared} {Q:VK} {us:List Value} {vs:List V} (F:zmp X.prog X.w X.K X.mg X.base CX k f fd ps sp) (hr:za9 k X.A) (hb:zdA X.K fd ps ds) (hd:yU dvs ds) (hx:zdR CX X E)
  (I:Inv X pins σ H s) (r:yU vs us) (h:sp (vs++dvs) H Q E):wpAny (model X.prog X.w) X.A (call (.ref f) us) (EP X pins σ Q) X.xe s:=by
 have r2:yU (vs++dvs) (us++ds):=r.append hd
 have hl:(us++ds).length=ps.length:=by rw [← r2.length];exact F.len _ _ _ _ h
 refine wpAny_call (codeAny_mono (F.run X.A X.stack s H ⟨us,[]⟩ (us++ds) (vs++dvs) Q E hr I.env0 (hb s us I.kIn hl) r2 h) fun r s' hq=>?_)
 cases r with
 | error e=>exact hx pins σ H s e s' I hq
 | ok fl=>
  cases fl with
  | ret u=>exact I.after hq
  | next=>exact False.elim hq
  | brk=>exact False.elim hq
  | cont=>exact False.elim hq
theorem zpH (F:zmp X.prog X.w X.K X.mg X.base CX k f fd ps sp) (hr:za9 k X.A) (hg:Gl X x) (hm:X.mg x=some (.ref f)) (hk:PySem.W.keepIn X.K (.ref f)=true) (hb:zdA X.K fd ps ds) (hd:yU dvs ds) (hx:zdR CX X E)
  (ha:PA X (e::es) t) (hdb:(x == ("__debug__":Str))=false:=by decide) (he:starEach (e::es) X.env=(false,eval e X.env)::starEach es X.env:=by rfl) (hpl:(backTo pos (starEach es X.env)).any (·.1)=false:=by rfl):
  PE X (.Call (.Name x p) (e::es) [] pos) (zqv sp dvs E t):=by
 intro pins s σ H Q I h
 refine wpAny_Call_Name_kw (zfg I hg hm ?_ hdb)
 refine PySem.W.callWith_K (h₀:=X.base) I.ok.mod.kin hk (thn (ha pos pins s σ H _ I h) fun us s1 ⟨vs,H1,I1,r,q⟩=>⟨I1.kIn,?_⟩) he hpl
 exact zmN F hr hb hd hx I1 r q
theorem zoo (F:zmp X.prog X.w X.K X.mg X.base CX k f fd ps sp) (hr:za9 k X.A) (hg:Gl X x) (hm:X.mg x=some (.ref f)) (hk:PySem.W.keepIn X.K (.ref f)=true) (hb:zdA X.K fd ps ds) (hd:yU dvs ds) (hx:zdR CX X E)
  (hdb:(x == ("__debug__":Str))=false:=by decide):PE X (.Call (.Name x p) [] [] pos) (zqv sp dvs E znV):=by
 intro pins s σ H Q I h
 refine wpAny_Call_Name_kw (zfg I hg hm ?_ hdb)
 exact PySem.W.callWith_K0 I.kIn hk (zmN (us:=[]) F hr hb hd hx I .nil h)
theorem zpD {pl:Sem Bool} (he:PE X o ta) (c:Cls X.K C) (hm:zrH X.K C m f) (F:zmp X.prog X.w X.K X.mg X.base CX k f fd ps sp) (hr:za9 k X.A) (hb:zdA X.K fd ps ds) (hd:yU dvs ds) (hx:zdR CX X E) (ha:PA X (e::es) t)
  (hst:starEach (e::es) X.env=(false,eval e X.env)::starEach es X.env:=by rfl) (hpl:(backTo pos (starEach es X.env)).any (·.1)=false:=by rfl)
  (ht:eval (.Call (.Attribute o m apos) (e::es) [] pos) X.env=(do
   let ov ← eval o X.env
   standAt apos.atName
   let (f,first) ← holding [ov] (getMethod ov m pl)
   callWith pos f first (backTo pos (starEach (e::es) X.env)) (backToKw pos (keywordEach [] X.env))):=by rfl):
  PE X (.Call (.Attribute o m apos) (e::es) [] pos) (zrL C m sp dvs E ta t):=by
 intro pins s σ H Q I h
 refine PySem.W.methodCall_KW (pl:=pl) (thn (he pins s σ H _ I h) fun u s1 ⟨x,H1,I1,rx,a,dx,fs,ex,ea,l,q⟩=>?_) ht
 subst ex
 obtain rfl:u=Value.ref a:=rx
 refine zlY I1 ea c hm l ?_
 refine PySem.W.callWith_K (first:=[.ref a]) (h₀:=X.base) I.ok.mod.kin hm.kp (thn (ha pos pins s1 σ H1 _ I1 q) fun us s2 ⟨vs,H2,I2,r,q2⟩=>⟨I2.kIn,?_⟩) hst hpl
 exact zmN (us:=.ref a::us) (vs:=.ref a::vs) F hr hb hd hx I2 (.cons rfl r) q2
structure Mk (K:PySem.W.Frag) (C f:Addr):Prop where
 makes:PySem.W.makesIn K C=true
 init:PySem.W.findIn K (.ref C) "__init__"=some (some (.ref f))
 fn:PySem.W.isFn K (.ref f)=true
 kp:PySem.W.keepIn K (.ref C)=true
theorem zkS {pins:List (Addr × Obj)} {σ:St} {H:Hp} {s:Shared} {Q:VK} {us:List Value} {vs:List V} (M:Mk X.K C f) (F:zmp X.prog X.w X.K X.mg X.base CX k f fd ps sp) (hr:za9 (k + 1) X.A) (hb:zdA X.K fd ps ds) (hd:yU dvs ds)
  (hx:zdR CX X E) (I:Inv X pins σ H s) (r:yU vs us)
  (h:∀x dx,H x=none→H dx=none→dx≠x→sp (.ref x::(vs++dvs)) (upd (upd H dx (.own x)) x (.ins C dx [])) (fun v H2=>v=.non∧Q (.ref x) H2) E):
  wpAny (model X.prog X.w) X.A (call (.ref C) us) (EP X pins σ Q) X.xe s:=by
 have hq:=h (s.heap.objs.size + 1) s.heap.objs.size (I.hok.fresh (Nat.le_succ _)) (I.hok.fresh (Nat.le_refl _)) (Nat.ne_of_lt (Nat.lt_succ_self _))
 have I2:=Inv.made (C:=C) I
 have r2:yU (V.ref (s.heap.objs.size + 1)::(vs++dvs)) (Value.ref (s.heap.objs.size + 1)::(us++ds)):=.cons rfl (r.append hd)
 have hl:(Value.ref (s.heap.objs.size + 1)::us++ds).length=ps.length:=by
  have e:=r2.length
  rw [F.len _ _ _ _ hq] at e
  exact e.symm
 refine wpAny_call (zoA (f:=f) I.kIn M.makes M.init (beq_iff_eq.mp M.fn) (codeAny_mono (F.run _ X.stack _ _ ⟨Value.ref (s.heap.objs.size + 1)::us,[]⟩ (Value.ref (s.heap.objs.size + 1)::(us++ds)) _ _ E (hr.make C us [])
  (I2.env0.make C us []) (hb _ (Value.ref (s.heap.objs.size + 1)::us) I2.kIn hl) r2 hq) fun r s' hq'=>?_))
 cases r with
 | error e=>exact hx pins σ _ _ e s' I2 hq'
 | ok fl=>
  cases fl with
  | ret u=>
   obtain ⟨v,H',I3,rv,ev,q3⟩:=I2.after hq'
   subst ev
   exact ⟨rv,⟨V.ref (s.heap.objs.size + 1),H',I3,rfl,q3⟩⟩
  | next=>exact False.elim hq'
  | brk=>exact False.elim hq'
  | cont=>exact False.elim hq'
theorem zpE (M:Mk X.K C f) (F:zmp X.prog X.w X.K X.mg X.base CX k f fd ps sp) (hr:za9 (k + 1) X.A) (hg:Gl X x) (hm:X.mg x=some (.ref C)) (hb:zdA X.K fd ps ds) (hd:yU dvs ds) (hx:zdR CX X E)
  (ha:PA X (e::es) t) (hdb:(x == ("__debug__":Str))=false:=by decide) (he:starEach (e::es) X.env=(false,eval e X.env)::starEach es X.env:=by rfl) (hpl:(backTo pos (starEach es X.env)).any (·.1)=false:=by rfl):
  PE X (.Call (.Name x p) (e::es) [] pos) (zqu C sp dvs E t):=by
 intro pins s σ H Q I h
 refine wpAny_Call_Name_kw (zfg I hg hm ?_ hdb)
 refine PySem.W.callWith_K (h₀:=X.base) I.ok.mod.kin M.kp (thn (ha pos pins s σ H _ I h) fun us s1 ⟨vs,H1,I1,r,q⟩=>⟨I1.kIn,?_⟩) he hpl
 exact zkS M F hr hb hd hx I1 r q
theorem zol (M:Mk X.K C f) (F:zmp X.prog X.w X.K X.mg X.base CX k f fd ps sp) (hr:za9 (k + 1) X.A) (hg:Gl X x) (hm:X.mg x=some (.ref C)) (hb:zdA X.K fd ps ds) (hd:yU dvs ds) (hx:zdR CX X E)
  (hdb:(x == ("__debug__":Str))=false:=by decide):PE X (.Call (.Name x p) [] [] pos) (zqu C sp dvs E znV):=by
 intro pins s σ H Q I h
 refine wpAny_Call_Name_kw (zfg I hg hm ?_ hdb)
 exact PySem.W.callWith_K0 I.kIn M.kp (zkS (us:=[]) M F hr hb hd hx I .nil h)
end
section
variable {X:Cx} {CX:CXT} {k:Nat} {f C:Addr} {fd:FuncData} {ps ks:List Str} {sp:Sp} {E:XK} {x m:Str} {p pos apos kpos:Pos} {e o:Expr} {es:List Expr} {kws:List Keyword} {te ta:TE} {t tk:TA} {nm:Option Str}
variable {g:List Value→List Value→List Value} {gV:List V→List V→List V}
end
structure zn (N P:List Str) (sc:Scope):Prop where
 kind:sc.kind=.function
 co:sc.isCoroutine=false
 gen:sc.isGenerator=false
 nd:N.Nodup
 pre:N.take P.length=P
 par:∀x ∈ P,sc.names.lookup x=some .local∨sc.names.lookup x=some .cell
 nofree:∀y ∈ sc.names,y.2≠.free
theorem zjs {kindOf:Str→Option NameKind} {x:Str}:∀{binds:List (Str × Value)} {m:Str→Option Value},(∀v,(x,v) ∉ binds)→bindL kindOf binds m x=m x
 | [],_,_=>rfl
 | (n,v)::r,m,h=>by
  unfold bindL
  rw [zjs fun w hw=>h w (List.mem_cons_of_mem _ hw)]
  split
  ·have:x≠n:=by rintro rfl;exact h v List.mem_cons_self
   simp [this]
  ·rfl
theorem zju {kindOf:Str→Option NameKind} {x:Str}:∀{binds:List (Str × Value)} {m:Str→Option Value},(∀v,(x,v) ∉ binds)→bindC kindOf binds m x=m x
 | [],_,_=>rfl
 | (n,v)::r,m,h=>by
  unfold bindC
  rw [zju fun w hw=>h w (List.mem_cons_of_mem _ hw)]
  split
  ·rfl
  ·have:x≠n:=by rintro rfl;exact h v List.mem_cons_self
   simp [this]
theorem zjt {kindOf:Str→Option NameKind} {x:Str} {v:Value}:∀{P:List Str} {vs:List Value} {i:Nat} {m:Str→Option Value},P.Nodup→P[i]?=some x→vs[i]?=some v→kindOf x=some .local→
  bindL kindOf (P.zip vs) m x=some v
 | [],_,_,_,_,h,_,_=>by simp at h
 | _::_,[],_,_,_,_,h,_=>by simp at h
 | p::P,w::vs,0,m,nd,h1,h2,hk=>by
  simp at h1 h2;subst h1;subst h2
  show bindL kindOf ((p,w)::P.zip vs) m p=_
  unfold bindL
  rw [zjs fun v hv=>(List.nodup_cons.mp nd).1 (List.of_mem_zip hv).1,if_pos hk]
  simp
 | p::P,w::vs,i + 1,m,nd,h1,h2,hk=>by
  show bindL kindOf ((p,w)::P.zip vs) m x=_
  unfold bindL
  exact zjt (i:=i) (List.nodup_cons.mp nd).2 (by simpa using h1) (by simpa using h2) hk
theorem zjv {kindOf:Str→Option NameKind} {x:Str} {v:Value}:∀{P:List Str} {vs:List Value} {i:Nat} {m:Str→Option Value},P.Nodup→P[i]?=some x→vs[i]?=some v→kindOf x≠some .local→
  bindC kindOf (P.zip vs) m x=some v
 | [],_,_,_,_,h,_,_=>by simp at h
 | _::_,[],_,_,_,_,h,_=>by simp at h
 | p::P,w::vs,0,m,nd,h1,h2,hk=>by
  simp at h1 h2;subst h1;subst h2
  show bindC kindOf ((p,w)::P.zip vs) m p=_
  unfold bindC
  rw [zju fun v hv=>(List.nodup_cons.mp nd).1 (List.of_mem_zip hv).1,if_neg hk]
  simp
 | p::P,w::vs,i + 1,m,nd,h1,h2,hk=>by
  show bindC kindOf ((p,w)::P.zip vs) m x=_
  unfold bindC
  exact zjv (i:=i) (List.nodup_cons.mp nd).2 (by simpa using h1) (by simpa using h2) hk
noncomputable def start (N:List Str) (vs:List V):St:=vs.map some++List.replicate (N.length - vs.length) none
noncomputable def zp5 (CX:CXT) (P:Program) (w:World) (K:PySem.W.Frag) (mg:Str→Option Value) (base:Heap) (N:List Str) (qual:Str) (scope:Scope) (f:Addr) (cd:Value) (A:Around) (outer:List Env) (s:Shared) (H:Hp) (E:XK):Cx where
 prog:=P
 w:=w
 K:=K
 mg:=mg
 base:=base
 A:=A.deeper (envOfC qual scope s.heap.objs.size f cd)
 N:=N
 s₀:=s
 H₀:=H
 env:=envOfC qual scope s.heap.objs.size f cd
 outer:=outer
 stack:=envOfC qual scope s.heap.objs.size f cd::outer
 ex:=[]
 calm:=true
 fn:=fun _=>true
 pn:=[]
 xe:=fun e s'=>wpAny (model P w) (A.deeper (envOfC qual scope s.heap.objs.size f cd)) (leaving (envOfC qual scope s.heap.objs.size f cd) e) (fun _ s''=>CX outer H s E e s'') (fun e' s''=>CX outer H s E e' s'') s'
theorem zk5 {sc:Scope} {n:Nat} {x:Str} (h:sc.names.lookup x=some .cell):∃c,(cellsFrom n sc.names []).lookup x=some c:=by
 have q:=PySem.W.cellsFrom_some sc.names n [] (.inl h)
 exact Option.isSome_iff_exists.mp q
theorem znn {CX:CXT} {P:Program} {w:World} {K:PySem.W.Frag} {mg:Str→Option Value} {base:Heap} {N ps:List Str} {qual:Str} {scope:Scope} {f:Addr} {cd:Value} {A:Around} {outer:List Env} {s s1:Shared} {H:Hp} {E:XK} {us:List Value} {vs:List V}
  (S:zn N ps scope) (hd:A.handled=none) (e0:zqh P w K mg base A outer s H) (hl:vs.length=ps.length) (r:yU vs us)
  (x:InCallC s s.heap.objs.size (bindL (envOfC qual scope s.heap.objs.size f cd).kindOf (ps.zip us) fun _=>none) (cellsFrom (s.heap.objs.size + 1) scope.names []) (bindC (envOfC qual scope s.heap.objs.size f cd).kindOf (ps.zip us) fun _=>none) s1):
  Inv (zp5 CX P w K mg base N qual scope f cd A outer s H E) [] (start N vs) H s1:=by
 have hpl:ps.length≤N.length:=by have:=congrArg List.length S.pre;rw [List.length_take] at this;omega
 obtain ⟨h1,tk,rfl,hk⟩:=x.done
 have noA:∀b:Addr,b ∉ (zp5 CX P w K mg base N qual scope f cd A outer s H E).ex:=fun b z=>absurd (show b ∈ ([]:List Addr) from z) (by simp)
 refine ⟨⟨e0.mod,S.kind,rfl,rfl,Nat.le_refl _,fun y z c h1 h2=>?_,fun y hy=>?_,fun y c _ h=>?_,fun _=>hd,Around.frames_deeper e0.frames,.inr ⟨rfl,rfl⟩,fun b z=>absurd z (noA b),e0.bs,e0.bsz,fun b _ _=>noA b,fun b z=>absurd z (noA b),e0.funs,e0.frf⟩,
  rfl,e0.bare,Un.kept hk,⟨_,x.toInCall.ns,fun i y v h1 h2 h3=>?_⟩,fun y c h=>⟨_,x.cell y c h⟩,e0.hok.fresh (Nat.le_refl _),fun y c h=>?_,fun p hp=>absurd (show p ∈ ([]:List (Addr × Obj)) from hp) (by simp),e0.hok.kept hk,?_⟩
 ·exact name_of_addr x.apart (PySem.mem_of_lookup h1) (PySem.mem_of_lookup h2)
 ·have hy:scope.names.lookup y=some .cell∨scope.names.lookup y=some .free:=hy
  rcases hy with hy | hy
  ·exact zk5 hy
  ·exact absurd rfl (S.nofree _ (PySem.mem_of_lookup hy))
 ·exact Nat.le_of_lt (x.above y c (PySem.mem_of_lookup h))
 ·have hi:i < vs.length:=by
   unfold start at h2
   by_cases hi:i < vs.length
   ·exact hi
   ·rw [List.getElem?_append_right (by simpa using hi)] at h2
    rw [List.getElem?_replicate] at h2
    split at h2 <;> cases h2
  have ha:vs[i]?=some v:=by
   unfold start at h2
   rw [List.getElem?_append_left (by simpa using hi),List.getElem?_map] at h2
   cases e:vs[i]? with
   | none=>rw [e] at h2;cases h2
   | some a=>rw [e] at h2;cases h2;rfl
  obtain ⟨u,hu,rv⟩:=r.get ha
  have hp:ps[i]?=some y:=by
   rw [← S.pre,List.getElem?_take_of_lt (by omega)];exact h1
  have ndP:ps.Nodup:=by rw [← S.pre];exact S.nd.sublist (List.take_sublist _ _)
  refine ⟨u,rv,?_⟩
  rcases S.par y (List.mem_of_getElem? hp) with k | k
  ·exact .inl ⟨k,zjt ndP hp hu k⟩
  ·obtain ⟨c,e⟩:=zk5 (n:=s.heap.objs.size + 1) k
   refine .inr ⟨.inl k,c,e,?_⟩
   have q:=x.cell y c e
   rw [zjv ndP hp hu (by show scope.names.lookup y≠_;rw [k];decide)] at q
   exact q
 ·exact e0.hok.fresh (Nat.le_of_lt (x.above y c (PySem.mem_of_lookup h)))
 ·unfold start
  show _=N.length
  rw [List.length_append,List.length_map,List.length_replicate]
  omega
theorem zr8 {CX:CXT} {P:Program} {w:World} {K:PySem.W.Frag} {mg:Str→Option Value} {base:Heap} {k:Nat} {f:Addr} {name qual:Str} {params:Arguments} {body:List Stmt} {scope:Scope} {dV kV doc pm cdv ct oc:Value} {an od:Option Addr}
  {osl:Array (Option Value)} {N ps:List Str} {sp:Sp} (lk:K.lookup f=some ⟨oc,od,.func (PySem.W.fnOf name qual params body scope dV kV doc pm an cdv ct),osl⟩) (hcd:PySem.W.codeIn K cdv qual=true) (S:zn N ps scope)
  (len:∀vs H Q E,sp vs H Q E→vs.length=ps.length)
  (hbody:∀(A:Around) (outer:List Env) (s:Shared) (H:Hp) (vs:List V) (Q:VK) (E:XK),za9 k (A.deeper (envOfC qual scope s.heap.objs.size f cdv))→sp vs H Q E→
   ∃t,PSs (zp5 CX P w K mg base N qual scope f cdv A outer s H E) body t∧t {nx:=fun _ H'=>Q .non H',rt:=Q} (start N vs) H):
  zmp P w K mg base CX (k + 1) f (PySem.W.fnOf name qual params body scope dV kV doc pm an cdv ct) ps sp:=by
 refine ⟨len,fun A outer s H args us vs Q E hr e0 hb r hsp=>?_⟩
 have hl:=len _ _ _ _ hsp
 have KX:K.In s.heap:=e0.mod.kin.keeps fun b o e=>(e0.bs b o e).1
 have lim:s.heap.NoLimit:=e0.mod.nolimit.keeps fun b o e=>(e0.bs b o e).1
 have hkind:∀y ∈ ps.zip us,scope.names.lookup y.1=some .local∨(scope.names.lookup y.1=some .cell∧((cellsFrom (s.heap.objs.size + 1) scope.names []).lookup y.1).isSome=true):=fun ⟨n,v⟩ hy=>by
  rcases S.par n (List.of_mem_zip hy).1 with q | q
  ·exact .inl q
  ·exact .inr ⟨q,PySem.W.cellsFrom_some _ _ _ (.inl q)⟩
 refine codeAny_call_function hr.depth (KX _ _ lk) rfl S.co S.gen rfl (PySem.W.codeRec_of KX hcd) (hb _ _ _ _ ?_)
 refine wpAny_newFunctionEnv_cells S.kind hkind fun env he s1 x=>?_
 subst he
 refine ⟨lim.keeps x.toInCall.keep,codeAny_func ?_⟩
 obtain ⟨t,ht,hq⟩:=hbody A outer s H vs Q E (hr.deeper _) hsp
 have I:Inv (zp5 CX P w K mg base N qual scope f cdv A outer s H E) [] (start N vs) H s1:=znn S hr.hd e0 hl r x
 refine wpAny_mono (ht [] s1 (start N vs) H _ I hq) (fun fl s' hs=>?_) fun e s' hs=>hs
 have fin:∀{σ':St} {H':Hp} {v:V} {u:Value},Inv (zp5 CX P w K mg base N qual scope f cdv A outer s H E) [] σ' H' s'→Yz v u→Q v H'→CE outer P w H s Q u s':=
  fun {σ' H' v u} J rv q=>⟨v,H',J.os,J.bare,J.base,J.hok,rv,q⟩
 cases fl with
 | ret u=>
  obtain ⟨v,σ',H',J,rv,q⟩:=hs
  exact fin J rv q
 | next=>
  obtain ⟨σ',H',J,q⟩:=hs
  exact fin (v:=V.non) (u:=Value.none) J rfl q
 | brk=>
  obtain ⟨_,_,_,q⟩:=hs
  exact False.elim q
 | cont=>
  obtain ⟨_,_,_,q⟩:=hs
  exact False.elim q
end L2
namespace L2
open PySem PySem.Spec PyProof.Rows
section
variable {X:Cx} {x:Str} {p pos:Pos} {e:Expr} {es:List Expr} {t:TA} {id T:String} {r:List V→Hp→VK→Prop}
noncomputable def tCB (r:List V→Hp→VK→Prop) (t:TA):TE:=fun σ H Q=>t σ H fun vs H1=>r vs H1 Q
theorem zon (hc:JW X (.builtin id) r) (hg:Gl X x) (hm:X.mg x=none) (hv:bootBuiltins x=some (.builtin id)) (ha:PA X (e::es) t) (hn:x≠"__name__":=by decide) (hdb:(x == ("__debug__":Str))=false:=by decide)
  (he:starEach (e::es) X.env=(false,eval e X.env)::starEach es X.env:=by rfl) (hpl:(backTo pos (starEach es X.env)).any (·.1)=false:=by rfl):PE X (.Call (.Name x p) (e::es) [] pos) (tCB r t):=by
 intro pins s σ H Q I h
 refine wpAny_Call_Name_kw (zgF I hg hm hv ?_ hn hdb)
 exact PyProof.Rows.callWith_builtin1 (thn (ha pos pins s σ H _ I h) fun us s1 ⟨vs,H1,I1,r1,q1⟩=>hc pins s1 σ H1 vs us Q I1 r1 q1) he hpl
theorem zm1 (hc:JW X (.type T) r) (hg:Gl X x) (hm:X.mg x=none) (hv:bootBuiltins x=some (.type T)) (ha:PA X (e::es) t) (hn:x≠"__name__":=by decide) (hdb:(x == ("__debug__":Str))=false:=by decide)
  (he:starEach (e::es) X.env=(false,eval e X.env)::starEach es X.env:=by rfl) (hpl:(backTo pos (starEach es X.env)).any (·.1)=false:=by rfl):PE X (.Call (.Name x p) (e::es) [] pos) (tCB r t):=by
 intro pins s σ H Q I h
 refine wpAny_Call_Name_kw (zgF I hg hm hv ?_ hn hdb)
 exact PyProof.Rows.callWith_type1 (thn (ha pos pins s σ H _ I h) fun us s1 ⟨vs,H1,I1,r1,q1⟩=>hc pins s1 σ H1 vs us Q I1 r1 q1) he hpl
end
end L2
namespace HT
open PySem PyProof.Rows
section
open PySem.SeqAt
open PySem.AutoSeq1 (wpAny_loadPart')
open PySem.MeetsSeq PySem.MeetsSeq2 PySem.MeetsSeq3
end
section
variable {prog:Program} {w:World} {A:Around} {E:Value→Shared→Prop} {s:Shared}
noncomputable def sIx (n d:Nat):Option Int→Nat
 | none=>d
 | some v=>if v < 0 then (v + (n:Int)).toNat else min v.toNat n
theorem sIx_none (n d:Nat):sIx n d none=d:=rfl
theorem sIx_nat (n d k:Nat):sIx n d (some (k:Int))=min k n:=by
 show (if (k:Int) < 0 then ((k:Int) + (n:Int)).toNat else min (k:Int).toNat n)=min k n
 rw [if_neg (by omega),Int.toNat_natCast]
end
end HT
namespace L2
open PySem PySem.Spec PyProof.Rows
noncomputable abbrev TO:=St→Hp→(Option Int→Hp→Prop)→Prop
noncomputable def PO (X:Cx) (e:Option Expr) (t:TO):Prop:=
 ∀(pins:List (Addr × Obj)) (s:Shared) (σ:St) (H:Hp) (Q:Option Int→Hp→Prop),Inv X pins σ H s→t σ H Q→
  wpAny (model X.prog X.w) X.A (evalPart e X.env) (fun u s'=>∃o H',Inv X pins σ H' s'∧IsPart u o∧Q o H') X.xe s
noncomputable def zjV:TO:=fun _ H Q=>Q none H
noncomputable def zmw (t:TE):TO:=fun σ H Q=>t σ H fun x H1=>∃i,x=.int i∧Q (some i) H1
section
variable {X:Cx} {e:Expr} {te:TE} {lo hi:Option Expr} {tl th:TO} {pos p2:Pos}
theorem yR:PO X none zjV:=by
 intro pins s σ H Q I h
 rw [evalPart_none]
 exact wpAny_pure ⟨none,H,I,.none,h⟩
theorem yb (h:PE X e te):PO X (some e) (zmw te):=by
 intro pins s σ H Q I hw
 rw [evalPart_some]
 refine thn (h pins s σ H _ I hw) fun u s1 ⟨x,H1,I1,r1,q1⟩=>?_
 obtain ⟨i,rfl,q⟩:=q1
 obtain ⟨t,rfl⟩:=r1
 exact ⟨some i,H1,I1,.int i t,q⟩
noncomputable def SlR (X:Cx) (r:V→Option Int→Option Int→Hp→VK→Prop):Prop:=
 ∀(pins:List (Addr × Obj)) (s:Shared) (σ:St) (H:Hp) (x:V) (v vl vu:Value) (lo hi:Option Int) (sl:Addr) (Q:VK),Inv X pins σ H s→Yz x v→s.heap.IsSliceOf sl vl vu .none→IsPart vl lo→IsPart vu hi→r x lo hi H Q→
  ∃T id,typeLookup (.type T) "__getitem__"=pure (some (.builtin id))∧s.TypeIs v T∧wpAny (model X.prog X.w) X.A (getItem v (.ref sl)) (EP X pins σ Q) X.xe s
noncomputable def tSl (r:V→Option Int→Option Int→Hp→VK→Prop) (te:TE) (tl th:TO):TE:=fun σ H Q=>te σ H fun x H1=>tl σ H1 fun l H2=>th σ H2 fun u H3=>r x l u H3 Q
theorem ya {r:V→Option Int→Option Int→Hp→VK→Prop} (hr:SlR X r) (he:PE X e te) (hl:PO X lo tl) (hu:PO X hi th):PE X (.Subscript e (.Slice lo hi none p2) pos) (tSl r te tl th):=by
 intro pins s σ H Q I h
 refine Subscript_ (thn (he pins s σ H _ I h) fun v s1 ⟨x,H1,I1,r1,q1⟩=>?_)
 refine wpAny_Slice (thn (hl pins s1 σ H1 _ I1 q1) fun vl s2 ⟨l,H2,I2,pl,q2⟩=>thn (hu pins s2 σ H2 _ I2 q2) fun vu s3 ⟨u,H3,I3,pu,q3⟩=>?_)
 rw [evalPart_none]
 refine wpAny_pure ?_
 have I4:Inv X pins σ H3 {s3 with heap:=s3.heap.push {cls:=.type "slice",data:=.fields #[vl,vu,.none]}}:=I3.kept (t':=s3.toks) fun b ob q=>Heap.get?_push_of_some _ q
 obtain ⟨T,id,hT,ht,hg⟩:=hr pins {s3 with heap:=s3.heap.push {cls:=.type "slice",data:=.fields #[vl,vu,.none]}} σ H3 x v vl vu l u s3.heap.objs.size Q I4 r1 (Heap.IsSliceOf.new ..) pl pu q3
 show wpAny (model X.prog X.w) X.A (subscriptTail e (.Slice lo hi none p2) v (.ref s3.heap.objs.size)) (EP X pins σ Q) X.xe {s3 with heap:=s3.heap.push {cls:=.type "slice",data:=.fields #[vl,vu,.none]}}
 exact tail_any (ops:=[.ref s3.heap.objs.size,v]) ht hT hg (by with_unfolding_all rfl)
noncomputable def zjQ (xs:List V) (lo hi:Option Int):List V:=(xs.drop (HT.sIx xs.length 0 lo)).take (HT.sIx xs.length xs.length hi - HT.sIx xs.length 0 lo)
theorem zkw (xs:List V) (lo hi:Option Int):(zjQ xs lo hi).length≤xs.length:=by
 unfold zjQ
 rw [List.length_take,List.length_drop]
 omega
end
end L2
namespace L2
open PySem PySem.Spec PyProof.Rows
noncomputable def ixN (n:Nat) (i:Int):Option Nat:=if 0≤i then (if i < n then some i.toNat else none) else if -(n:Int)≤i then some (i + n).toNat else none
noncomputable def atI {α:Type} (xs:List α) (i:Int):Option α:=(ixN xs.length i).bind fun j=>xs[j]?
theorem znm {n:Nat} {i:Int} {j:Nat} (h:ixN n i=some j):seqIndex? i n=some j∧j < n∧-(n:Int)≤i∧i < n:=by
 unfold ixN at h
 by_cases h0:0≤i
 ·rw [if_pos h0] at h
  by_cases h1:i < n
  ·rw [if_pos h1] at h
   have e:i.toNat=j:=Option.some.inj h
   exact ⟨by rw [seqIndex_of h0 h1,e],by omega,by omega,h1⟩
  ·rw [if_neg h1] at h;cases h
 ·rw [if_neg h0] at h
  by_cases h1:-(n:Int)≤i
  ·rw [if_pos h1] at h
   have e:(i + n).toNat=j:=Option.some.inj h
   exact ⟨by rw [seqIndex_neg (by omega) h1,e],by omega,h1,by omega⟩
  ·rw [if_neg h1] at h;cases h
theorem znQ {α:Type} {xs:List α} {i:Int} {v:α} (h:atI xs i=some v):∃j,seqIndex? i xs.length=some j∧xs[j]?=some v∧j < xs.length∧-(xs.length:Int)≤i∧i < xs.length:=by
 unfold atI at h
 cases e:ixN xs.length i with
 | none=>rw [e] at h;cases h
 | some j=>
  rw [e] at h
  obtain ⟨h1,h2,h3,h4⟩:=znm e
  exact ⟨j,h1,h,h2,h3,h4⟩
theorem yk {α:Type} {xs:List α} {j:Nat} {v:α} (h:xs[j]?=some v):atI xs (j:Int)=some v:=by
 have hj:j < xs.length:=(List.getElem?_eq_some_iff.mp h).1
 have e:ixN xs.length (j:Int)=some j:=by
  unfold ixN
  rw [if_pos (by omega),if_pos (by omega)];simp
 unfold atI;rw [e];exact h
noncomputable def zqe (b:Expr):Prop:=∀o i,subscripted b false o i=operate [o,i] (getItem o i)
noncomputable def IxR (X:Cx) (r:R2):Prop:=
 ∀(value slice:Expr) (pins:List (Addr × Obj)) (s:Shared) (σ:St) (H:Hp) (x y:V) (v u:Value) (Q:VK),Inv X pins σ H s→Yz x v→Yz y u→r x y H Q→
  subscripted slice false v u=operate [v,u] (getItem v u)→wpAny (model X.prog X.w) X.A (subscriptTail value slice v u) (EP X pins σ Q) X.xe s
noncomputable def MtR (X:Cx) (id:String) (r:V→List V→Hp→VK→Prop):Prop:=
 ∀(pins:List (Addr × Obj)) (s:Shared) (σ:St) (H:Hp) (x:V) (xs:List V) (v:Value) (us:List Value) (Q:VK),Inv X pins σ H s→Yz x v→yU xs us→r x xs H Q→
  wpAny (model X.prog X.w) X.A (call (.builtin id) (v::us)) (EP X pins σ Q) X.xe s
section
variable {X:Cx} {a b:Expr} {ta tb:TE} {pos:Pos}
theorem yE {r:R2} (hr:IxR X r) (ha:PE X a ta) (hb:PE X b tb) (hs:zqe b):PE X (.Subscript a b pos) (tOp r ta tb):=by
 intro pins s σ H Q I h
 exact Subscript_ (zsa ha hb I h fun v u s2 x y H2 I2 rx ry q=>hr a b pins s2 σ H2 x y v u Q I2 rx ry q (hs _ _))
noncomputable def zss (K:PySem.W.Frag):R2:=fun x y H Q=>∃p xs i v,x=.ref p∧y=.int i∧SqL K H p xs∧atI xs i=some v∧Q v H
noncomputable def zsN:R2:=fun x y H Q=>∃z i c,x=.str z∧y=.int i∧z.length≤sizeLine∧atI z.cps.toList i=some c∧Q (.str ⟨#[c]⟩) H
theorem zpS:IxR X (zss X.K):=by
 intro value slice pins s σ H x y v u Q I rx ry h hs
 obtain ⟨p,xs,i,z,rfl,rfl,hq,he,q⟩:=h
 cases rx
 obtain ⟨t,rfl⟩:=ry
 obtain ⟨its,r,pl,hz⟩:=I.list hq
 obtain ⟨j,h1,h2,h3,h4,h5⟩:=znQ he
 obtain ⟨w,ew,rw'⟩:=r.get h2
 have hl:=r.length
 have hn:=zjb
 have fin:EP X pins σ Q w s:=⟨z,H,I,rw',q⟩
 by_cases h0:0≤i
 ·have hj:i.toNat=j:=by
   rw [seqIndex_of h0 h5] at h1
   exact Option.some.inj h1
  exact item_listR pl.isList h0 (by omega) (by rw [hj];simpa using ew) fin hs
 ·have hj:(i + (its.toArray.size:Int)).toNat=j:=by
   rw [seqIndex_neg (by omega) h4] at h1
   rw [List.size_toArray,← hl]
   exact Option.some.inj h1
  exact subscriptTail_builtinR (x:=w) pl.isList.typeIs slot_list_getitem.lookup
   (wpAny_getItem_list_neg (Q:=fun r s'=>r=w∧EP X pins σ Q r s') pl.isList (by omega) (by rw [List.size_toArray] <;> omega) (by omega) (by rw [hj];simpa using ew) ⟨rfl,fin⟩) hs
theorem zra:IxR X zsN:=by
 intro value slice pins s σ H x y v u Q I rx ry h hs
 obtain ⟨z,i,c,rfl,rfl,hz,he,q⟩:=h
 obtain ⟨t,rfl⟩:=rx
 obtain ⟨t',rfl⟩:=ry
 obtain ⟨j,h1,h2,h3,h4,h5⟩:=znQ he
 have hl:z.cps.toList.length=z.length:=by simp [Str.length]
 rw [hl] at h1 h4 h5
 have hn:=zjb
 exact tail_any (typeIs_str s z t) slot_str_getitem.lookup (getItem_str (c:=c) (by
  have e1:decide (i < -(2 ^ 63:Int))=false:=decide_eq_false (by omega)
  have e2:decide (i ≥ 2 ^ 63)=false:=decide_eq_false (by omega)
  rw [e1,e2,Bool.or_false]) (by rw [h1];simpa using h2) ⟨.str ⟨#[c]⟩,H,I.tok _,⟨_,rfl⟩,q⟩) hs
theorem zlT (its:List Value) (n j:Nat) (u:Value):Obj.mapSeq (·.setIfInBounds j u) {cls:=.type "list",data:=.seq its.toArray n}={cls:=.type "list",data:=.seq (its.set j u).toArray n}:=by
 simp [Obj.mapSeq]
theorem Inv.lst {pins:List (Addr × Obj)} {σ:St} {H:Hp} {s:Shared} {p:Addr} {xs:List V} (I:Inv X pins σ H s) (h:H p=some (.lst xs)):
  ∃(its:List Value) (n:Nat),yU xs its∧s.heap.get? p=some {cls:=.type "list",data:=.seq its.toArray n}∧xs.length≤sizeLine:=by
 obtain ⟨z,its,n,r,e⟩:=I.hok p _ h
 exact ⟨its,n,r,e,z⟩
theorem Inv.lstUpd {pins:List (Addr × Obj)} {σ:St} {H:Hp} {s:Shared} {p:Addr} {xs ys:List V} {its its':List Value} {n n':Nat} {f:Obj→Obj} (I:Inv X pins σ H s) (h:H p=some (.lst xs))
  (ho:s.heap.get? p=some {cls:=.type "list",data:=.seq its.toArray n}) (hf:f {cls:=.type "list",data:=.seq its.toArray n}={cls:=.type "list",data:=.seq its'.toArray n'}) (r:yU ys its') (hz:ys.length≤sizeLine) (t:Nat):
  Inv X pins σ (upd H p (.lst ys)) {s with heap:=s.heap.update p f,toks:=t}:=by
 have e:(s.heap.update p f).get? p=some {cls:=.type "list",data:=.seq its'.toArray n'}:=by
  rw [Heap.get?_update_self f ho (by rw [hf] <;> rfl),hf]
 refine I.write (x:=p) (e:=p) (by rw [h];trivial) (.inl rfl) (fun b u hb q=>(Heap.get?_update_other _ _ (Ne.symm hb)).trans q) ⟨_,e⟩ ?_
 exact ⟨hz,its',n',r,e⟩
noncomputable def zrX:V→V→V→Hp→(Hp→Prop)→Prop:=fun o i v H Q=>∃p xs k j,o=.ref p∧i=.int k∧H p=some (.lst xs)∧ixN xs.length k=some j∧Q (upd H p (.lst (xs.set j v)))
theorem zn8:zsB X zrX:=by
 intro pins s σ H o i v ov iv u Q I ro ri rv h
 obtain ⟨p,xs,k,j,rfl,rfl,hp,hj,q⟩:=h
 cases ro
 obtain ⟨t,rfl⟩:=ri
 obtain ⟨its,n,r,ho,hz⟩:=I.lst hp
 obtain ⟨h1,h2,h3,h4⟩:=znm hj
 have hl:=r.length
 have hn:=zjb
 have I':Inv X pins σ (upd H p (.lst (xs.set j v))) {s with heap:=s.heap.update p (Obj.mapSeq (·.setIfInBounds j u))}:=
  I.lstUpd hp ho (zlT its n j u) (r.set rv j) (by rw [List.length_set];exact hz) s.toks
 by_cases h0:0≤k
 ·have hk:k.toNat=j:=by
   rw [seqIndex_of h0 h4] at h1
   exact Option.some.inj h1
  exact PySem.W.ki_setAt ho h0 (by omega) (by rw [List.size_toArray,← hl];exact h4) (by rw [hk];exact ⟨_,I',q⟩)
 ·have hk:(k + (its.toArray.size:Int)).toNat=j:=by
   rw [seqIndex_neg (by omega) h3] at h1
   rw [List.size_toArray,← hl]
   exact Option.some.inj h1
  exact PySem.W.ki_setBack ho (by omega) (by rw [List.size_toArray,← hl];exact h3) (by omega) (by rw [hk];exact ⟨_,I',q⟩)
theorem ziI (lo hi:Option Int) (n:Nat):(sliceBounds lo hi none n).1=((HT.sIx n 0 lo:Nat):Int)∧(sliceBounds lo hi none n).2.1=((HT.sIx n n hi:Nat):Int)∧(sliceBounds lo hi none n).2.2=1:=by
 refine ⟨?_,?_,rfl⟩
 ·cases lo with
  | none=>simp [sliceBounds,HT.sIx]
  | some i=>
   simp only [sliceBounds,HT.sIx,Option.getD_none,show (1:Int) > 0 by decide,if_true]
   by_cases h:i < 0
   ·simp only [h,if_true] <;> omega
   ·simp only [h,if_false] <;> omega
 ·cases hi with
  | none=>simp [sliceBounds,HT.sIx]
  | some i=>
   simp only [sliceBounds,HT.sIx,Option.getD_none,show (1:Int) > 0 by decide,if_true]
   by_cases h:i < 0
   ·simp only [h,if_true] <;> omega
   ·simp only [h,if_false] <;> omega
theorem zg6 (its:List Value) (lo hi:Option Int):slicePick its.toArray lo hi none=((its.drop (HT.sIx its.length 0 lo)).take (HT.sIx its.length its.length hi - HT.sIx its.length 0 lo)).toArray:=by
 obtain ⟨h1,h2,h3⟩:=ziI lo hi its.toArray.size
 unfold slicePick
 rw [h1,h2,h3]
 simp only [sliceRange_one,pick_run,List.size_toArray] <;> rfl
noncomputable def zqH (K:PySem.W.Frag):V→Option Int→Option Int→Hp→VK→Prop:=fun x lo hi H Q=>∃a xs,x=.ref a∧SqL K H a xs∧∀p,H p=none→Q (.ref p) (upd H p (.lst (zjQ xs lo hi)))
theorem zpu:SlR X (zqH X.K):=by
 intro pins s σ H x v vl vu lo hi sl Q I rx hs pl pu h
 obtain ⟨a,xs,rfl,hx,q⟩:=h
 cases rx
 obtain ⟨its,r,ht,hz⟩:=I.list hx
 have hlen:=r.length
 refine ⟨"list",_,slot_list_getitem.lookup,ht.isList.typeIs,?_⟩
 refine wpAny_getItem_list_slice ht.isList hs pl pu .none (by simp) ?_ (by rw [List.size_toArray] <;> omega)
 rw [zg6,← hlen]
 refine ⟨.ref s.heap.objs.size,_,I.laid (t':=s.toks) (o:=.lst (zjQ xs lo hi)) (fun b ob q=>Heap.get?_push_of_some _ q) (Nat.le_refl _) ?_,rfl,q _ (I.hok.fresh (Nat.le_refl _))⟩
 exact ⟨Nat.le_trans (zkw xs lo hi) hz,_,0,(r.drop (HT.sIx xs.length 0 lo)).take (HT.sIx xs.length xs.length hi - HT.sIx xs.length 0 lo),Heap.get?_push_size _ rfl⟩
noncomputable def zcu:V→Bool
 | .non=>true
 | .bl _=>true
 | .int _=>true
 | .str _=>true
 | _=>false
noncomputable def eqV:V→V→Bool
 | .non,.non=>true
 | .bl a,.bl b=>a == b
 | .bl a,.int b=>(if a then 1 else 0) == b
 | .int a,.bl b=>a == (if b then 1 else 0)
 | .int a,.int b=>a == b
 | .str a,.str b=>a == b
 | _,_=>false
theorem zrg {A:Around} {s:Shared} {y x:V} {u v:Value} (ry:Yz y u) (rx:Yz x v) (fy:zcu y=true) (fx:zcu x=true):SeqAt.EqAt A s u v (eqV y x):=by
 cases y with
 | non=>
  cases ry
  cases x with
  | non=>cases rx;exact SeqAt.EqAt.same _
  | bl b=>cases rx;exact SeqAt.EqAt.none_bool b
  | int b=>obtain ⟨t,rfl⟩:=rx;exact SeqAt.EqAt.none_int b t
  | str b=>obtain ⟨t,rfl⟩:=rx;exact SeqAt.EqAt.none_str b t
  | _=>exact absurd (show false=true from fx) Bool.false_ne_true
 | bl a=>
  cases ry
  cases x with
  | non=>cases rx;exact SeqAt.EqAt.bool_none a
  | bl b=>cases rx;exact SeqAt.EqAt.bool_bool a b
  | int b=>obtain ⟨t,rfl⟩:=rx;exact SeqAt.EqAt.bool_int a b t
  | str b=>obtain ⟨t,rfl⟩:=rx;exact SeqAt.EqAt.bool_str a b t
  | _=>exact absurd (show false=true from fx) Bool.false_ne_true
 | int a=>
  obtain ⟨t',rfl⟩:=ry
  cases x with
  | non=>cases rx;exact SeqAt.EqAt.int_none a t'
  | bl b=>cases rx;exact SeqAt.EqAt.int_bool a t' b
  | int b=>obtain ⟨t,rfl⟩:=rx;exact SeqAt.EqAt.int_int a t' b t
  | str b=>obtain ⟨t,rfl⟩:=rx;exact SeqAt.EqAt.int_str a t' b t
  | _=>exact absurd (show false=true from fx) Bool.false_ne_true
 | str a=>
  obtain ⟨t',rfl⟩:=ry
  cases x with
  | non=>cases rx;exact SeqAt.EqAt.str_none a t'
  | bl b=>cases rx;exact SeqAt.EqAt.str_bool a t' b
  | int b=>obtain ⟨t,rfl⟩:=rx;exact SeqAt.EqAt.str_int a t' b t
  | str b=>obtain ⟨t,rfl⟩:=rx;exact SeqAt.EqAt.str_str a t' b t
  | _=>exact absurd (show false=true from fx) Bool.false_ne_true
 | _=>exact absurd (show false=true from fy) Bool.false_ne_true
noncomputable def eqU (x:V) (u:Value):Bool:=match u with
 | .none=>eqV .non x
 | .bool b=>eqV (.bl b) x
 | .int i _=>eqV (.int i) x
 | .str z _=>eqV (.str z) x
 | _=>false
theorem zk3 {x y:V} {u:Value} (r:Yz y u) (f:zcu y=true):eqU x u=eqV y x:=by
 cases y with
 | non=>cases r;rfl
 | bl b=>cases r;rfl
 | int i=>obtain ⟨t,rfl⟩:=r;rfl
 | str z=>obtain ⟨t,rfl⟩:=r;rfl
 | _=>exact absurd (show false=true from f) Bool.false_ne_true
theorem zfI {x:V}:∀{xs:List V} {us:List Value},yU xs us→xs.all zcu=true→us.any (eqU x)=xs.any fun y=>eqV y x
 | _,_,.nil,_=>rfl
 | y::xs,u::us,.cons r t,f=>by
  rw [List.all_cons,Bool.and_eq_true] at f
  rw [List.any_cons,List.any_cons,zk3 r f.1,zfI t f.2]
theorem zaU {A:Around} {s:Shared} {x:V} {v:Value} (rx:Yz x v) (fx:zcu x=true):∀{xs:List V} {us:List Value},yU xs us→xs.all zcu=true→∀u ∈ us,SeqAt.EqAt A s u v (eqU x u)
 | _,_,.nil,_=>fun u hu=>by cases hu
 | y::xs,u::us,.cons r t,f=>fun u' hu=>by
  rw [List.all_cons,Bool.and_eq_true] at f
  rcases List.mem_cons.mp hu with rfl | hu
  ·rw [zk3 r f.1];exact zrg r rx f.1 fx
  ·exact zaU rx fx t f.2 u' hu
noncomputable def inV (x:V) (xs:List V):Bool:=xs.any fun y=>eqV y x
noncomputable def rIn (K:PySem.W.Frag) (neg:Bool):R2:=fun x y H Q=>∃p xs,y=.ref p∧(SqL K H p xs∨SqT K H p xs)∧zcu x=true∧xs.all zcu=true∧Q (.bl (if neg then !inV x xs else inV x xs)) H
theorem zm4:OpR X (compareOp .In) (rIn X.K false):=by
 intro pins s σ H x y v u Q I rx ry h
 obtain ⟨p,xs,rfl,hq,fx,fs,q⟩:=h
 cases ry
 rcases hq with hq | hq
 ·obtain ⟨its,r,pl,hz⟩:=I.list hq
  refine SeqAt.in_listAt (eqU x) pl.isList (fun w hw=>zaU rx fx r fs w (by simpa using hw)) ⟨.bl _,H,I,rfl,?_⟩
  rw [show its.toArray.any (eqU x)=its.any (eqU x) by simp,zfI r fs]
  exact q
 ·obtain ⟨its,r,pl,hz⟩:=I.tuple hq
  refine SeqAt.in_tupleAt (eqU x) pl (fun w hw=>zaU rx fx r fs w (by simpa using hw)) ⟨.bl _,H,I,rfl,?_⟩
  rw [show its.toArray.any (eqU x)=its.any (eqU x) by simp,zfI r fs]
  exact q
theorem ziV:OpR X (compareOp .NotIn) (rIn X.K true):=by
 intro pins s σ H x y v u Q I rx ry h
 obtain ⟨p,xs,rfl,hq,fx,fs,q⟩:=h
 cases ry
 rcases hq with hq | hq
 ·obtain ⟨its,r,pl,hz⟩:=I.list hq
  refine SeqAt.notIn_listAt (eqU x) pl.isList (fun w hw=>zaU rx fx r fs w (by simpa using hw)) ⟨.bl _,H,I,rfl,?_⟩
  rw [show its.toArray.any (eqU x)=its.any (eqU x) by simp,zfI r fs]
  exact q
 ·obtain ⟨its,r,pl,hz⟩:=I.tuple hq
  refine SeqAt.notIn_tupleAt (eqU x) pl (fun w hw=>zaU rx fx r fs w (by simpa using hw)) ⟨.bl _,H,I,rfl,?_⟩
  rw [show its.toArray.any (eqU x)=its.any (eqU x) by simp,zfI r fs]
  exact q
theorem zjr:JW X (.builtin "len") (fun xs H Q=>∃p ys,xs=[.ref p]∧(SqL X.K H p ys∨SqT X.K H p ys)∧Q (.int ys.length) H):=by
 intro pins s σ H xs us Q I r h
 obtain ⟨p,ys,rfl,hq,q⟩:=h
 obtain ⟨u,rfl,rx⟩:=zmt r
 cases rx
 have hn:=zjb
 rcases hq with hq | hq
 ·obtain ⟨its,r',pl,hz⟩:=I.list hq
  have hlen:=r'.length
  exact Calls.call_len_list pl.isList (by simp only [List.size_toArray] <;> omega) ⟨.int ys.length,H,I.tok _,⟨s.toks + 1,by rw [List.size_toArray,hlen]⟩,q⟩
 ·obtain ⟨its,r',pl,hz⟩:=I.tuple hq
  have hlen:=r'.length
  exact len_tuple pl (by simp only [List.size_toArray] <;> omega) ⟨.int ys.length,H,I.tok _,⟨s.toks + 1,by rw [List.size_toArray,hlen]⟩,q⟩
theorem QM:JW X (.builtin "len") (fun xs H Q=>∃z,xs=[.str z]∧z.length≤sizeLine∧Q (.int z.length) H):=by
 intro pins s σ H xs us Q I r h
 obtain ⟨z,rfl,hz,q⟩:=h
 obtain ⟨u,rfl,t,rfl⟩:=zmt r
 have hn:=zjb
 exact len_str (by omega) ⟨.int z.length,H,I.tok _,⟨_,rfl⟩,q⟩
theorem zjq:JW X (.type "list") (fun xs H Q=>∃p ys,xs=[.ref p]∧(SqL X.K H p ys∨SqT X.K H p ys)∧∀l,H l=none→Q (.ref l) (upd H l (.lst ys))):=by
 intro pins s σ H xs us Q I r h
 obtain ⟨p,ys,rfl,hq,q⟩:=h
 obtain ⟨u,rfl,rx⟩:=zmt r
 cases rx
 have fin:∀(its:List Value),yU ys its→ys.length≤sizeLine→∀(h':Heap) (c':Nat),(∀b o',s.heap.get? b=some o'→h'.get? b=some o')→
   h'.get? s.heap.objs.size=some {cls:=.type "list",dict:=none,data:=.seq its.toArray c',slots:=#[]}→EP X pins σ Q (.ref s.heap.objs.size) {s with heap:=h'}:=fun its r' hz h' c' kp e=>
  ⟨.ref s.heap.objs.size,_,I.laid (t':=s.toks) kp (Nat.le_refl _) (show za0 X.prog X.w _ h' _ (.lst ys) from ⟨hz,its,c',r',e⟩),rfl,q _ (I.hok.fresh (Nat.le_refl _))⟩
 rcases hq with hq | hq
 ·obtain ⟨its,r',pl,hz⟩:=I.list hq
  have hlen:=r'.length
  obtain ⟨o,ho,hc,n,hd⟩:=pl.isList
  exact call_list_seq p (.inl rfl) ho hc hd (fun h' c' kp e=>fin its r' hz h' c' kp e) (by simp only [List.size_toArray] <;> omega)
 ·obtain ⟨its,r',pl,hz⟩:=I.tuple hq
  have hlen:=r'.length
  obtain ⟨o,ho,hc,n,hd⟩:=pl
  exact call_list_seq p (.inr rfl) ho hc hd (fun h' c' kp e=>fin its r' hz h' c' kp e) (by simp only [List.size_toArray] <;> omega)
noncomputable def tyV (K:PySem.W.Frag) (T:String) (x:V) (H:Hp):Prop:=match x with
 | .str _=>T="str"
 | .int _=>T="int"
 | .ref p=>(T="list"∧∃xs,SqL K H p xs)∨(T="tuple"∧∃o,K.lookup p=some o∧o.cls=.type "tuple"∧o.dict=none)∨
   (T="dict"∧((∃kvs,H p=some (.dK kvs))∨∃kvs,H p=some (.dT kvs)))∨(T="set"∧∃S n,H p=some (.set S n))
 | _=>False
theorem zqp {pins:List (Addr × Obj)} {σ:St} {H:Hp} {s:Shared} {T:String} {x:V} {v:Value} (I:Inv X pins σ H s) (r:Yz x v) (ty:tyV X.K T x H):
  s.TypeIs v T∧∀a,v=.ref a→∃ob,s.heap.get? a=some ob∧ob.dict=none:=by
 cases x with
 | str z=>
  obtain ⟨t,rfl⟩:=r
  cases (show T="str" from ty)
  exact ⟨typeIs_str s z t,fun _ e=>nomatch e⟩
 | int i=>
  obtain ⟨t,rfl⟩:=r
  cases (show T="int" from ty)
  exact ⟨typeIs_int s i t,fun _ e=>nomatch e⟩
 | ref p=>
  cases r
  rcases ty with ⟨rfl,xs,hq⟩ | ⟨rfl,o,hk,hc,hd⟩ | ⟨rfl,hk⟩ | ⟨rfl,S,n,hk⟩
  ·obtain ⟨its,_,pl,_⟩:=I.list hq
   refine ⟨pl.isList.typeIs,fun a e=>?_⟩
   cases e
   obtain ⟨o,n,e,c,hd,_⟩:=pl
   exact ⟨o,e,hd⟩
  ·refine ⟨⟨o,I.kIn p o hk,hc⟩,fun a e=>?_⟩
   cases e
   exact ⟨o,I.kIn _ o hk,hd⟩
  ·have z:∃o,s.heap.get? p=some o∧o.ExactDict:=by
    rcases hk with ⟨kvs,hk⟩ | ⟨kvs,hk⟩
    ·obtain ⟨_,_,_,_,o,_,_,e,ex,_⟩:=I.hok p _ hk
     exact ⟨o,e,ex⟩
    ·obtain ⟨_,_,_,_,o,_,_,e,ex,_⟩:=I.hok p _ hk
     exact ⟨o,e,ex⟩
   obtain ⟨o,e,ex⟩:=z
   refine ⟨⟨o,e,ex.1⟩,fun a e2=>?_⟩
   cases e2
   exact ⟨o,e,ex.2.1⟩
  ·obtain ⟨o,_,_,_,e,ex,_⟩:=I.hok p _ hk
   refine ⟨⟨o,e,ex.1⟩,fun a e2=>?_⟩
   cases e2
   exact ⟨o,e,ex.2.1⟩
 | _=>exact False.elim ty
noncomputable def tBM (K:PySem.W.Frag) (T:String) (r:V→List V→Hp→VK→Prop) (to:TE) (t:TA):TE:=fun σ H Q=>to σ H fun x H1=>tyV K T x H1∧t σ H1 fun xs H2=>r x xs H2 Q
variable {o e:Expr} {es:List Expr} {to:TE} {t:TA} {name:Str} {apos cpos:Pos} {T id:String} {r:V→List V→Hp→VK→Prop}
theorem zr0 (pa:PlainAttrs T) (slot:Slot T name id) (hty:typeOf (.builtin id)=pure (.type "method_descriptor")) (hm:MtR X id r) (ho:PE X o to) (ha:PA X (e::es) t)
  (hbase:attributeBase o name X.env (eval o X.env)=eval o X.env:=by rfl)
  (hfew:((backTo cpos (starEach (e::es) X.env)).all (fun x=>!x.1)&&(backToKw cpos (keywordEach [] X.env)).all (fun x=>x.1.isSome)
   &&decide ((e::es).length + ([]:List Keyword).length + (if ([]:List Keyword).isEmpty then 0 else 1) < 30))=true:=by rfl)
  (hline:(apos.endLine == cpos.line)=true:=by rfl) (hs:starEach (e::es) X.env=(false,eval e X.env)::starEach es X.env:=by rfl) (hplain:(backTo cpos (starEach es X.env)).any (·.1)=false:=by rfl):
  PE X (.Call (.Attribute o name apos) (e::es) [] cpos) (tBM X.K T r to t):=by
 intro pins s σ H Q I h
 refine wpAny_Call_method_late hbase hfew hline rfl (thn (ho pins s σ H _ I h) fun v s1 ⟨x,H1,I1,r1,ty,q1⟩=>?_)
 obtain ⟨h1,h2⟩:=zqp I1 r1 ty
 refine ⟨T,id,pa,slot,hty,h1,h2,?_⟩
 have hA:=ha cpos pins s1 σ H1 _ I1 q1
 rw [hs] at hA ⊢
 refine Calls.callWith_builtin (by show (false||(backTo cpos (starEach es X.env)).any (·.1))=false;rw [hplain] <;> rfl) (Calls.evalArgs_plain ?_)
 exact thn hA fun us s2 ⟨vs,H2,I2,r2,q2⟩=>hm pins s2 σ H2 x vs v us Q I2 r1 r2 q2
end
end L2
namespace L2
open PySem PySem.Spec PyProof.Rows
noncomputable def MtM (X:Cx) (id:String) (r:V→List V→Hp→VK→Prop):Prop:=
 ∀(pins:List (Addr × Obj)) (s:Shared) (σ:St) (H:Hp) (x:V) (xs:List V) (v:Value) (us:List Value) (Q:VK),Inv X pins σ H s→Yz x v→yU xs us→r x xs H Q→
  wpAny (model X.prog X.w) X.A (call (.builtin id) (v::us)) (EP X pins σ Q) X.xe s
theorem yU.one:∀{x:V} {us:List Value},yU [x] us→∃u,us=[u]∧Yz x u
 | _,_,.cons r .nil=>⟨_,rfl,r⟩
theorem yU.eraseIdx:∀{xs:List V} {us:List Value} (i:Nat),yU xs us→yU (xs.eraseIdx i) (us.eraseIdx i)
 | _,_,_,.nil=>.nil
 | _,_,0,.cons _ t=>t
 | _,_,i + 1,.cons r t=>.cons r (yU.eraseIdx i t)
theorem yU.reverse {xs:List V} {us:List Value} (h:yU xs us):yU xs.reverse us.reverse:=by
 induction h with
 | nil=>exact .nil
 | cons r t ih=>rw [List.reverse_cons,List.reverse_cons];exact yU.append ih (.cons r .nil)
theorem zjc {α:Type}:∀(l:List α) (i:Nat),(l.eraseIdx i).length≤l.length
 | [],_=>Nat.le_refl _
 | _::_,0=>Nat.le_succ _
 | _::r,i + 1=>Nat.succ_le_succ (zjc r i)
section
variable {X:Cx} {pins:List (Addr × Obj)} {σ:St} {H:Hp} {s:Shared} {l b:Addr} {xs ys zs:List V}
theorem Inv.lset {its its':List Value} {n:Nat} {f:Array Value→Array Value} {t':Nat} (I:Inv X pins σ H s) (hH:H l=some (.lst xs))
  (e:s.heap.get? l=some {cls:=.type "list",data:=.seq its.toArray n}) (hf:f its.toArray=its'.toArray) (hv:yU ys its') (hz:ys.length≤sizeLine):
  Inv X pins σ (upd H l (.lst ys)) {s with heap:=s.heap.update l (Obj.mapSeq f),toks:=t'}:=by
 have q:=PySem.IsL.update e f
 rw [hf] at q
 refine I.write (x:=l) (e:=l) (by rw [hH];exact trivial) (.inl rfl) (fun b' u hb hu=>(Heap.get?_update_other s.heap (Obj.mapSeq f) (Ne.symm hb)).trans hu) ⟨_,q⟩ ?_
 exact ⟨hz,its',_,hv,q⟩
theorem Inv.lnew {its:List Value} {t':Nat} (I:Inv X pins σ H s) (hv:yU ys its) (hz:ys.length≤sizeLine):
  Inv X pins σ (upd H s.heap.objs.size (.lst ys)) {s with heap:=s.heap.push {cls:=.type "list",data:=.seq its.toArray},toks:=t'}:=
 I.laid (fun _ _ q=>Heap.get?_push_of_some _ q) (Nat.le_refl _) ⟨hz,its,0,hv,Heap.get?_push_size _ rfl⟩
theorem Inv.fresh (I:Inv X pins σ H s):H s.heap.objs.size=none:=I.hok.fresh (Nat.le_refl _)
theorem Inv.lstM (I:Inv X pins σ H s) (hH:H l=some (.lst xs)):xs.length≤sizeLine∧∃(its:List Value) (n:Nat),yU xs its∧xs.length=its.length∧s.heap.get? l=some {cls:=.type "list",data:=.seq its.toArray n}:=by
 obtain ⟨z,its,n,r,e⟩:=I.hok l _ hH
 exact ⟨z,its,n,r,r.length,e⟩
theorem zkT {n:Nat} (h:n≤sizeLine):Builtin.List.listTooLong n=false:=by
 unfold Builtin.List.listTooLong
 exact decide_eq_false (by omega)
end
section
variable {X:Cx}
noncomputable def zpB:V→List V→Hp→VK→Prop:=fun x vs H Q=>∃l xs y,x=.ref l∧vs=[y]∧H l=some (.lst xs)∧xs.length < sizeLine∧Q .non (upd H l (.lst (xs++[y])))
theorem yu:MtM X "list.append" zpB:=by
 intro pins s σ H x vs v us Q I rx rv h
 obtain ⟨l,xs,y,rfl,rfl,hH,hz,q⟩:=h
 cases rx
 obtain ⟨u,rfl,ru⟩:=rv.one
 obtain ⟨z,its,n,r,hl,e⟩:=I.lstM hH
 refine call_meets F.slot_list_append ⟨_,e,rfl⟩ F.entry_list_append (F.args_list_append_2 _ _) (PySem.list_append l its.toArray n u (by rw [List.size_toArray];omega)) ⟨e,?_⟩
 refine ⟨.non,_,I.lset (its':=its++[u]) hH e (by simp) (r.append (.cons ru .nil)) ?_,rfl,q⟩
 rw [List.length_append,List.length_singleton]
 omega
noncomputable def zpA:V→List V→Hp→VK→Prop:=fun x vs H Q=>∃l b xs zs,x=.ref l∧vs=[.ref b]∧H l=some (.lst xs)∧H b=some (.lst zs)∧xs.length + zs.length≤sizeLine∧Q .non (upd H l (.lst (xs++zs)))
theorem Jc:MtM X "list.extend" zpA:=by
 intro pins s σ H x vs v us Q I rx rv h
 obtain ⟨l,b,xs,zs,rfl,rfl,hH,hB,hz,q⟩:=h
 cases rx
 obtain ⟨u,rfl,ru⟩:=rv.one
 cases ru
 obtain ⟨z,its,n,r,hl,e⟩:=I.lstM hH
 obtain ⟨z2,its2,n2,r2,hl2,e2⟩:=I.lstM hB
 have hsz:its.toArray.size + its2.toArray.size≤sizeLine:=by rw [List.size_toArray,List.size_toArray];omega
 have hlong:¬ (!its.toArray.isEmpty&&Builtin.List.listTooLong (its.toArray.size + its2.toArray.size))=true:=by
  rw [zkT hsz,Bool.and_false]
  exact Bool.false_ne_true
 refine call_meets F.slot_list_extend ⟨_,e,rfl⟩ F.entry_list_extend (F.args_list_extend_2 _ _)
  (AutoSeq1.list_extend_list_list_0 l its.toArray n b its2.toArray n2 hlong (by rw [List.size_toArray];omega) (by omega)) ⟨e,e2,?_⟩
 refine ⟨.non,_,I.lset (its':=its++its2) hH e (by simp) (r.append r2) ?_,rfl,q⟩
 rw [List.length_append]
 omega
noncomputable def zqI:V→List V→Hp→VK→Prop:=fun x vs H Q=>∃l xs i k y,x=.ref l∧vs=[.int i]∧H l=some (.lst xs)∧-(2 ^ 63)≤i∧i < 2 ^ 63∧seqIndex? i xs.length=some k∧xs[k]?=some y∧Q y (upd H l (.lst (xs.eraseIdx k)))
theorem zow:MtM X "list.pop" zqI:=by
 intro pins s σ H x vs v us Q I rx rv h
 obtain ⟨l,xs,i,k,y,rfl,rfl,hH,h1,h2,hk,hy,q⟩:=h
 cases rx
 obtain ⟨u,rfl,ru⟩:=rv.one
 obtain ⟨t,rfl⟩:=ru
 obtain ⟨z,its,n,r,hl,e⟩:=I.lstM hH
 obtain ⟨w,hw,rw'⟩:=r.get hy
 refine call_meets F.slot_list_pop ⟨_,e,rfl⟩ F.entry_list_pop (F.args_list_pop_2 _ _)
  (MeetsSeq.list_pop_at l its.toArray n i t k w (fitsIndex_both h1 h2) (by rw [List.size_toArray,← hl];exact hk) (by rw [← Array.getElem?_toList];exact hw) (by rw [List.size_toArray];omega)) ⟨e,?_⟩
 refine ⟨y,_,I.lset (its':=its.eraseIdx k) hH e ?_ (r.eraseIdx k) ?_,rw',q⟩
 ·show its.toArray.eraseIdxIfInBounds k=(its.eraseIdx k).toArray
  rw [List.eraseIdxIfInBounds_toArray]
 ·have:=zjc xs k
  omega
noncomputable def zsO:R2:=fun x y H Q=>∃l b xs zs,x=.ref l∧y=.ref b∧H l=some (.lst xs)∧H b=some (.lst zs)∧xs.length + zs.length≤sizeLine∧∀p,H p=none→Q (.ref p) (upd H p (.lst (xs++zs)))
theorem yq:OpR X (binaryOp .Add) zsO:=by
 intro pins s σ H x y v u Q I rx ry h
 obtain ⟨l,b,xs,zs,rfl,rfl,hH,hB,hz,q⟩:=h
 cases rx
 cases ry
 obtain ⟨z,its,n,r,hl,e⟩:=I.lstM hH
 obtain ⟨z2,its2,n2,r2,hl2,e2⟩:=I.lstM hB
 refine PySem.P.add_list e e2 ?_ (by rw [List.size_toArray,List.size_toArray];omega)
 have ea:its.toArray++its2.toArray=(its++its2).toArray:=by simp
 rw [ea]
 exact ⟨.ref _,_,I.lnew (t':=s.toks) (r.append r2) (by rw [List.length_append];omega),rfl,q _ I.fresh⟩
end
section
variable {prog:Program} {w:World} {A:Around} {E:Value→Shared→Prop} {s:Shared}
set_option maxRecDepth 100000 in
end
section
variable {X:Cx}
end
end L2
namespace L2
open PySem PySem.Spec PyProof.Rows
theorem yU.ints:∀{ns:List Int} {us:List Value},yU (ns.map V.int) us→IntsAre us ns
 | [],us,h=>by
  rw [List.map_nil] at h
  cases h
  exact IntsAre.nil
 | n::ns,us,h=>by
  rw [List.map_cons] at h
  cases h with
  | cons r t=>
   obtain ⟨k,rfl⟩:=r
   exact IntsAre.cons n k (yU.ints t)
theorem yU.bls:∀{bs:List Bool} {us:List Value},yU (bs.map V.bl) us→us=bs.map Value.bool
 | [],us,h=>by
  rw [List.map_nil] at h
  cases h
  rfl
 | b::bs,us,h=>by
  rw [List.map_cons] at h
  cases h with
  | cons r t=>
   cases r
   rw [yU.bls t,List.map_cons]
theorem yU.ref1 {a:Addr} {us:List Value} (r:yU [V.ref a] us):us=[Value.ref a]:=by
 cases r with
 | cons r t=>
  cases t
  cases r
  rfl
section
variable {prog:Program} {w:World} {A:Around} {E:Value→Shared→Prop} {s:Shared} {l:Addr} {its:List Value} {ns:List Int} {Q:Value→Shared→Prop}
theorem zpt (hh:A.handled=none) (hl:s.heap.IsList l its.toArray) (hi:IntsAre its ns)
  (h:∀h' tk t',(∀b o,s.heap.get? b=some o→h'.get? b=some o)→Q (.int ns.sum t') {s with heap:=h',toks:=tk}):wpAny (model prog w) A (call (.builtin "sum") [.ref l]) Q E s:=by
 obtain ⟨xs,e⟩:=hi.allInts.items
 have hn:numsOf (intItems xs).toList=ns:=by rw [← e];exact hi.numsOf
 rw [nums_intItems] at hn
 rw [e] at hl
 refine PySem.sum_intListG hh hl fun h' tk t' hk=>?_
 have:=h h' tk t' hk
 rw [preSum_eq,List.take_of_length_le (by simp),hn];exact this
end
section
variable {X:Cx}
noncomputable def zrW (K:PySem.W.Frag):List V→Hp→VK→Prop:=fun vs H Q=>∃(a:Addr) (ns:List Int),vs=[V.ref a]∧SqL K H a (ns.map V.int)∧Q (.int ns.sum) H
theorem zrl (hc:X.calm=true):JW X (.builtin "sum") (zrW X.K):=by
 intro pins s σ H vs us Q I r h
 obtain ⟨a,ns,rfl,hs,q⟩:=h
 obtain ⟨its,rv,hl,_⟩:=I.list hs
 rw [yU.ref1 r]
 exact zpt (I.ok.hd hc) hl.isList rv.ints fun h' tk t' hk=>⟨.int _,H,I.kept hk,⟨_,rfl⟩,q⟩
end
section
variable {X:Cx}
noncomputable def zpb (K:PySem.W.Frag):V→List V→Hp→VK→Prop:=fun x xs H Q=>∃(a:Addr) (ys:List V) (y:V) (j:Nat) (z:V),x=V.ref a∧xs=[y]∧SqL K H a ys∧zcu y=true∧ys.all zcu=true∧ys[j]?=some z∧eqV z y=true∧
 (∀(m:Nat) (z':V),m < j→ys[m]?=some z'→eqV z' y=false)∧Q (.int (j:Nat)) H
theorem zny {ys:List V} (f:ys.all zcu=true) {j:Nat} {z:V} (h:ys[j]?=some z):zcu z=true:=List.all_eq_true.mp f z (List.mem_of_getElem? h)
theorem zox:MtR X "list.index" (zpb X.K):=by
 intro pins s σ H x xs v us Q I rx rxs h
 obtain ⟨a,ys,y,j,z,rfl,rfl,hs,fy,fys,hz,hzj,hno,q⟩:=h
 cases rx
 cases rxs with
 | cons ry rt=>
  rename_i uy ut
  cases rt
  obtain ⟨its,rv,⟨⟨cls,dd,data,sl⟩,n,ho,hc,hdn,hd⟩,hlen⟩:=I.list hs
  simp only at hc hd
  subst hc hd
  obtain ⟨u,hu,ru⟩:=rv.get hz
  obtain ⟨hjl,hje⟩:=List.getElem?_eq_some_iff.mp hu
  have hvl:=rv.length
  have hj:j < its.toArray.size:=by simpa using hjl
  have hsl:=sizeLine_eq
  refine call_meets PySem.F.slot_list_index ⟨_,ho,rfl⟩ PySem.F.entry_list_index (PySem.F.args_list_index_2 _ _)
   (SeqAt.list_indexAt a its.toArray n dd sl uy (eqU y) j hj (by omega) ?_ ?_) ⟨ho,fun u' hu'=>zaU ry fy rv fys u' (by simpa using hu'),?_⟩
  ·have e1:its.toArray[j]=u:=by simpa using hje
   rw [e1,zk3 ru (zny fys hz)]
   exact hzj
  ·intro m hm hmj
   have hml:m < its.length:=by simpa using hm
   have hmy:m < ys.length:=by omega
   have hy':ys[m]?=some ys[m]:=List.getElem?_eq_getElem hmy
   obtain ⟨u2,hu2,ru2⟩:=rv.get hy'
   obtain ⟨_,hme⟩:=List.getElem?_eq_some_iff.mp hu2
   have e1:its.toArray[m]=u2:=by simpa using hme
   rw [e1,zk3 ru2 (zny fys hy')]
   exact hno m _ hmj hy'
  ·exact ⟨.int (j:Nat),H,I.tok _,⟨_,rfl⟩,q⟩
end
section
variable {X:Cx}
end
theorem zkZ {prog:Program} {w:World} {A:Around} {E:Value→Shared→Prop} {s:Shared} {l:Addr} {items:Array Value} {Q:Value→Shared→Prop} (hl:s.heap.IsList l items)
  (h:∀s₂:Shared,s₂={s with heap:=s.heap.push {cls:=.type "list_iterator",data:=.fields #[.ref l,.int 0 0]}}→
   (s₂.heap.IsListIter s.heap.objs.size l 0∧s₂.heap.IsList l items)→l≠s.heap.objs.size→Q (.ref s.heap.objs.size) s₂):wpAny (model prog w) A (pyIter (.ref l)) Q E s:=by
 have hlt:l < s.heap.objs.size:=by obtain ⟨_,e,_⟩:=hl;exact Heap.lt_size e
 exact wpAny_pyIter_list hl (h _ rfl ⟨⟨_,Heap.get?_push_size _ rfl,rfl,rfl⟩,hl.push _⟩ (Nat.ne_of_lt hlt))
theorem zep {prog:Program} {w:World} {A:Around} {bs:List Bool} {its:List Value} (e:its=bs.map Value.bool):
  TruthOf prog w A (fun i v=>its.toArray[i]?=some v) (fun i=>bs.getD i false):=fun i v s Q E hv hq=>by
 have hv':its[i]?=some v:=by simpa using hv
 rw [e,List.getElem?_map] at hv'
 obtain ⟨b,hb,rfl⟩:=Option.map_eq_some_iff.mp hv'
 have hg:bs.getD i false=b:=by rw [List.getD_eq_getElem?_getD,hb] <;> rfl
 have hq':Q (bs.getD i false) s:=hq
 rw [hg] at hq'
 exact wpAny_truthy_bool hq'
theorem zjN:∀bs:List Bool,(List.range bs.length).any (fun i=>bs.getD i false)=bs.any id
 | []=>rfl
 | b::bs=>by
  rw [List.length_cons,List.range_succ_eq_map,List.any_cons,List.any_map,List.any_cons,← zjN bs]
  all_goals rfl
theorem zjO:∀bs:List Bool,(List.range bs.length).all (fun i=>bs.getD i false)=bs.all id
 | []=>rfl
 | b::bs=>by
  rw [List.length_cons,List.range_succ_eq_map,List.all_cons,List.all_map,List.all_cons,← zjO bs]
  all_goals rfl
section
variable {X:Cx}
noncomputable def zst (K:PySem.W.Frag):List V→Hp→VK→Prop:=fun vs H Q=>∃(a:Addr) (bs:List Bool),vs=[V.ref a]∧SqL K H a (bs.map V.bl)∧Q (.bl (bs.any id)) H
noncomputable def zrz (K:PySem.W.Frag):List V→Hp→VK→Prop:=fun vs H Q=>∃(a:Addr) (bs:List Bool),vs=[V.ref a]∧SqL K H a (bs.map V.bl)∧Q (.bl (bs.all id)) H
theorem zrm (hc:X.calm=true):JW X (.builtin "any") (zst X.K):=by
 intro pins s σ H vs us Q I r h
 obtain ⟨a,bs,rfl,hs,q⟩:=h
 obtain ⟨its,rv,hl,_⟩:=I.list hs
 rw [yU.ref1 r]
 have hb:=rv.bls
 refine call_any_walk (zkZ hl.isList fun s₂ e2 st hne=>?_)
 subst e2
 refine ⟨_,_,_,_,_,_,_,rfl,Walks.list (A:=X.A.in1) (I.ok.hd hc) _ a hne its.toArray,st,zep hb,fun h' tk hk=>?_⟩
 refine ⟨.bl _,H,I.kept fun b o eo=>hk b o (fun hmem=>?_) (Heap.get?_push_of_some _ eo),?_,q⟩
 ·rcases List.mem_cons.mp hmem with e1 | hmem
  ·exact absurd (e1 ▸ Heap.lt_size eo) (Nat.lt_irrefl _)
  ·cases hmem
 ·show Value.bool _=Value.bool _
  rw [← zjN,hb,List.size_toArray,List.length_map]
theorem zrn (hc:X.calm=true):JW X (.builtin "all") (zrz X.K):=by
 intro pins s σ H vs us Q I r h
 obtain ⟨a,bs,rfl,hs,q⟩:=h
 obtain ⟨its,rv,hl,_⟩:=I.list hs
 rw [yU.ref1 r]
 have hb:=rv.bls
 refine call_all_walk (zkZ hl.isList fun s₂ e2 st hne=>?_)
 subst e2
 refine ⟨_,_,_,_,_,_,_,rfl,Walks.list (A:=X.A.in1) (I.ok.hd hc) _ a hne its.toArray,st,zep hb,fun h' tk hk=>?_⟩
 refine ⟨.bl _,H,I.kept fun b o eo=>hk b o (fun hmem=>?_) (Heap.get?_push_of_some _ eo),?_,q⟩
 ·rcases List.mem_cons.mp hmem with e1 | hmem
  ·exact absurd (e1 ▸ Heap.lt_size eo) (Nat.lt_irrefl _)
  ·cases hmem
 ·show Value.bool _=Value.bool _
  rw [← zjO,hb,List.size_toArray,List.length_map]
end
mutual
inductive Dp (K:PySem.W.Frag) (H:Hp):V→PyData→Prop
 | non:Dp K H .non .none
 | bl (b:Bool):Dp K H (.bl b) (.bool b)
 | int (i:Int):Dp K H (.int i) (.int i)
 | str (x:Str):Dp K H (.str x) (.str x)
 | lst {a:Addr} {xs:List V} {ds:List PyData}:SqL K H a xs→zjP K H xs ds→Dp K H (.ref a) (.list ds)
 | tup {a:Addr} {xs:List V} {ds:List PyData}:SqT K H a xs→zjP K H xs ds→Dp K H (.ref a) (.tuple ds)
inductive zjP (K:PySem.W.Frag) (H:Hp):List V→List PyData→Prop
 | nil:zjP K H [] []
 | cons {v:V} {vs:List V} {d:PyData} {ds:List PyData}:Dp K H v d→zjP K H vs ds→zjP K H (v::vs) (d::ds)
end
section
variable {X:Cx} {pins:List (Addr × Obj)} {σ:St} {H:Hp} {s:Shared}
mutual
theorem Dp.reads (I:Inv X pins σ H s):∀(d:PyData) (v:V) (u:Value),Dp X.K H v d→Yz v u→∃as,Reads s.heap u d as
 | .none,_,_,h,r=>by
  cases h
  cases r
  exact ⟨_,Reads.none⟩
 | .bool b,_,_,h,r=>by
  cases h
  cases r
  exact ⟨_,Reads.bool b⟩
 | .int i,_,_,h,r=>by
  cases h
  obtain ⟨t,rfl⟩:=r
  exact ⟨_,Reads.int i t⟩
 | .str x,_,_,h,r=>by
  cases h
  obtain ⟨t,rfl⟩:=r
  exact ⟨_,Reads.str x t⟩
 | .list ds,_,_,h,r=>by
  cases h with
  | lst hs ha=>
   cases r
   obtain ⟨its,rv,⟨o,n,ho,hc,_,hd⟩,_⟩:=I.list hs
   obtain ⟨as,hr⟩:=Dp.readsAll I ds _ its ha rv
   exact ⟨_,Reads.list ho hc hd hr⟩
 | .tuple ds,_,_,h,r=>by
  cases h with
  | tup hs ha=>
   cases r
   obtain ⟨its,rv,⟨o,ho,hc,n,hd⟩,_⟩:=I.tuple hs
   obtain ⟨as,hr⟩:=Dp.readsAll I ds _ its ha rv
   exact ⟨_,Reads.tuple ho hc hd hr⟩
 | .dict _,_,_,h,_=>by cases h
theorem Dp.readsAll (I:Inv X pins σ H s):∀(ds:List PyData) (vs:List V) (us:List Value),zjP X.K H vs ds→yU vs us→∃as,ReadsAll s.heap us ds as
 | [],_,_,h,r=>by
  cases h
  cases r
  exact ⟨_,ReadsAll.nil⟩
 | d::ds,_,_,h,r=>by
  cases h with
  | cons h1 h2=>
   cases r with
   | cons r1 r2=>
    obtain ⟨as,q1⟩:=Dp.reads I d _ _ h1 r1
    obtain ⟨bs,q2⟩:=Dp.readsAll I ds _ _ h2 r2
    exact ⟨_,ReadsAll.cons q1 q2⟩
end
end
section
variable {X:Cx}
noncomputable def zsr (K:PySem.W.Frag):R2:=fun x y H Q=>∃d e,Dp K H x d∧Dp K H y e∧SeqAt.shaped d=true∧SeqAt.shaped e=true∧Q (.bl (!PyData.eqv d e)) H
theorem zqW (hu:X.A.units + 64 < cLine):OpR X (compareOp .NotEq) (zsr X.K):=by
 intro pins s σ H x y v u Q I rx ry h
 obtain ⟨d,e,hd,he,sd,se,q⟩:=h
 obtain ⟨as,r1⟩:=Dp.reads I d x v hd rx
 obtain ⟨bs,r2⟩:=Dp.reads I e y u he ry
 exact SeqAt.compareNe_shaped r1 r2 sd se hu ⟨.bl _,H,I,rfl,q⟩
end
end L2
namespace L2
open PySem PySem.Spec PyProof.Rows
noncomputable abbrev zpo (h:Heap) (c:Addr) (v:Option Value):Prop:=h.IsCell c v
noncomputable def zsM (scope sc:Scope):Scope:=
 {scope with names:=scope.names.map fun (n,k)=>if (k == .free&&sc.kind == .function&&sc.names.lookup n == some .cell) then (n,.cell) else (n,k)}
noncomputable def yS (cells:List (Str × Addr)):List (Str × NameKind)→List (Str × Addr)→List (Str × Addr)
 | [],acc=>acc
 | (n,k)::r,acc=>if k == .free then yS cells r ((n,(cells.lookup n).getD 0)::acc) else yS cells r acc
theorem zdP (env:Env) (f:Str × NameKind→List (Str × Addr)→Sem (ForInStep (List (Str × Addr))))
  (hf:∀n k c,f (n,k) c=if k == .free then (do let a ← cellOf env n;pure (.yield ((n,a)::c))) else pure (.yield c)):
  ∀(names:List (Str × NameKind)) (acc:List (Str × Addr)),(∀y ∈ names,y.2=.free→∃c,env.cells.lookup y.1=some c)→forIn names acc f=pure (yS env.cells names acc)
 | [],acc,_=>by rw [List.forIn_nil];rfl
 | (n,k)::r,acc,h=>by
  rw [List.forIn_cons,hf]
  have ih:=fun acc=>zdP env f hf r acc fun y hy=>h y (List.mem_cons_of_mem _ hy)
  unfold yS
  by_cases hk:(k == NameKind.free)=true
  ·rw [if_pos hk,if_pos hk]
   obtain ⟨c,hc⟩:=h (n,k) List.mem_cons_self (by simpa using hk)
   have e:cellOf env n=pure c:=by unfold cellOf;rw [hc]
   rw [e]
   have e2:(env.cells.lookup n).getD 0=c:=by rw [hc];rfl
   rw [e2]
   exact ih _
  ·rw [if_neg hk,if_neg hk]
   exact ih _
theorem zl5 {scope:Scope} {env:Env} (h:∀y ∈ scope.names,y.2=.free→∃c,env.cells.lookup y.1=some c):closureFor scope env=pure (yS env.cells scope.names []):=by
 simp only [closureFor]
 rw [zdP env _ (fun n k c=>rfl) scope.names [] h]
 rfl
theorem zdg {α:Type}:∀{l:List (Str × α)} {n:Str} {c:α},(n,c) ∈ l→∃c',l.lookup n=some c'
 | (k,v)::r,n,c,h=>by
  rw [List.lookup_cons]
  cases hb:n == k with
  | true=>exact ⟨_,rfl⟩
  | false=>
   rcases List.mem_cons.mp h with e | h
   ·cases e;simp at hb
   ·exact zdg h
theorem JM {cells:List (Str × Addr)}:∀{names:List (Str × NameKind)} {acc:List (Str × Addr)} {n:Str} {c:Addr},(n,c) ∈ yS cells names acc→(n,c) ∈ acc∨((n,.free) ∈ names∧c=(cells.lookup n).getD 0)
 | [],_,_,_,h=>.inl h
 | (m,k)::r,acc,n,c,h=>by
  unfold yS at h
  split at h
  ·rename_i hk
   have hk:k=.free:=by simpa using hk
   rcases JM h with h | ⟨h1,h2⟩
   ·rcases List.mem_cons.mp h with e | h
    ·cases e;exact .inr ⟨hk ▸ List.mem_cons_self,rfl⟩
    ·exact .inl h
   ·exact .inr ⟨List.mem_cons_of_mem _ h1,h2⟩
  ·rcases JM h with h | ⟨h1,h2⟩
   ·exact .inl h
   ·exact .inr ⟨List.mem_cons_of_mem _ h1,h2⟩
theorem zbL {cells:List (Str × Addr)}:∀{names:List (Str × NameKind)} {acc:List (Str × Addr)} {p:Str × Addr},p ∈ acc→p ∈ yS cells names acc
 | [],_,_,h=>h
 | (m,k)::r,acc,p,h=>by
  unfold yS
  split
  ·exact zbL (List.mem_cons_of_mem _ h)
  ·exact zbL h
theorem zbK {cells:List (Str × Addr)}:∀{names:List (Str × NameKind)} {acc:List (Str × Addr)} {n:Str},(n,.free) ∈ names→(n,(cells.lookup n).getD 0) ∈ yS cells names acc
 | (m,k)::r,acc,n,h=>by
  unfold yS
  rcases List.mem_cons.mp h with e | h
  ·cases e
   exact zbL List.mem_cons_self
  ·split
   ·exact zbK h
   ·exact zbK h
theorem zaJ:∀{names:List (Str × NameKind)} {h:Heap} {acc:List (Str × Addr)} {x:Str} {c:Addr},(x,c) ∈ cellsFrom h.objs.size names acc→
  (x,c) ∈ acc∨((x,.cell) ∈ names∧h.objs.size≤c∧zpo (pushCells h names) c none)
 | [],_,_,_,_,h=>.inl h
 | (n,k)::r,h,acc,x,c,hm=>by
  unfold cellsFrom at hm
  unfold pushCells
  split at hm
  ·rename_i hk
   rw [if_pos hk]
   have hk:k=.cell:=by simpa using hk
   rw [← Heap.size_push h {cls:=.type "cell",data:=.cell none}] at hm
   rcases zaJ hm with hm | ⟨h1,h2,h3⟩
   ·rcases List.mem_cons.mp hm with e | hm
    ·cases e
     exact .inr ⟨hk ▸ List.mem_cons_self,Nat.le_refl _,_,pushCells_keeps r _ _ _ (Heap.get?_push_size _ rfl),rfl⟩
    ·exact .inl hm
   ·rw [Heap.size_push] at h2
    exact .inr ⟨List.mem_cons_of_mem _ h1,Nat.le_of_succ_le h2,h3⟩
  ·rename_i hk
   rw [if_neg hk]
   rcases zaJ hm with hm | ⟨h1,h2,h3⟩
   ·exact .inl hm
   ·exact .inr ⟨List.mem_cons_of_mem _ h1,h2,h3⟩
theorem zcw:∀{names:List (Str × NameKind)} {n:Nat} {acc:List (Str × Addr)} {p:Str × Addr},p ∈ acc→p ∈ cellsFrom n names acc
 | [],_,_,_,h=>h
 | (m,k)::r,n,acc,p,h=>by
  unfold cellsFrom
  split
  ·exact zcw (List.mem_cons_of_mem _ h)
  ·exact zcw h
theorem zfs:∀{names:List (Str × NameKind)} {n:Nat} {acc:List (Str × Addr)} {x:Str},(x,.cell) ∈ names→∃c,(x,c) ∈ cellsFrom n names acc
 | (m,k)::r,n,acc,x,h=>by
  unfold cellsFrom
  rcases List.mem_cons.mp h with e | h
  ·cases e
   exact ⟨n,zcw List.mem_cons_self⟩
  ·split
   ·exact zfs h
   ·exact zfs h
theorem zfr:∀{names:List (Str × NameKind)} {h:Heap} {acc:List (Str × Addr)} {x y:Str} {c:Addr},(∀p ∈ acc,p.2 < h.objs.size)→(∀x y c,(x,c) ∈ acc→(y,c) ∈ acc→x=y)→
  (x,c) ∈ cellsFrom h.objs.size names acc→(y,c) ∈ cellsFrom h.objs.size names acc→x=y
 | [],_,_,_,_,_,_,hi,h1,h2=>hi _ _ _ h1 h2
 | (n,k)::r,h,acc,x,y,c,hl,hi,h1,h2=>by
  unfold cellsFrom at h1 h2
  split at h1
  ·rename_i hk
   rw [if_pos hk] at h2
   rw [← Heap.size_push h {cls:=.type "cell",data:=.cell none}] at h1 h2
   refine zfr (h:=h.push _) (fun p hp=>?_) (fun x y c a b=>?_) h1 h2
   ·rw [Heap.size_push]
    rcases List.mem_cons.mp hp with rfl | hp
    ·exact Nat.lt_succ_self _
    ·exact Nat.lt_succ_of_lt (hl p hp)
   ·rcases List.mem_cons.mp a with e | a <;> rcases List.mem_cons.mp b with e' | b
    ·cases e;cases e';rfl
    ·cases e;exact absurd (hl _ b) (Nat.lt_irrefl _)
    ·cases e';exact absurd (hl _ a) (Nat.lt_irrefl _)
    ·exact hi _ _ _ a b
  ·rename_i hk
   rw [if_neg hk] at h2
   exact zfr hl hi h1 h2
theorem zkj {M:Model} {A:Around} {E:Value→Shared→Prop} {s:Shared} {scope:Scope} {globals:Addr} {closure:List (Str × Addr)} {qual:Str} {func:Option Addr} {code:Value} {around:Env} {builtins:Addr} {Q:Env→Shared→Prop}
  (h:Q (newEnv scope s.heap.objs.size globals (cellsFrom (s.heap.objs.size + 1) scope.names closure) qual func code (some around) builtins)
   {s with heap:=pushCells (s.heap.push {cls:=.type "dict",data:=.dict #[]}) scope.names}):
  wpAny M A (newFunctionEnv scope globals closure [] qual func code (some around) builtins) Q E s:=by
 simp only [newFunctionEnv,Option.isSome_some,if_true]
 refine wpAny_bind (wpAny_alloc ?_)
 refine wpAny_bind (wpAny_layCells _ (fun n k c=>rfl) scope.names closure _ _ ?_)
 rw [show ({s with heap:=s.heap.push {cls:=.type "dict",data:=.dict #[]}}:Shared).heap.objs.size=s.heap.objs.size + 1 from Heap.size_push ..]
 rw [List.forIn_nil]
 exact wpAny_bind (wpAny_pure (wpAny_pure h))
theorem zbG {sc:Scope}:∀{names:List (Str × NameKind)} {x:Str} {k:NameKind},
  (names.map fun (n,k)=>if (k == NameKind.free&&sc.kind == .function&&sc.names.lookup n == some .cell) then (n,NameKind.cell) else (n,k)).lookup x=some k→
  ∃k',names.lookup x=some k'∧(k=k'∨(k'=.free∧k=.cell))
 | [],_,_,h=>by simp at h
 | (n,k₀)::r,x,k,h=>by
  have ih:=@zbG sc r x k
  have h':List.lookup x ((if (k₀ == NameKind.free&&sc.kind == .function&&sc.names.lookup n == some .cell)=true then (n,NameKind.cell) else (n,k₀))::(r.map _))=some k:=h
  cases hx:x == n with
  | true=>
   simp only [List.lookup_cons,hx]
   by_cases hc:(k₀ == NameKind.free&&sc.kind == .function&&sc.names.lookup n == some .cell)=true
   ·rw [if_pos hc] at h'
    simp only [List.lookup_cons,hx] at h'
    cases h'
    simp only [Bool.and_eq_true,beq_iff_eq] at hc
    exact ⟨k₀,rfl,.inr ⟨hc.1.1,rfl⟩⟩
   ·rw [if_neg hc] at h'
    simp only [List.lookup_cons,hx] at h'
    cases h'
    exact ⟨_,rfl,.inl rfl⟩
  | false=>
   simp only [List.lookup_cons,hx]
   by_cases hc:(k₀ == NameKind.free&&sc.kind == .function&&sc.names.lookup n == some .cell)=true
   ·rw [if_pos hc] at h'
    simp only [List.lookup_cons,hx] at h'
    exact ih h'
   ·rw [if_neg hc] at h'
    simp only [List.lookup_cons,hx] at h'
    exact ih h'
structure znU (N:List Str) (sc scope:Scope) (own:List (Str × Nat)):Prop where
 kind:scope.kind=.function
 uniq:∀y ∈ scope.names,scope.names.lookup y.1=some y.2
 ix:∀p ∈ own,N[p.2]?=some p.1
 free:∀y ∈ scope.names,y.2=.free→sc.names.lookup y.1=some .cell∨sc.names.lookup y.1=some .free
 own:∀y ∈ scope.names,y.2=.local∨y.2=.cell→y.1 ∈ own.map (·.1)∨y.1 ∉ N
noncomputable def ZO (σ:St):List Nat→St
 | []=>σ
 | v::vs=>(ZO σ vs).set v none
theorem zba (σ:St):∀vs:List Nat,(ZO σ vs).length=σ.length
 | []=>rfl
 | v::vs=>by unfold ZO;rw [List.length_set,zba σ vs]
theorem zel {σ:St} {i:Nat} {x:V}:∀{vs:List Nat},(ZO σ vs)[i]?=some (some x)→σ[i]?=some (some x)∧i ∉ vs
 | [],h=>⟨h,by simp⟩
 | v::vs,h=>by
  unfold ZO at h
  by_cases hi:v=i
  ·subst hi
   by_cases hv:v < (ZO σ vs).length
   ·rw [List.getElem?_set_self hv] at h;cases h
   ·rw [List.getElem?_eq_none (by simpa using hv)] at h;cases h
  ·rw [List.getElem?_set_ne hi] at h
   obtain ⟨h1,h2⟩:=zel h
   exact ⟨h1,by simp only [List.mem_cons,not_or];exact ⟨fun e=>hi e.symm,h2⟩⟩
noncomputable abbrev Cx.blk (X:Cx) (s:Shared) (H:Hp) (scope:Scope) (cenv:Env) (fp:List Addr):Cx:={X with s₀:=s,H₀:=H,env:=cenv,outer:=X.stack,ex:=fp,fn:=fun x=>scope.names.lookup x == some .cell,pn:=[],xe:=fun _ _=>False}
section
variable {X:Cx} {pins:List (Addr × Obj)} {σ:St} {H:Hp} {s:Shared}
theorem zkx {scope:Scope} {own:List (Str × Nat)} {fp:List Addr} (I:Inv X pins σ H s) (ok:znU X.N X.env.scope scope own) (hN:X.N.Nodup) (hfp:∀b ∈ fp,zn0 X pins H b∧b < s.heap.objs.size):
  Inv (X.blk s H scope (compEnvC scope (cellsFrom (s.heap.objs.size + 1) scope.names (yS X.env.cells scope.names [])) s.heap.objs.size X.env) fp) [] (ZO σ (own.map (·.2))) H {s with heap:=pushCells (s.heap.push {cls:=.type "dict",data:=.dict #[]}) scope.names}:=by
 have hfree:∀y ∈ scope.names,y.2=.free→∃c,X.env.cells.lookup y.1=some c:=fun y hy e=>by
  rcases ok.free y hy e with k | k
  ·exact I.ok.has _ (.inl k)
  ·exact I.ok.has _ (.inr k)
 generalize hcenv:compEnvC scope (cellsFrom (s.heap.objs.size + 1) scope.names (yS X.env.cells scope.names [])) s.heap.objs.size X.env=cenv
 have kp:∀b o,s.heap.get? b=some o→(pushCells (s.heap.push {cls:=.type "dict",data:=.dict #[]}) scope.names).get? b=some o:=fun b o e=>pushCells_keeps _ _ _ _ (Heap.get?_push_of_some _ e)
 have hL:cenv.locals=s.heap.objs.size:=by rw [← hcenv];rfl
 have hcl:cenv.cells=cellsFrom (s.heap.objs.size + 1) scope.names (yS X.env.cells scope.names []):=by rw [← hcenv];rfl
 have hsc:cenv.scope=zsM scope X.env.scope:=by rw [← hcenv];rfl
 rw [← Heap.size_push s.heap {cls:=.type "dict",data:=.dict #[]}] at hcl
 have cm:∀{y c},(y,c) ∈ yS X.env.cells scope.names []→X.env.cells.lookup y=some c∧c < s.heap.objs.size:=fun {y c} hm=>by
  rcases JM hm with hm | ⟨h1,rfl⟩
  ·cases hm
  ·obtain ⟨c,hc⟩:=hfree _ h1 rfl
   rw [hc]
   obtain ⟨w,z⟩:=I.cell _ _ hc
   exact ⟨rfl,z.lt⟩
 have mem:∀{y c},cenv.cells.lookup y=some c→(X.env.cells.lookup y=some c∧c < s.heap.objs.size)∨(s.heap.objs.size + 1≤c∧zpo (pushCells (s.heap.push {cls:=.type "dict",data:=.dict #[]}) scope.names) c none):=fun {y c} e=>by
  rw [hcl] at e
  rcases zaJ (PySem.mem_of_lookup e) with hm | ⟨_,h2,h3⟩
  ·exact .inl (cm hm)
  ·rw [Heap.size_push] at h2;exact .inr ⟨h2,h3⟩
 have look:∀{y},scope.names.lookup y=some .free→∃c,cenv.cells.lookup y=some c∧X.env.cells.lookup y=some c:=fun {y} hl=>by
  have hy:(y,NameKind.free) ∈ scope.names:=PySem.mem_of_lookup hl
  obtain ⟨c',e'⟩:=zdg (zcw (names:=scope.names) (n:=(s.heap.push {cls:=.type "dict",data:=.dict #[]}).objs.size) (zbK (cells:=X.env.cells) (acc:=[]) hy))
  rw [← hcl] at e'
  refine ⟨c',e',?_⟩
  rw [hcl] at e'
  rcases zaJ (PySem.mem_of_lookup e') with hm | ⟨h1,_,_⟩
  ·exact (cm hm).1
  ·have:=ok.uniq _ h1
   rw [hl] at this;cases this
 have okB:(X.blk s H scope cenv fp).Ok:=by
  refine ⟨I.ok.mod,by show cenv.scope.kind=_;rw [hsc];exact ok.kind,by show cenv.globals=_;rw [← hcenv];exact I.ok.glob,by show cenv.builtins=_;rw [← hcenv];exact I.ok.blt,by show s.heap.objs.size≤cenv.locals;rw [hL];exact Nat.le_refl _,
   fun y z c e1 e2=>?_,fun y hy=>?_,fun y c z e=>?_,I.ok.hd,I.ok.frames,.inl rfl,fun b hb=>⟨?_,fun y c e z=>?_⟩,I.bs,Nat.le_trans I.ok.bsz I.sz,fun b o e hb=>?_,fun b hb z=>?_,I.stack,I.stkFree⟩
  ·have e1:cenv.cells.lookup y=some c:=e1
   have e2:cenv.cells.lookup z=some c:=e2
   rw [hcl] at e1 e2
   refine zfr (fun p hp=>?_) (fun y z c a b=>I.ok.inj y z c (cm a).1 (cm b).1) (PySem.mem_of_lookup e1) (PySem.mem_of_lookup e2)
   rw [Heap.size_push]
   exact Nat.lt_succ_of_lt (cm (y:=p.1) (c:=p.2) hp).2
  ·show ∃c,cenv.cells.lookup y=some c
   have key:∀k,cenv.kindOf y=some k→(k=.cell∨k=.free)→∃c,cenv.cells.lookup y=some c:=fun k hk hk'=>by
    unfold Env.kindOf at hk
    rw [hsc] at hk
    obtain ⟨k',e,r⟩:=zbG hk
    have:k'=.cell∨k'=.free:=by
     rcases r with rfl | ⟨rfl,_⟩
     ·exact hk'
     ·exact .inr rfl
    rcases this with rfl | rfl
    ·obtain ⟨c,hm⟩:=zfs (n:=(s.heap.push {cls:=.type "dict",data:=.dict #[]}).objs.size) (acc:=yS X.env.cells scope.names []) (PySem.mem_of_lookup e)
     obtain ⟨c',e'⟩:=zdg hm
     exact ⟨c',by rw [hcl];exact e'⟩
    ·obtain ⟨c,h1,_⟩:=look e
     exact ⟨c,h1⟩
   rcases hy with hy | hy
   ·exact key _ hy (.inl rfl)
   ·exact key _ hy (.inr rfl)
  ·have z:(scope.names.lookup y == some NameKind.cell)=true:=z
   have z:scope.names.lookup y=some .cell:=by simpa using z
   have e:cenv.cells.lookup y=some c:=e
   rw [hcl] at e
   rcases zaJ (PySem.mem_of_lookup e) with hm | ⟨_,h2,_⟩
   ·rcases JM hm with hm | ⟨h1,_⟩
    ·cases hm
    ·have q:=ok.uniq _ h1
     rw [z] at q;cases q
   ·rw [Heap.size_push] at h2
    exact Nat.le_of_succ_le h2
  ·show b≠cenv.locals
   rw [hL];exact Nat.ne_of_lt (hfp b hb).2
  ·have e:cenv.cells.lookup y=some c:=e
   rcases mem e with ⟨h1,_⟩ | ⟨h1,_⟩
   ·exact (hfp b hb).1.2.2.2.2.1 y c h1 z
   ·have h2:s.heap.objs.size + 1≤b:=by rw [← z];exact h1
    exact absurd (Nat.lt_of_lt_of_le (hfp b hb).2 (Nat.le_of_succ_le h2)) (Nat.lt_irrefl _)
  ·rcases (hfp b hb).1.2.2.2.1 with z | z
   ·exact I.ok.noex b o e z
   ·exact absurd (Nat.lt_of_lt_of_le (Heap.lt_size e) (Nat.le_trans I.ok.bsz z)) (Nat.lt_irrefl _)
  ·rcases List.mem_cons.mp (I.stkSub b z) with z | z
   ·exact (hfp b hb).1.2.1 z
   ·exact (hfp b hb).1.2.2.1 z
 refine ⟨okB,rfl,I.bare,Un.kept kp,⟨fun _=>none,?_,fun i y av e1 e2 e3=>?_⟩,fun y c e=>?_,?_,fun y c e=>?_,fun p hp=>?_,I.hok.kept kp,by rw [zba];exact I.len⟩
 ·show Heap.Ns _ cenv.locals _
  rw [hL]
  exact Heap.Ns.keeps (Heap.Ns.new ..) fun b o e=>pushCells_keeps _ _ _ _ e
 ·obtain ⟨e2,hne⟩:=zel e2
  have hfr:scope.names.lookup y=some .free∧(cenv.kindOf y=some .cell∨cenv.kindOf y=some .free):=by
   have key:∀k,cenv.scope.names.lookup y=some k→k=.local∨k=.cell∨k=.free→scope.names.lookup y=some .free∧(cenv.kindOf y=some .cell∨cenv.kindOf y=some .free):=fun k hk hk'=>by
    have hk0:=hk
    rw [hsc] at hk
    obtain ⟨k',e,r⟩:=zbG hk
    have no:¬ (k'=.local∨k'=.cell):=fun hh=>by
     rcases ok.own _ (PySem.mem_of_lookup e) hh with e' | e'
     ·obtain ⟨p,hp,hpy⟩:=List.mem_map.mp e'
      have e3:=ok.ix p hp
      have:p.1=y:=hpy
      rw [this] at e3
      exact hne (List.mem_map.mpr ⟨p,hp,zhD hN e3 e1⟩)
     ·exact e' (List.mem_of_getElem? e1)
    rcases r with rfl | ⟨rfl,rfl⟩
    ·rcases hk' with rfl | rfl | rfl
     ·exact absurd (.inl rfl) no
     ·exact absurd (.inr rfl) no
     ·exact ⟨e,.inr hk0⟩
    ·exact ⟨e,.inl hk0⟩
   have e3:Vis cenv.scope y:=e3
   rcases e3 with e3 | e3 | e3
   ·exact key _ e3 (.inl rfl)
   ·exact key _ e3 (.inr (.inl rfl))
   ·exact key _ e3 (.inr (.inr rfl))
  obtain ⟨m,hn,hl⟩:=I.loc
  have hvis:Vis X.env.scope y:=(ok.free _ (PySem.mem_of_lookup hfr.1) rfl).elim (fun k=>.inr (.inl k)) (fun k=>.inr (.inr k))
  obtain ⟨w,r,q⟩:=hl i y av e1 e2 hvis
  refine ⟨w,r,.inr ⟨hfr.2,?_⟩⟩
  obtain ⟨c,h1,h2⟩:=look hfr.1
  rcases q with ⟨k,_⟩ | ⟨_,c',e',z⟩
  ·have k:X.env.scope.names.lookup y=some .local:=k
   rcases ok.free _ (PySem.mem_of_lookup hfr.1) rfl with k' | k' <;> rw [show X.env.scope.names.lookup y=_ from k'] at k <;> cases k
  ·rw [h2] at e';cases e'
   exact ⟨c,h1,z.keeps kp⟩
 ·have e:cenv.cells.lookup y=some c:=e
  rcases mem e with ⟨h1,_⟩ | ⟨_,z⟩
  ·obtain ⟨w,z⟩:=I.cell y c h1
   exact ⟨w,z.keeps kp⟩
  ·exact ⟨_,z⟩
 ·show H cenv.locals=none
  rw [hL];exact I.hok.fresh (Nat.le_refl _)
 ·have e:cenv.cells.lookup y=some c:=e
  rcases mem e with ⟨h1,_⟩ | ⟨h1,_⟩
  ·exact I.freeC y c h1
  ·exact I.hok.fresh (Nat.le_of_succ_le h1)
 ·exact absurd (show p ∈ ([]:List (Addr × Obj))++[] from hp) (by simp)
theorem zrr {E:Value→Shared→Prop} {D:Addr} {xs:List V} {y:V} {v:Value} {Q:Value→Shared→Prop} (I:Inv X pins σ H s) (hD:H D=some (.lst xs)) (hz:xs.length < sizeLine) (r:Yz y v)
  (h:∀s',Inv X pins σ (upd H D (.lst (xs++[y]))) s'→Q .none s'):wpAny (model X.prog X.w) X.A (call (.builtin "list.append") [.ref D,v]) Q E s:=by
 obtain ⟨hz',its,n,ri,e⟩:=I.hok D _ hD
 have hl:=ri.length
 refine append_at (hsz:=by rw [List.size_toArray];omega) e fun h' sb ho'=>?_
 refine h {s with heap:=h'} (I.write (t':=s.toks) (by rw [hD];trivial) (.inl rfl) (fun b u hb q=>(sb.2 b hb).trans q) ⟨_,ho'⟩ ⟨by rw [List.length_append];exact hz,its++[v],n + 1,ri.append (.cons r .nil),?_⟩)
 rw [ho']
 simp
noncomputable def PTs (X:Cx) (ifs:List Expr) (t:TT):Prop:=
 ∀(pins:List (Addr × Obj)) (s:Shared) (σ:St) (H:Hp) (Q:Bool→Hp→Prop),Inv X pins σ H s→t σ H Q→
  wpAny (model X.prog X.w) X.A (forIn ifs true fun c r=>if r=true then do let ok ← isTrue c X.env (eval c X.env);pure (ForInStep.yield ok) else pure (ForInStep.yield r)) (TP X pins σ Q) X.xe s
noncomputable def ziq:TT:=fun _ H Q=>Q true H
theorem yK:PTs X [] ziq:=fun _ _ _ H _ I h=>wpAny_tests_nil ⟨H,I,h⟩
theorem zc3 {c:Expr} {t:TT} (h:PT X c t):PTs X [c] t:=fun pins s σ H Q I hw=>wpAny_tests_one (h pins s σ H Q I hw)
end
theorem zqj {α:Type} {t:Sem α} {Q Q':α→Shared→Prop} {M:Model} {A:Around} {E:Value→Shared→Prop} {s:Shared} (h:wpAny M A t Q (fun _ _=>False) s) (hQ:∀a s,Q a s→Q' a s):wpAny M A t Q' E s:=wpAny_mono h hQ fun _ _ z=>False.elim z
theorem zjp {prog:Program} {w:World} {A:Around} {R:Result→Shared→Prop} {s:Shared} {elt target iter:Expr} {ifs:List Expr} {scope:Scope} {pos:Pos} {it acc:Value} {env:Env} (I:Nat→Shared→Prop)
  (turn:∀n s,I n s→wpAny (model prog w) A (pyNext it) (fun r s₁=>match r with
   | none=>R (.ok .next) s₁
   | some v=>wpAny (model prog w) A (letOwnedTupleGo target it v) (fun _ s₁'=>wpAny (model prog w) A (assign target env v) (fun _ s₂=>
     wpAny (model prog w) A (forIn ifs true fun c r=>if r=true then do let ok ← isTrue c env (eval c env);pure (ForInStep.yield ok) else pure (ForInStep.yield r)) (fun ok s₃=>
      if ok=true then wpAny (model prog w) A (eval elt env) (fun x s₄=>
       wpAny (model prog w) A (call (.builtin "list.append") [acc,x]) (fun _ s₅=>∃m,m < n∧I m s₅) (notedBy (model prog w) A env fun e s'=>R (.error e) s') s₄) (notedBy (model prog w) A env fun e s'=>R (.error e) s') s₃
      else ∃m,m < n∧I m s₃) (notedBy (model prog w) A env fun e s'=>R (.error e) s') s₂) (notedBy (model prog w) A env fun e s'=>R (.error e) s') s₁') (notedBy (model prog w) A env fun e s'=>R (.error e) s') s₁) (notedBy (model prog w) A env fun e s'=>R (.error e) s') s)
  (n:Nat) (h:I n s):
  codeAny (model prog w) A (.compLoop (.ListComp elt [⟨target,iter,ifs,0⟩] scope pos) 0 it acc env) R s:=by
 refine codeAny_loop rfl I (fun n s hI=>?_) n h
 show wpAny _ A ((compTurn (.ListComp elt [⟨target,iter,ifs,0⟩] scope pos) 0 it acc env).onRaise (fun x=>do noteFrame x env;theTreesLotGoes x)) _ _ s
 refine wpAny_noted ?_
 rw [compTurn_list]
 refine wpAny_bind (wpAny_standAt (wpAny_bind (wpAny_mono (turn n s hI) (fun r s₁ h₁=>?_) fun _ _ h'=>h')))
 cases r with
 | none=>exact wpAny_pure h₁
 | some v=>
  refine wpAny_bind (wpAny_mono h₁ (fun _ s₁' h₁'=>?_) fun _ _ h'=>h')
  refine wpAny_bind (wpAny_mono h₁' (fun _ s₂ h₂=>wpAny_bind (wpAny_mono h₂ (fun ok s₃ h₃=>?_) fun _ _ h'=>h')) fun _ _ h'=>h')
  cases ok with
  | false=>exact wpAny_pure ⟨rfl,h₃⟩
  | true=>
   exact wpAny_bind (wpAny_bind (wpAny_mono h₃ (fun x s₄ h₄=>wpAny_bind (wpAny_mono h₄ (fun _ s₅ h₅=>wpAny_pure (wpAny_pure ⟨rfl,h₅⟩)) fun _ _ h'=>h')) fun _ _ h'=>h'))
section
variable {X:Cx}
noncomputable def tLc (wi:TI) (g:TG) (tt:TT) (te:TE) (vs:List Nat):TE:=fun σ H Q=>wi σ H fun J H1=>∀D,H1 D=none→∃W:Nat→Nat→Hp→Prop,(∃m,W 0 m (upd H1 D (.lst [])))∧∀i m H,W i m H→
 (J.stop i H∧Q (.ref D) H)∨(J.go i H∧∃Nx:Hp→Prop,(∀H',Nx H'→∃m',m' < m∧W (i + 1) m' H')∧∀x H',J.yld i H x H'→g x (ZO σ vs) H' fun σ2 H2=>ZO σ2 vs=ZO σ vs∧tt σ2 H2 fun b H3=>
  if b=true then te σ2 H3 fun y H4=>∃acc,H4 D=some (.lst acc)∧acc.length < sizeLine∧Nx (upd H4 D (.lst (acc++[y]))) else Nx H3)
theorem znj {pins:List (Addr × Obj)} {s:Shared} {σ:St} {H:Hp} {Q:VK} {elt tg iter:Expr} {ifs:List Expr} {scope:Scope} {own:List (Str × Nat)} {pos pos':Pos} {wi:TI} {g:TG} {tt:TT} {te:TE} {use:Option (Value→Sem Unit)} {Qf:Value→Shared→Prop}
  (hc:X.calm=true) (hN:X.N.Nodup) (I:Inv X pins σ H s) (hi:PI X tg iter wi) (ok:znU X.N X.env.scope scope own)
  (hg:∀(s:Shared) (H:Hp) (C:Addr) (cl:List (Str × Addr)) (fp:List Addr),PG (X.blk s H scope (compEnvC scope cl C X.env) fp) tg g) (ht:∀(s:Shared) (H:Hp) (C:Addr) (cl:List (Str × Addr)) (fp:List Addr),PTs (X.blk s H scope (compEnvC scope cl C X.env) fp) ifs tt)
  (he:∀(s:Shared) (H:Hp) (C:Addr) (cl:List (Str × Addr)) (fp:List Addr),PE (X.blk s H scope (compEnvC scope cl C X.env) fp) elt te) (hs:∀x,foldedSetIterable iter X.env x=pure x)
  (h:tLc wi g tt te (own.map (·.2)) σ H Q)
  (hRR:∀D C s' m H',Inv X pins σ H' s'→Q (.ref D) H'→s'.heap.Ns C m→zn0 X pins H' C→compPost (model X.prog X.w) X.A X.xe use Qf (.ref D) C (.ok .next) s'):
  wpAny (model X.prog X.w) X.A (comprehension (.ListComp elt [⟨tg,iter,ifs,0⟩] scope pos) scope X.env pos' (newList []) false (eval iter X.env) use) Qf X.xe s:=by
 have hfree:∀y ∈ scope.names,y.2=.free→∃c,X.env.cells.lookup y.1=some c:=fun y hy e=>by
  rcases ok.free y hy e with k | k
  ·exact I.ok.has _ (.inl k)
  ·exact I.ok.has _ (.inr k)
 refine wpAny_comprehension_free (use:=use) rfl hs (zl5 hfree) ok.kind (fun y hy e=>by rw [ok.uniq y hy,e])
  (thn (hi pins s σ H _ I h) fun xv s1 hx=>thn hx fun itv s2 h2=>?_)
 obtain ⟨it,fp,tn,J,H2,e,I2,T,st2,f2,q⟩:=h2
 subst e
 refine wpAny_newObj_type (zkj ?_) (by show 0≤sizeLine;decide)
 generalize hD:s2.heap.objs.size=D
 have hDn:H2 D=none:=I2.hok.fresh (Nat.le_of_eq hD)
 obtain ⟨W,⟨m0,w0⟩,turn⟩:=q D hDn
 generalize hs3:({s2 with heap:=s2.heap.push {cls:=.type "list",data:=.seq ([]:List Value).toArray}}:Shared)=s3
 have I3:Inv X pins σ (upd H2 D (.lst [])) s3:=by
  rw [← hs3]
  refine I2.laid (t':=s2.toks) (fun b o e=>Heap.get?_push_of_some _ e) (Nat.le_of_eq hD) ⟨Nat.zero_le _,[],0,.nil,?_⟩
  rw [← hD]
  exact Heap.get?_push_size _ rfl
 have h3:s3.heap=s2.heap.push {cls:=.type "list",data:=.seq ([]:List Value).toArray}:=by rw [← hs3]
 have sz:∀b ∈ fp,b < s2.heap.objs.size:=fun b hb=>by
  obtain ⟨o,e,_⟩:=T.obj _ _ st2 b hb
  exact Heap.lt_size e
 have f3:∀b ∈ fp,zn0 X pins (upd H2 D (.lst [])) b∧b < s3.heap.objs.size:=fun b hb=>by
  have hlt:=sz b hb
  refine ⟨⟨?_,(f2 b hb).2⟩,by rw [h3,Heap.size_push];exact Nat.lt_succ_of_lt hlt⟩
  rw [zv (by rw [← hD];exact Nat.ne_of_lt hlt)]
  exact (f2 b hb).1
 have st3:tn 0 s3.heap:=T.keep _ _ _ st2 fun b _ o e=>by rw [h3];exact Heap.get?_push_of_some _ e
 have I4:=zkx I3 ok hN f3
 have pg:=hg s3 (upd H2 D (.lst [])) s3.heap.objs.size (cellsFrom (s3.heap.objs.size + 1) scope.names (yS X.env.cells scope.names [])) fp
 have pt:=ht s3 (upd H2 D (.lst [])) s3.heap.objs.size (cellsFrom (s3.heap.objs.size + 1) scope.names (yS X.env.cells scope.names [])) fp
 have pe:=he s3 (upd H2 D (.lst [])) s3.heap.objs.size (cellsFrom (s3.heap.objs.size + 1) scope.names (yS X.env.cells scope.names [])) fp
 show codeAny _ _ (.compStart (.ListComp elt [⟨tg,iter,ifs,0⟩] scope pos) 0 (.ref it) (.ref D) (compEnvC scope (cellsFrom (s3.heap.objs.size + 1) scope.names (yS X.env.cells scope.names [])) s3.heap.objs.size X.env)) (compPost (model X.prog X.w) X.A X.xe use Qf (.ref D) s3.heap.objs.size) {s3 with heap:=pushCells (s3.heap.push {cls:=.type "dict",data:=.dict #[]}) scope.names}
 have nfp:∀b ∈ fp,(upd H2 D (.lst [])) b=none:=fun b hb=>(f3 b hb).1.1
 generalize hce:compEnvC scope (cellsFrom (s3.heap.objs.size + 1) scope.names (yS X.env.cells scope.names [])) s3.heap.objs.size X.env=ce at I4 pg pt pe ⊢
 have cL:ce.locals=s3.heap.objs.size:=by subst hce;rfl
 generalize hH3:upd H2 D (.lst [])=H3 at I3 I4 pg pt pe w0 nfp f3
 generalize hs4:({s3 with heap:=pushCells (s3.heap.push {cls:=.type "dict",data:=.dict #[]}) scope.names}:Shared)=s4 at I4 ⊢
 have st4:tn 0 s4.heap:=T.keep _ _ _ st3 fun b _ o e=>by rw [← hs4];exact pushCells_keeps _ _ _ _ (Heap.get?_push_of_some _ e)
 have stat:∀{σ':St} {H':Hp} {s':Shared},Inv (X.blk s3 H3 scope ce fp) [] σ' H' s'→(∀b ∈ fp,H' b=none)→∀b ∈ fp,zn0 (X.blk s3 H3 scope ce fp) [] H' b:=fun {σ' H' s'} I' hn b hb=>
  ⟨hn b hb,(I'.ok.exf b hb).1,I'.ok.exfs b hb,.inl hb,fun x c e=>(I'.ok.exf b hb).2 x c e,fun p hp=>absurd (show p ∈ ([]:List (Addr × Obj))++[] from hp) (by simp)⟩
 have loop:codeAny (model X.prog X.w) X.A (.compLoop (.ListComp elt [⟨tg,iter,ifs,0⟩] scope pos) 0 (.ref it) (.ref D) ce) (compPost (model X.prog X.w) X.A X.xe use Qf (.ref D) s3.heap.objs.size) s4:=by
  refine zjp (fun n s'=>∃i H',Inv (X.blk s3 H3 scope ce fp) [] (ZO σ (own.map (·.2))) H' s'∧tn i s'.heap∧(∀b ∈ fp,H' b=none)∧W i n H') ?_ m0 ⟨0,H3,I4,st4,nfp,w0⟩
  rintro n s5 ⟨i,H5,I5,st5,n5,w5⟩
  rcases turn i n H5 w5 with ⟨stop,qq⟩ | ⟨go,Nx,hNx,step⟩
  ·have td:=T.done (X.blk s3 H3 scope ce fp) rfl rfl rfl hc i [] s5 _ H5 (fun _ _=>False) I5 (stat I5 n5) st5 stop
   refine zqj td fun r s6 ⟨hr,I6⟩=>?_
   subst hr
   have I7:Inv X pins σ H5 s6:=I3.call' (ch:=fp) I6.os I6.base I6.hok I6.bare fun b hb=>⟨(f3 b hb).1.2.2.2.1,(f3 b hb).1.2.1,(f3 b hb).1.2.2.2.2.1,(f3 b hb).1.2.2.2.2.2⟩
   have nC:H5 s3.heap.objs.size=none:=by
    have z:H5 ce.locals=none:=I6.free
    rw [cL] at z
    exact z
   obtain ⟨m,hn,_⟩:=I6.loc
   have hn:s6.heap.Ns ce.locals m:=hn
   rw [cL] at hn
   exact hRR D s3.heap.objs.size s6 m H5 I7 qq hn (I3.fpOk (Nat.le_refl _) nC)
  ·have ti:=T.item (X.blk s3 H3 scope ce fp) rfl rfl rfl hc i [] s5 _ H5 (fun _ _=>False) I5 (stat I5 n5) st5 go
   refine zqj ti fun r s6 ⟨u,hr,h6⟩=>?_
   subst hr
   refine zqj h6 fun _ s7 ⟨x,H7,I7,r7,y7,st7,n7⟩=>?_
   have I7':=I7.pinned (stat I7 n7) (T.obj _ _ st7)
   refine zqj (pg _ s7 _ H7 x u _ I7' r7 (step x H7 y7)) fun _ s8 ⟨σ8,H8,I8,hw8,q8⟩=>?_
   refine zqj (pt _ s8 σ8 H8 _ I8 q8) fun b s9 ⟨H9,I9,q9⟩=>?_
   have fin:∀{s':Shared} {H':Hp},Inv (X.blk s3 H3 scope ce fp) ([]++ziR fp s7.heap) σ8 H' s'→Nx H'→∃m,m < n∧∃i H',Inv (X.blk s3 H3 scope ce fp) [] (ZO σ (own.map (·.2))) H' s'∧tn i s'.heap∧(∀b ∈ fp,H' b=none)∧W i m H':=fun {s' H'} I' nx=>by
    obtain ⟨m',hm,w'⟩:=hNx H' nx
    have pin':∀b ∈ fp,∀o,s7.heap.get? b=some o→s'.heap.get? b=some o∧H' b=none:=fun b hb o e=>
     let z:=I'.pin (b,o) (List.mem_append_right _ (List.mem_append_right _ (zdf hb e)))
     ⟨z.1,z.2.1⟩
    have hl:(ZO σ (own.map (·.2))).length=σ8.length:=by rw [← hw8,zba]
    refine ⟨m',hm,i + 1,H',(I'.unpinned (pins:=[])).weak hl (fun j v e=>?_),T.keep _ _ _ st7 fun b hb o e=>(pin' b hb o e).1,fun b hb=>?_,w'⟩
    ·rw [← hw8] at e
     exact (zel e).1
    ·obtain ⟨o,e,_⟩:=T.obj _ _ st7 b hb
     exact (pin' b hb o e).2
   cases b with
   | false=>
    simp only [Bool.false_eq_true,if_false] at q9 ⊢
    exact fin I9 q9
   | true=>
    simp only [if_true] at q9 ⊢
    refine zqj (pe _ s9 σ8 H9 _ I9 q9) fun z s10 ⟨yv,H10,I10,r10,acc,hD10,hz10,nx⟩=>?_
    exact zrr (X:=X.blk s3 H3 scope ce fp) I10 hD10 hz10 r10 fun s11 I11=>fin I11 nx
 exact codeAny_compStart_list loop (T.self X.A 0 _ _ _ st4 loop)
theorem Q2 {elt tg iter:Expr} {ifs:List Expr} {scope:Scope} {own:List (Str × Nat)} {pos:Pos} {wi:TI} {g:TG} {tt:TT} {te:TE} (hc:X.calm=true) (hN:X.N.Nodup) (hi:PI X tg iter wi) (ok:znU X.N X.env.scope scope own)
  (hg:∀(s:Shared) (H:Hp) (C:Addr) (cl:List (Str × Addr)) (fp:List Addr),PG (X.blk s H scope (compEnvC scope cl C X.env) fp) tg g) (ht:∀(s:Shared) (H:Hp) (C:Addr) (cl:List (Str × Addr)) (fp:List Addr),PTs (X.blk s H scope (compEnvC scope cl C X.env) fp) ifs tt)
  (he:∀(s:Shared) (H:Hp) (C:Addr) (cl:List (Str × Addr)) (fp:List Addr),PE (X.blk s H scope (compEnvC scope cl C X.env) fp) elt te) (hs:∀x,foldedSetIterable iter X.env x=pure x:=by intro _;rfl):
  PE X (.ListComp elt [⟨tg,iter,ifs,0⟩] scope pos) (tLc wi g tt te (own.map (·.2))):=by
 intro pins s σ H Q I h
 rw [eval_ListComp]
 refine znj hc hN I hi ok hg ht he hs h fun D C s' m H' I' q hn f=>⟨m,hn,fun h'' sb=>?_⟩
 obtain ⟨f0,f1,f2,f3,f4,f5⟩:=f
 exact ⟨.ref D,H',I'.turned (t':=s'.toks) (fun b o hb e=>(sb.2 b hb).trans e) f0 f1 f3 f4 f5,rfl,q⟩
theorem Jx {i:Nat} {y:Str} {py:Pos} {elt tg iter:Expr} {ifs:List Expr} {scope:Scope} {own:List (Str × Nat)} {pos spos:Pos} {wi:TI} {g:TG} {tt:TT} {te:TE} (hc:X.calm=true) (hN:X.N.Nodup) (hy:X.N[i]?=some y) (hyl:X.env.scope.names.lookup y=some .local)
  (hsw:swapsWith (.ListComp elt [⟨tg,iter,ifs,0⟩] scope pos) (some (.Name y py)) spos.line X.env=pure true) (hi:PI X tg iter wi) (ok:znU X.N X.env.scope scope own)
  (hg:∀(s:Shared) (H:Hp) (C:Addr) (cl:List (Str × Addr)) (fp:List Addr),PG (X.blk s H scope (compEnvC scope cl C X.env) fp) tg g) (ht:∀(s:Shared) (H:Hp) (C:Addr) (cl:List (Str × Addr)) (fp:List Addr),PTs (X.blk s H scope (compEnvC scope cl C X.env) fp) ifs tt)
  (he:∀(s:Shared) (H:Hp) (C:Addr) (cl:List (Str × Addr)) (fp:List Addr),PE (X.blk s H scope (compEnvC scope cl C X.env) fp) elt te) (hs:∀x,foldedSetIterable iter X.env x=pure x:=by intro _;rfl):
  PS X (.Assign [.Name y py] (.ListComp elt [⟨tg,iter,ifs,0⟩] scope pos) spos) (zrx (tLc wi g tt te (own.map (·.2))) (Jf i)):=by
 intro pins s σ H D I h
 rw [exec_Assign_Name_used _ _ _ _ hsw]
 refine wpAny_bind (wpAny_standAt (wpAny_bind ?_))
 show wpAny _ X.A (do let _ ← comprehension (.ListComp elt [⟨tg,iter,ifs,0⟩] scope pos) scope X.env (firstIterPos [⟨tg,iter,ifs,0⟩] pos) (newList []) false (eval iter X.env) (some (assign (.Name y py) X.env))) _ _ s
 have h:tLc wi g tt te (own.map (·.2)) σ H (fun x H1=>Jf i x σ H1 D.nx):=h
 refine wpAny_bind (thn (znj (Qf:=fun _ s'=>SP X pins D .next s') hc hN I hi ok hg ht he hs h fun L C s' m H' I' q hn f=>?_) fun _ s' hq=>wpAny_pure (wpAny_pure hq))
 show wpAny _ _ (assign (.Name y py) X.env (.ref L)) _ _ _
 refine wpAny_assign_Name (zir (v:=V.ref L) I' hN hy (.inl hyl) rfl (fun s2 I2 ⟨a,sb,ha⟩=>?_) (.inr hyl))
 obtain ⟨f0,f1,f2,f3,f4,f5⟩:=f
 have haC:C≠a:=by
  rcases ha with z | z
  ·rw [z];exact f1
  ·exact fun e=>f4 y a z e.symm
 refine ⟨m,hn.sameBut sb haC,fun h3 sb3=>?_⟩
 exact ⟨_,H',I2.turned (t':=s2.toks) (fun b o hb e=>(sb3.2 b hb).trans e) f0 f1 f3 f4 f5,q⟩
theorem zbc {elt:Expr} {gs:List Comprehension} {scope:Scope} {pos py:Pos} {y:Str} {l:Nat} {env:Env} (hk:env.scope.kind=.function) (hy:env.scope.names.lookup y=some .local) (hl:(py.line == pos.line)=true)
  (ha:(scope.names.any fun (n,k)=>n == y&&(k == .local||k == .cell))=false):swapsWith (.ListComp elt gs scope pos) (some (.Name y py)) l env=pure true:=by
 have ky:env.kindOf y=some .local:=hy
 have hb:env.blockKind=.function:=by unfold Env.blockKind;rw [hk];rfl
 unfold swapsWith
 simp only [hb,ky,ha,Expr.pos,hl]
 rfl
end
theorem zni {K:PySem.W.Frag} {a:Addr} {xs:List V} {g:TG} {tt:TT} {te:TE} {vs:List Nat} {σ:St} {H1:Hp} {D:Addr} {Qd:Hp→Prop} (Pv:Nat→Hp→Prop) (h0:Pv 0 (upd H1 D (.lst []))) (hl:∀i H,i≤xs.length→Pv i H→SqL K H a xs)
  (hs:∀i x H,xs[i]?=some x→Pv i H→g x (ZO σ vs) H fun σ2 H2=>ZO σ2 vs=ZO σ vs∧tt σ2 H2 fun b H3=>
   if b=true then te σ2 H3 fun y H4=>∃acc,H4 D=some (.lst acc)∧acc.length < sizeLine∧Pv (i + 1) (upd H4 D (.lst (acc++[y]))) else Pv (i + 1) H3) (hd:∀H,Pv xs.length H→Qd H):
  ∃W:Nat→Nat→Hp→Prop,(∃m,W 0 m (upd H1 D (.lst [])))∧∀i m H,W i m H→
   ((Itl K a).stop i H∧Qd H)∨((Itl K a).go i H∧∃Nx:Hp→Prop,(∀H',Nx H'→∃m',m' < m∧W (i + 1) m' H')∧∀x H',(Itl K a).yld i H x H'→g x (ZO σ vs) H' fun σ2 H2=>ZO σ2 vs=ZO σ vs∧tt σ2 H2 fun b H3=>
    if b=true then te σ2 H3 fun y H4=>∃acc,H4 D=some (.lst acc)∧acc.length < sizeLine∧Nx (upd H4 D (.lst (acc++[y]))) else Nx H3):=by
 refine ⟨fun i m H=>m=xs.length - i∧i≤xs.length∧Pv i H,⟨xs.length,by simp,Nat.zero_le _,h0⟩,?_⟩
 rintro i m H ⟨rfl,hi,p⟩
 have q:=hl i H hi p
 by_cases hlt:i < xs.length
 ·refine .inr ⟨⟨xs,xs[i],q,by simp [hlt]⟩,Pv (i + 1),fun H' p'=>⟨xs.length - (i + 1),by omega,rfl,hlt,p'⟩,fun x H' y=>?_⟩
  obtain ⟨e,y⟩:=y
  subst e
  exact hs i x _ (y xs q) p
 ·have e:i=xs.length:=by omega
  subst e
  exact .inl ⟨⟨xs,q,Nat.le_refl _⟩,hd H p⟩
theorem zq1 {K:PySem.W.Frag} {a:Addr} {xs:List V} {g:TG} {tt:TT} {te:TE} {vs:List Nat} {σ:St} {H1:Hp} {D:Addr} {Qd:Hp→Prop} (Pv:Nat→Hp→Prop) (h0:Pv 0 (upd H1 D (.lst []))) (hl:∀i H,i≤xs.length→Pv i H→SqT K H a xs)
  (hs:∀i x H,xs[i]?=some x→Pv i H→g x (ZO σ vs) H fun σ2 H2=>ZO σ2 vs=ZO σ vs∧tt σ2 H2 fun b H3=>
   if b=true then te σ2 H3 fun y H4=>∃acc,H4 D=some (.lst acc)∧acc.length < sizeLine∧Pv (i + 1) (upd H4 D (.lst (acc++[y]))) else Pv (i + 1) H3) (hd:∀H,Pv xs.length H→Qd H):
  ∃W:Nat→Nat→Hp→Prop,(∃m,W 0 m (upd H1 D (.lst [])))∧∀i m H,W i m H→
   ((Itt K a).stop i H∧Qd H)∨((Itt K a).go i H∧∃Nx:Hp→Prop,(∀H',Nx H'→∃m',m' < m∧W (i + 1) m' H')∧∀x H',(Itt K a).yld i H x H'→g x (ZO σ vs) H' fun σ2 H2=>ZO σ2 vs=ZO σ vs∧tt σ2 H2 fun b H3=>
    if b=true then te σ2 H3 fun y H4=>∃acc,H4 D=some (.lst acc)∧acc.length < sizeLine∧Nx (upd H4 D (.lst (acc++[y]))) else Nx H3):=by
 refine ⟨fun i m H=>m=xs.length - i∧i≤xs.length∧Pv i H,⟨xs.length,by simp,Nat.zero_le _,h0⟩,?_⟩
 rintro i m H ⟨rfl,hi,p⟩
 have q:=hl i H hi p
 by_cases hlt:i < xs.length
 ·refine .inr ⟨⟨xs,xs[i],q,by simp [hlt]⟩,Pv (i + 1),fun H' p'=>⟨xs.length - (i + 1),by omega,rfl,hlt,p'⟩,fun x H' y=>?_⟩
  obtain ⟨e,y⟩:=y
  subst e
  exact hs i x _ (y xs q) p
 ·have e:i=xs.length:=by omega
  subst e
  exact .inl ⟨⟨xs,q,Nat.le_refl _⟩,hd H p⟩
noncomputable def zsA (N:List Str) (sc scope:Scope) (own:List (Str × Nat)):Bool:=
 (match scope.kind with | .function=>true | _=>false)&&(scope.names.all fun y=>decide (scope.names.lookup y.1=some y.2))&&(own.all fun p=>decide (N[p.2]?=some p.1))&&
  (scope.names.all fun y=>match y.2 with
   | .free=>(match sc.names.lookup y.1 with | some .cell=>true | some .free=>true | _=>false)
   | .local=>decide (y.1 ∈ own.map (·.1))||decide (y.1 ∉ N)
   | .cell=>decide (y.1 ∈ own.map (·.1))||decide (y.1 ∉ N)
   | _=>true)
theorem z3 {N:List Str} {sc scope:Scope} {own:List (Str × Nat)} (h:zsA N sc scope own=true):znU N sc scope own:=by
 unfold zsA at h
 simp only [Bool.and_eq_true,List.all_eq_true,decide_eq_true_eq] at h
 obtain ⟨⟨⟨h1,h2⟩,h3⟩,h4⟩:=h
 refine ⟨?_,h2,h3,fun y hy e=>?_,fun y hy e=>?_⟩
 ·split at h1
  ·assumption
  ·cases h1
 ·have q:=h4 y hy
  simp only [e] at q
  split at q <;> first | exact .inl (by assumption) | exact .inr (by assumption) | cases q
 ·have q:=h4 y hy
  rcases e with e | e <;> (simp only [e,Bool.or_eq_true,decide_eq_true_eq] at q;exact q)
end L2
namespace L2
open PySem PySem.Spec PyProof.Rows
section
variable {prog:Program} {w:World} {A:Around} {R:Result→Shared→Prop} {s:Shared} {elt t0 i0 t1 i1:Expr} {ifs0 ifs1:List Expr} {scope:Scope} {pos:Pos} {it acc:Value} {env:Env}
end
section
variable {X:Cx}
end
end L2
namespace L2
open PySem PySem.Spec PyProof.Rows
section
variable {κ:Type} [DecidableEq κ]
end
noncomputable abbrev KT (H:Hp):List (List Key × V)→List (List Key × Addr × Value)→Prop:=Paired fun p q=>p.1=q.1∧H q.2.1=some (.tup (p.1.map kV))∧Yz p.2 q.2.2
section
variable {P:Program} {w:World} {H:Hp} {h:Heap} {a:Addr}
end
section
variable {X:Cx} {pins:List (Addr × Obj)} {σ:St} {H:Hp} {s:Shared} {a:Addr} {y v:V} {u r:Value} {o:Option V} {A:Around} {E:Value→Shared→Prop}
end
section
variable {X:Cx} {pins:List (Addr × Obj)} {σ:St} {H:Hp} {s:Shared} {a:Addr} {kvs:List (Key × V)} {k:Key} {u:Value} {A:Around} {E:Value→Shared→Prop}
end
section
variable {X:Cx} {o i e value:Expr} {pos pos' tpos:Pos} {td ty tv:TE}
end
section
variable {X:Cx} {pos:Pos}
end
noncomputable abbrev VV:List (V × V)→List (Value × Value)→Prop:=Paired fun p q=>Yz p.1 q.1∧Yz p.2 q.2
section
variable {X:Cx} {pins:List (Addr × Obj)} {σ:St} {H:Hp} {s:Shared} {a:Addr} {y d:V} {u r:Value} {o:Option V} {A:Around} {E:Value→Shared→Prop}
end
section
variable {X:Cx} {o e f:Expr} {apos cpos:Pos} {td ty tx:TE}
end
section
variable {X:Cx} {pins:List (Addr × Obj)} {σ:St} {H:Hp} {s:Shared} {a:Addr} {kvs:List (Key × V)} {A:Around} {E:Value→Shared→Prop}
end
section
variable {X:Cx} {pins:List (Addr × Obj)} {σ:St} {H:Hp} {s:Shared} {a:Addr} {y:V} {u:Value} {A:Around} {E:Value→Shared→Prop}
end
end L2
namespace L2
open PySem PySem.Spec PyProof.Rows
section
variable {prog:Program} {w:World} {A:Around} {E:Value→Shared→Prop}
end
section
variable {X:Cx}
end
end L2
namespace L2
open PySem PySem.Spec PyProof.Rows
theorem zge:bootBuiltins "reversed"=some (.type "reversed"):=by decide +kernel
section
variable {X:Cx} {pins:List (Addr × Obj)} {σ:St} {H:Hp} {s:Shared} {h':Heap}
end
section
variable {X:Cx}
theorem zmX {tg:Expr} {pins:List (Addr × Obj)} {σ:St} {H:Hp} {s:Shared} {R:It→Hp→Prop} {J:It} {tn:Nat→Heap→Prop} {tk:Nat} (I:Inv X pins σ H s) (o:Obj)
  (T:zqc X.prog X.w X.K tg J [s.heap.objs.size] s.heap.objs.size tn) (st:tn 0 (s.heap.push o)) (q:R J H):PIE X pins σ tg R (.ref s.heap.objs.size) {s with heap:=s.heap.push o,toks:=tk}:=by
 refine ⟨s.heap.objs.size,[s.heap.objs.size],tn,J,H,rfl,I.kept fun b ob e=>Heap.get?_push_of_some _ e,T,st,fun b hb=>?_,q⟩
 have e:b=s.heap.objs.size:=by simpa using hb
 subst e
 exact I.fpOk (Nat.le_refl _) (I.hok.fresh (Nat.le_refl _))
end
noncomputable def Itc (lo c:Int) (n:Nat):It:=⟨fun i _=>i < n,fun i H x H'=>H'=H∧x=.int (lo + (i:Nat) * c),fun i _=>n≤i⟩
theorem zjS {P:Program} {w:World} {K:PySem.W.Frag} {tg:Expr} (it:Addr) (lo c:Int) (n:Nat):zqc P w K tg (Itc lo c n) [it] it (fun i h=>IsRangeIter h it (lo + (i:Nat) * c) ((n:Int) - (i:Nat)) c) where
 mem:=by simp
 obj:=fun i h st b hb=>by
  have e:b=it:=by simpa using hb
  subst e
  exact ⟨_,st,fun v z=>nomatch z⟩
 keep:=fun i h h' st k=>k it (by simp) _ st
 item:=by
  intro X hP hw hK hc i pins s σ H E I hf st hg
  subst hP hw hK
  obtain ⟨f0,f1,f2,f3,f4,f5⟩:=hf it (by simp)
  have W:=Walks.range (prog:=X.prog) (w:=X.w) (I.ok.hd hc) it lo c n
  refine W.item i s _ _ hg st fun v h' tk hv st' kk=>?_
  obtain ⟨t,rfl⟩:=hv
  have I1:Inv X pins σ H {s with heap:=h',toks:=tk}:=I.turned (fun b o hb e=>kk b o (by simpa using hb) e) f0 f1 f3 f4 f5
  exact ⟨_,rfl,znt (s:={s with heap:=h',toks:=tk}) (n:="range_iterator") st' rfl rfl (by decide) ⟨.int (lo + (i:Nat) * c),H,I1,⟨t,rfl⟩,⟨rfl,rfl⟩,st',fun b hb=>(hf b hb).1⟩⟩
 done:=by
  intro X hP hw hK hc i pins s σ H E I hf st hg
  subst hP hw hK
  obtain ⟨f0,f1,f2,f3,f4,f5⟩:=hf it (by simp)
  exact wpAny_pyNext_range_end (I.ok.hd hc) st (by have:n≤i:=hg;omega) fun h' eb=>⟨rfl,I.turned (t':=s.toks) (fun b o hb e=>eb b o hb e) f0 f1 f3 f4 f5⟩
 self:=fun A i s Q E st h=>wpAny_pyIter_rangeiter st h
noncomputable def RgC (i j c:Int) (n:Nat):Prop:=c≠0∧c.natAbs < 1073741824∧Builtin.Range.small i j c=true∧Builtin.Range.rangeSize i j c=n
noncomputable def zre (ta:TA):TI:=fun σ H R=>ta σ H fun vs H1=>∃(i j c:Int) (n:Nat),vs=[.int i,.int j,.int c]∧RgC i j c n∧R (Itc i c n) H1
section
variable {X:Cx} {tg:Expr}
theorem zmV {a b c:Expr} {ta:TA} {p pos:Pos} (hg:Gl X "range") (hm:X.mg "range"=none) (ha:PA X [a,b,c] ta)
  (hs:starEach [a,b,c] X.env=(false,eval a X.env)::starEach [b,c] X.env:=by rfl) (hpl:(backTo pos (starEach [b,c] X.env)).any (·.1)=false:=by rfl):
  PI X tg (.Call (.Name "range" p) [a,b,c] [] pos) (zre ta):=by
 intro pins s σ H R I h
 refine Call_ (zgF I hg hm boot_range (PyProof.Rows.callWith_type1 (thn (ha pos pins s σ H _ I h) fun us s1 ⟨vs,H1,I1,r1,q1⟩=>?_) hs hpl))
 obtain ⟨i,j,k,n,e,⟨c0,c1,c2,c3⟩,q⟩:=q1
 subst e
 cases r1 with
 | cons r rr=>
  cases rr with
  | cons r' rr=>
   cases rr with
   | cons r'' rr=>
    cases rr
    obtain ⟨t,rfl⟩:=r
    obtain ⟨t',rfl⟩:=r'
    obtain ⟨t'',rfl⟩:=r''
    refine call_range_3 c0 ?_ (.inl (PyProof.noPylong_small c1))
    refine wpAny_pyIter_range (IsRange.new ..) c2 ?_
    have I2:Inv X pins σ H1 {s1 with heap:=s1.heap.push {cls:=.type "range",data:=.fields #[.int i t,.int j t',.int k t'']}}:=I1.kept (t':=s1.toks) fun b o e=>Heap.get?_push_of_some _ e
    refine zmX (tk:=s1.toks) I2 _ (zjS _ i k n) ?_ q
    have e1:i + ((0:Nat):Int) * k=i:=by simp
    have e2:(n:Int) - ((0:Nat):Int)=Builtin.Range.rangeSize i j k:=by rw [c3];simp
    show IsRangeIter _ _ (i + ((0:Nat):Int) * k) ((n:Int) - ((0:Nat):Int)) k
    rw [e1,e2]
    exact Heap.get?_push_size _ rfl
end
section
variable {X:Cx} {tg:Expr}
end
noncomputable def Its (x:Str):It:=⟨fun i _=>i < x.cps.size,fun i H v H'=>H'=H∧∃c,x.cps[i]?=some c∧v=.str ⟨#[c]⟩,fun i _=>x.cps.size≤i⟩
theorem zkO {P:Program} {w:World} {K:PySem.W.Frag} {tg:Expr} (it:Addr) (x:Str) (t:Tok) (ty:String) (hty:ty="str_ascii_iterator"∨ty="str_iterator"):
  zqc P w K tg (Its x) [it] it (fun i h=>h.IsStrIter it ty x t i) where
 mem:=by simp
 obj:=fun i h st b hb=>by
  have e:b=it:=by simpa using hb
  subst e
  obtain ⟨o,e,c,d⟩:=st
  exact ⟨o,e,fun v z=>by rw [d] at z;cases z⟩
 keep:=fun i h h' st k=>let ⟨o,ho,r⟩:=st;⟨o,k it (by simp) o ho,r⟩
 item:=by
  intro X hP hw hK hc i pins s σ H E I hf st hg
  subst hP hw hK
  obtain ⟨f0,f1,f2,f3,f4,f5⟩:=hf it (by simp)
  have W:Walks X.prog X.w X.A it [it] [it] x.cps.size (SignAt x) (fun i h=>h.IsStrIter it ty x t i):=by
   rcases hty with e | e
   ·rw [e];exact Walks.strAscii (I.ok.hd hc) it x t
   ·rw [e];exact Walks.strWide (I.ok.hd hc) it x t
  have hno:["enumerate","zip","dict_itemiterator","dict_reverseitemiterator","odict_iterator","itertools.zip_longest","itertools.pairwise"].contains ty=false:=by
   rcases hty with e | e
   ·rw [e];decide
   ·rw [e];decide
  refine W.item i s _ _ hg st fun v h' tk hv st' kk=>?_
  obtain ⟨c,u,hcx,rfl⟩:=hv
  have I1:Inv X pins σ H {s with heap:=h',toks:=tk}:=I.turned (fun b o hb e=>kk b o (by simpa using hb) e) f0 f1 f3 f4 f5
  obtain ⟨oi,e,cc,dd⟩:=id st'
  exact ⟨_,rfl,znt (s:={s with heap:=h',toks:=tk}) e cc dd hno ⟨.str ⟨#[c]⟩,H,I1,⟨u,rfl⟩,⟨rfl,c,hcx,rfl⟩,st',fun b hb=>(hf b hb).1⟩⟩
 done:=by
  intro X hP hw hK hc i pins s σ H E I hf st hg
  subst hP hw hK
  obtain ⟨f0,f1,f2,f3,f4,f5⟩:=hf it (by simp)
  have hx:x.cps[i]?=none:=Array.getElem?_eq_none hg
  rcases hty with e | e
  ·rw [e] at st
   exact wpAny_pyNext_ascii_end (I.ok.hd hc) st hx fun h' eb=>⟨rfl,I.turned (t':=s.toks) (fun b o hb e=>eb b o hb e) f0 f1 f3 f4 f5⟩
  ·rw [e] at st
   exact wpAny_pyNext_wide_end (I.ok.hd hc) st hx fun h' eb=>⟨rfl,I.turned (t':=s.toks) (fun b o hb e=>eb b o hb e) f0 f1 f3 f4 f5⟩
 self:=fun A i s Q E st h=>by
  rcases hty with e | e
  ·rw [e] at st;exact wpAny_pyIter_striter_ascii st h
  ·rw [e] at st;exact wpAny_pyIter_striter_wide st h
noncomputable def zsz (te:TE):TI:=fun σ H R=>te σ H fun v H1=>∃x,v=.str x∧R (Its x) H1
theorem zqM {X:Cx} {tg e:Expr} {te:TE} (he:PE X e te):PI X tg e (zsz te):=by
 intro pins s σ H R I h
 refine thn (he pins s σ H _ I h) fun v s1 ⟨y,H1,I1,r1,x,ex,q⟩=>?_
 subst ex
 obtain ⟨t,rfl⟩:=r1
 cases ha:x.cps.all (· < 128)
 ·exact wpAny_pyIter_wide ha (zmX (tk:=s1.toks) I1 _ (zkO _ x t "str_iterator" (.inr rfl)) ⟨_,Heap.get?_push_size _ rfl,rfl,rfl⟩ q)
 ·exact wpAny_pyIter_ascii ha (zmX (tk:=s1.toks) I1 _ (zkO _ x t "str_ascii_iterator" (.inl rfl)) ⟨_,Heap.get?_push_size _ rfl,rfl,rfl⟩ q)
section
variable {prog:Program} {w:World} {A:Around} {E:Value→Shared→Prop} {s:Shared}
end
section
variable {X:Cx} {pins:List (Addr × Obj)} {σ:St} {H:Hp} {s:Shared} {d:Addr} {o:Obj}
end
section
variable {P:Program} {w:World} {K:PySem.W.Frag} {tg:Expr} {d:Addr} {o:Obj} {es:Array DictEntry} {ep:Nat}
end
section
variable {X:Cx} {tg e:Expr} {td:TE} {apos cpos:Pos}
end
end L2
section
namespace Bits
open PySem PyProof.Rows
theorem bitAnd_mask {x:Int} (k:Nat) (hx:0≤x):Builtin.bitAnd x (2 ^ k - 1)=x % 2 ^ k:=by
 obtain ⟨n,rfl⟩:=Int.eq_ofNat_of_zero_le hx
 have hp:0 < 2 ^ k:=Nat.two_pow_pos k
 rw [two_pow_cast]
 have e:((2 ^ k:Nat):Int) - 1=((2 ^ k - 1:Nat):Int):=by
  generalize (2:Nat) ^ k=m at hp
  omega
 rw [e,bitAnd_pp (by omega) (by omega),Int.toNat_natCast,Int.toNat_natCast,Nat.and_two_pow_sub_one_eq_mod]
 first
  | rfl
  | exact Int.natCast_emod _ _
  | simp
theorem zfa (m:Nat):∀n:Nat,(m ^^^ n) + 2 * (m&&& n)=m + n:=by
 induction m using Nat.strongRecOn with
 | _ m ih=>
  intro n
  by_cases h0:m=0
  ·subst h0
   simp
  ·have ih':=ih (m / 2) (by omega) (n / 2)
   rw [← Nat.xor_div_two,← Nat.and_div_two] at ih'
   have o1:=@Nat.xor_mod_two_eq_one m n
   have a1:=@Nat.and_mod_two_eq_one m n
   omega
theorem bitXor_pp {x y:Int} (hx:0≤x) (hy:0≤y):Builtin.bitXor x y=((x.toNat ^^^ y.toNat:Nat):Int):=by
 have e:=zfa x.toNat y.toNat
 rw [bitXor_and,bitAnd_pp hx hy]
 omega
end Bits
end
section
namespace TL
open PySem PySem.Builtin PySem.Builtin.Str PySem.StrLaws
noncomputable abbrev tl (x:Str):List Nat:=x.cps.toList
theorem len_tl (x:Str):x.length=(tl x).length:=by simp [tl,Str.length]
theorem tl_append (x y:Str):tl (x++y)=tl x++tl y:=by
 show (x++y).cps.toList=_
 rw [Str.cps_append,Array.toList_append]
theorem tl_ofString (s:String):tl (Str.ofString s)=s.toList.map Char.toNat:=PyProof.Rows.signs_ofString s
noncomputable def joinL (S:List Nat):List (List Nat)→List Nat
 | []=>[]
 | [p]=>p
 | p::q::r=>p++(S++joinL S (q::r))
theorem tl_join (y:Str):∀parts:List Str,tl (Str.join y parts)=joinL (tl y) (parts.map tl)
 | []=>rfl
 | [_]=>rfl
 | x::z::r=>by
  show tl (x++y++Str.join y (z::r))=tl x++(tl y++joinL (tl y) ((z::r).map tl))
  rw [tl_append,tl_append,tl_join y (z::r),List.append_assoc]
theorem join_eq (y:Str) (parts:List Str):Txt.join y parts=Str.join y parts:=glued_eq_join y parts
noncomputable def zsQ (n:Nat):List Nat:=(Nat.toDigits 10 n).map Char.toNat
theorem tl_num (n:Nat):tl (Str.ofString (toString ((n:Nat):Int)))=zsQ n:=PySem.W.KIN.signs_num n
end TL
end
namespace L2
open PySem PySem.Spec PyProof.Rows
theorem JY:∀{ys:List Str} {us:List Value},yU (ys.map V.str) us→StrsAre us ys
 | [],_,.nil=>.nil
 | y::ys,_,.cons r t=>by
  obtain ⟨k,rfl⟩:=r
  exact .cons y k (JY t)
section
variable {X:Cx} {pins:List (Addr × Obj)} {σ:St} {H:Hp} {s:Shared} {Q:VK}
end
section
variable {X:Cx}
theorem zpM:MtR X "str.join" (fun x xs H Q=>∃a p,∃ys:List Str,x=.str a∧xs=[.ref p]∧(SqL X.K H p (ys.map V.str)∨SqT X.K H p (ys.map V.str))∧
  (ys.map (·.length)).sum + ys.length * a.length≤16777216∧Q (.str (Txt.join a ys)) H):=by
 intro pins s σ H x xs v us Q I rx rs h
 obtain ⟨a,p,ys,rfl,rfl,hp,hz,h⟩:=h
 obtain ⟨t,rfl⟩:=rx
 cases rs with
 | cons r1 rs=>
  cases rs
  cases r1
  rcases hp with hp | hp
  ·obtain ⟨its,r,⟨o,n,ho,hc,_,hd⟩,_⟩:=I.list hp
   exact PyProof.Rows.join_list (items:=its.toArray) ⟨o,ho,hc,n,hd⟩ (by rw [List.toList_toArray];exact JY r) hz fun t' k=>⟨.str _,H,I.tok k,⟨t',rfl⟩,h⟩
  ·obtain ⟨its,r,ht,_⟩:=I.tuple hp
   exact PyProof.Rows.join_tuple (items:=its.toArray) ht (by rw [List.toList_toArray];exact JY r) hz fun t' k=>⟨.str _,H,I.tok k,⟨t',rfl⟩,h⟩
end
section
variable {X:Cx} {o e:Expr} {to te:TE}
noncomputable def tM1 (r:V→List V→Hp→VK→Prop) (to te:TE):TE:=fun σ H Q=>to σ H fun x H1=>(∃a,x=.str a)∧te σ H1 fun y H2=>r x [y] H2 Q
theorem zrY {id:String} {name:Str} {apos pos:Pos} {r:V→List V→Hp→VK→Prop} (slot:Slot "str" name id) (ty:typeOf (.builtin id)=pure (.type "method_descriptor")) (rule:MtR X id r) (ho:PE X o to) (he:PE X e te)
  (hs:starEach [e] X.env=[(false,eval e X.env)]:=by rfl) (hbase:attributeBase o name X.env (eval o X.env)=eval o X.env:=by rfl) (hline:(apos.endLine == pos.line)=true:=by rfl):
  PE X (.Call (.Attribute o name apos) [e] [] pos) (tM1 r to te):=by
 intro pins s σ H Q I h
 refine PySem.Call_method1 hbase hs hline (thn (ho pins s σ H _ I h) fun v s1 ⟨x,H1,I1,r1,q1⟩=>?_)
 obtain ⟨⟨a,rfl⟩,q1⟩:=q1
 obtain ⟨t,rfl⟩:=_root_.id r1
 refine ⟨"str",_,F.plainAttrs_str,slot,ty,typeIs_str _ _ _,(fun _ e=>nomatch e),Calls.callWith_builtin rfl (Calls.evalArgs_plain (Calls.spliced_cons ?_))⟩
 exact thn (he pins s1 σ H1 _ I1 q1) fun u s2 ⟨y,H2,I2,r2,q2⟩=>Calls.spliced_nil (rule pins s2 σ H2 _ [y] _ [u] Q I2 r1 (.cons r2 .nil) q2)
theorem zpF {apos pos:Pos} (ho:PE X o to) (he:PE X e te) (hs:starEach [e] X.env=[(false,eval e X.env)]:=by rfl) (hbase:attributeBase o "join" X.env (eval o X.env)=eval o X.env:=by rfl) (hline:(apos.endLine == pos.line)=true:=by rfl):
  PE X (.Call (.Attribute o "join" apos) [e] [] pos) (tM1 (fun x xs H Q=>∃a p,∃ys:List Str,x=.str a∧xs=[.ref p]∧(SqL X.K H p (ys.map V.str)∨SqT X.K H p (ys.map V.str))∧
   (ys.map (·.length)).sum + ys.length * a.length≤16777216∧Q (.str (Txt.join a ys)) H) to te):=
 zrY F.slot_str_join F.type_str_join zpM ho he hs hbase hline
end
end L2
namespace L2
open PySem PySem.Spec PyProof.Rows
section
variable {X:Cx}
end
end L2
namespace Att
open PySem PySem.W PySem.Calls PyProof.Rows
theorem ints_of_wellAll {P:Params} {h:Heap}:∀(ns:List Int) (vs:List Value),WellAll P h vs (ns.map WData.int)→IntsAre vs ns:=by
 intro ns
 induction ns with
 | nil=>
  intro vs w
  rw [List.map_nil] at w
  cases w
  exact .nil
 | cons n ns ih=>
  intro vs w
  rw [List.map_cons] at w
  cases w with
  | cons a b=>
   cases a
   exact .cons _ _ (ih _ b)
section
variable {prog:Program} {w:World} {A:Around} {E:Value→Shared→Prop} {s:Shared} {K:Frag}
end
end Att
namespace L2
open PySem PySem.Spec PyProof.Rows
theorem zil:∀{vs:List Value} {ns:List Int},IntsAre vs ns→yU (ns.map V.int) vs
 | _,_,.nil=>.nil
 | _,_,.cons n t h=>.cons ⟨t,rfl⟩ (zil h)
noncomputable def zsC (H:Hp):Prop:=∀b,H b=none∨∃o xs,H b=some (.frz o (.lst xs))
end L2
namespace L2
open PySem PySem.Spec PyProof.Rows
noncomputable abbrev KOf {K:PySem.W.Frag} {h:Heap} (_:K.In h):PySem.W.Frag:=K
end L2
namespace L2
open PySem PySem.Spec PyProof.Rows
noncomputable def y9 (s:Stmt) (j:Nat):Stmt:=match s with
 | .ClassDef _ _ _ body _ _ _ _ _ _ _=>body.getD j (.Pass ⟨0,0,0,0⟩)
 | _=>.Pass ⟨0,0,0,0⟩
noncomputable def zaI (s:Stmt):Arguments:=match s with
 | .FunctionDef _ a _ _ _ _ _ _ _ _=>a
 | _=>{posonlyargs:=[],args:=[],vararg:=none,kwonlyargs:=[],kw_defaults:=[],kwarg:=none,defaults:=[]}
noncomputable def Q7 (s:Stmt):List Stmt:=match s with
 | .FunctionDef _ _ b _ _ _ _ _ _ _=>b
 | _=>[]
noncomputable def zk (s:Stmt):Scope:=match s with
 | .FunctionDef _ _ _ _ _ _ sc _ _ _=>sc
 | _=>{kind:=.function,names:=[],isGenerator:=false,isCoroutine:=false}
noncomputable abbrev CX0:CXT:=fun _ _ _ _ _ _=>False
noncomputable abbrev E0:XK:=fun _ _ _=>False
theorem zm2 {X:Cx}:zdR CX0 X E0:=fun _ _ _ _ _ _ _ h=>h.elim
structure Fun (K:PySem.W.Frag) (x qual:Str) (st:Stmt) (f:Addr) (fd:FuncData):Prop where
 ex:∃(oc:Value) (od:Option Addr) (kV doc pm:Value) (an:Option Addr) (cdv ct:Value) (osl:Array (Option Value)),
  fd=PySem.W.fnOf x qual (zaI st) (Q7 st) (zk st) .none kV doc pm an cdv ct∧K.lookup f=some ⟨oc,od,.func fd,osl⟩∧PySem.W.codeIn K cdv qual=true
 kp:PySem.W.keepIn K (.ref f)=true
section
variable {P:Program} {w:World} {K:PySem.W.Frag} {mg:Str→Option Value} {base:Heap}
theorem Fun.ok {x qual:Str} {st:Stmt} {f:Addr} {fd:FuncData} {N ps:List Str} {k:Nat} {sp:Sp} (F:Fun K x qual st f fd) (S:zn N ps (zk st)) (len:∀vs H Q E,sp vs H Q E→vs.length=ps.length)
  (hbody:∀(cdv:Value) (A:Around) (outer:List Env) (s:Shared) (H:Hp) (vs:List V) (Q:VK) (E:XK),za9 k (A.deeper (envOfC qual (zk st) s.heap.objs.size f cdv))→sp vs H Q E→
   ∃t,PSs (zp5 CX0 P w K mg base N qual (zk st) f cdv A outer s H E).nox (Q7 st) t∧t {nx:=fun _ H'=>Q .non H',rt:=Q} (start N vs) H):zmp P w K mg base CX0 (k + 1) f fd ps sp:=by
 obtain ⟨oc,od,kV,doc,pm,an,cdv,ct,osl,rfl,lk,hcd⟩:=F.ex
 refine zr8 lk hcd S len fun A outer s H vs Q E hr hsp=>?_
 obtain ⟨t,h,q⟩:=hbody cdv A outer s H vs Q E hr hsp
 exact ⟨t,h.nox,q⟩
theorem Fun.binds {x qual:Str} {st:Stmt} {f:Addr} {fd:FuncData} {ps:List Str} (F:Fun K x qual st f fd)
  (h:∀(kV doc pm:Value) (an:Option Addr) (cdv ct:Value) (us:List Value),us.length=ps.length→bindArgs (PySem.W.fnOf x qual (zaI st) (Q7 st) (zk st) .none kV doc pm an cdv ct) ⟨us,[]⟩=pure (ps.zip us)):zdA K fd ps []:=by
 obtain ⟨oc,od,kV,doc,pm,an,cdv,ct,osl,rfl,lk,hcd⟩:=F.ex
 exact .all (h kV doc pm an cdv ct)
theorem znu {x qual:Str} {st:Stmt} {f:Addr} {oc:Value} {od an:Option Addr} {osl:Array (Option Value)} {kV doc pm cdv ct:Value} (l:K.lookup f=some ⟨oc,od,.func (PySem.W.fnOf x qual (zaI st) (Q7 st) (zk st) .none kV doc pm an cdv ct),osl⟩)
  (c:PySem.W.codeIn K cdv qual=true) (k:PySem.W.keepIn K (.ref f)=true):Fun K x qual st f (PySem.W.fnOf x qual (zaI st) (Q7 st) (zk st) .none kV doc pm an cdv ct):=⟨⟨oc,od,kV,doc,pm,an,cdv,ct,osl,rfl,l,c⟩,k⟩
end
section
variable {X:Cx}
theorem pv (i:Nat) {x:Str} {pos:Pos} (hN:X.N[i]?=some x:=by rfl) (hv:Vis X.env.scope x:=by first | exact Or.inl rfl | exact Or.inr (Or.inl rfl) | exact Or.inr (Or.inr rfl)) (hd:(x == ("__debug__":Str))=false:=by decide)
  (hcd:(x == ("__classdict__":Str))=false:=by decide):PE X (.Name x pos) (zmv i):=zqP hN hv hd hcd
end
theorem zkp {A B:Prop} (h:B):if false=true then A else B:=by
 rw [if_neg Bool.false_ne_true]
 exact h
theorem zdL {A B:Prop} (h:A):if true=true then A else B:=by
 rw [if_pos rfl]
 exact h
theorem zR {c A B:Prop} [Decidable c] (h1:c→A) (h2:¬ c→B):if c then A else B:=by
 by_cases h:c
 ·rw [if_pos h]
  exact h1 h
 ·rw [if_neg h]
  exact h2 h
noncomputable def zC (H H':Hp):Prop:=∀b o,H b=some o→H' b=some o
theorem zC.refl (H:Hp):zC H H:=fun _ _ h=>h
theorem zC.trans {H H1 H2:Hp} (a:zC H H1) (b:zC H1 H2):zC H H2:=fun c o h=>b c o (a c o h)
theorem zC.free {H H':Hp} (e:zC H H') {l:Addr} (h:H' l=Option.none):H l=Option.none:=by
 cases q:H l with
 | none=>rfl
 | some o=>
  rw [e l o q] at h
  cases h
theorem zC.seq {K:PySem.W.Frag} {H H':Hp} {a:Addr} {xs:List V} (e:zC H H') (h:SqL K H a xs):SqL K H' a xs:=by
 rcases h with (h | ⟨o,h⟩) | h
 ·exact .inl (.inl (e _ _ h))
 ·exact .inl (.inr ⟨o,e _ _ h⟩)
 ·exact .inr h
section
variable {κ:Type} [DecidableEq κ]
end
end L2
namespace L2
open PySem PySem.Spec PyProof.Rows
noncomputable def ZM:Expr→Bool
 | .Starred _ _=>false
 | _=>true
theorem zcI {e:Expr} {es:List Expr} {env:Env} (h:ZM e=true):starEach (e::es) env=(false,eval e env)::starEach es env:=by
 rw [starEach]
 intro e' p q
 subst q
 cases h
theorem zis {pos:Pos} {env:Env}:∀{es:List Expr},es.all ZM=true→(backTo pos (starEach es env)).any (·.1)=false
 | [],_=>by rw [starEach];rfl
 | e::es,h=>by
  rw [List.all_cons,Bool.and_eq_true] at h
  rw [zcI h.1]
  have ih:=zis (pos:=pos) (env:=env) h.2
  unfold backTo at ih ⊢
  simp only [List.map_cons,List.any_cons] at ih ⊢
  rw [ih]
  rfl
theorem zqx {pos:Pos} {env:Env} {es:List Expr} (h:es.all ZM=true):(backTo pos (starEach es env)).all (fun x=>!x.1)=true:=by
 have:=zis (pos:=pos) (env:=env) h
 rw [List.all_eq_true]
 intro x hx
 rw [List.any_eq_false] at this
 simpa using this x hx
theorem zl {X:Cx} {e:Expr} {es:List Expr} {te:TE} {t:TA} (ha:PE X e te) (hr:PA X es t) (hn:ZM e=true:=by rfl):PA X (e::es) (zgJ te t):=zpI ha hr (zcI hn)
theorem yo {X:Cx} {x:Str} {id:String} {r:List V→Hp→VK→Prop} {e:Expr} {es:List Expr} {t:TA} {p pos:Pos} (hc:JW X (.builtin id) r) (hg:Gl X x) (hm:X.mg x=none) (hv:bootBuiltins x=some (.builtin id)) (ha:PA X (e::es) t) (hs:(e::es).all ZM=true:=by rfl)
  (hn:x≠"__name__":=by decide) (hdb:(x == ("__debug__":Str))=false:=by decide):PE X (.Call (.Name x p) (e::es) [] pos) (tCB r t):=by
 rw [List.all_cons,Bool.and_eq_true] at hs
 exact zon hc hg hm hv ha hn hdb (zcI hs.1) (zis hs.2)
theorem zlH {X:Cx} {x:Str} {T:String} {r:List V→Hp→VK→Prop} {e:Expr} {es:List Expr} {t:TA} {p pos:Pos} (hc:JW X (.type T) r) (hg:Gl X x) (hm:X.mg x=none) (hv:bootBuiltins x=some (.type T)) (ha:PA X (e::es) t) (hs:(e::es).all ZM=true:=by rfl)
  (hn:x≠"__name__":=by decide) (hdb:(x == ("__debug__":Str))=false:=by decide):PE X (.Call (.Name x p) (e::es) [] pos) (tCB r t):=by
 rw [List.all_cons,Bool.and_eq_true] at hs
 exact zm1 hc hg hm hv ha hn hdb (zcI hs.1) (zis hs.2)
theorem Zb {X:Cx} {T:String} {name:Str} {id:String} {r:V→List V→Hp→VK→Prop} {o e:Expr} {es:List Expr} {to:TE} {t:TA} {apos cpos:Pos} (pa:PlainAttrs T) (slot:Slot T name id) (hty:typeOf (.builtin id)=pure (.type "method_descriptor")) (hm:MtR X id r) (ho:PE X o to) (ha:PA X (e::es) t)
  (hs:(e::es).all ZM=true:=by rfl) (hl:(e::es).length < 30:=by decide) (hbase:attributeBase o name X.env (eval o X.env)=eval o X.env:=by rfl) (hline:(apos.endLine == cpos.line)=true:=by rfl):
  PE X (.Call (.Attribute o name apos) (e::es) [] cpos) (tBM X.K T r to t):=by
 have hs':=hs
 rw [List.all_cons,Bool.and_eq_true] at hs'
 refine zr0 pa slot hty hm ho ha hbase ?_ hline (zcI hs'.1) (zis hs'.2)
 rw [zqx hs]
 have e1:(backToKw cpos (keywordEach [] X.env)).all (fun x=>x.1.isSome)=true:=by rw [keywordEach];rfl
 rw [e1]
 show decide _=true
 exact decide_eq_true hl
noncomputable def Z8 (mg:Str→Option Value) (x:Str) (v:V):Prop:=∃u,mg x=some u∧Yz v u
theorem zN {X:Cx} {x:Str} {v:V} {pos:Pos} (h:Z8 X.mg x v) (hg:Gl X x) (hd:(x == ("__debug__":Str))=false:=by decide):PE X (.Name x pos) (tC v):=by
 obtain ⟨u,hm,r⟩:=h
 exact zpG hg hm r hd
noncomputable def tFn (sp:Sp) (t:TA):TE:=fun σ H Q=>t σ H fun vs H1=>sp vs H1 Q E0
structure yG (P:Program) (w:World) (K:PySem.W.Frag) (mg:Str→Option Value) (base:Heap) (k:Nat) (x:Str) (ps:List Str) (sp:Sp):Prop where
 ex:∃f fd,zmp P w K mg base CX0 k f fd ps sp∧mg x=some (.ref f)∧PySem.W.keepIn K (.ref f)=true∧zdA K fd ps []
theorem zq {X:Cx} {k:Nat} {x:Str} {ps:List Str} {sp:Sp} {e:Expr} {es:List Expr} {t:TA} {p pos:Pos} (G:yG X.prog X.w X.K X.mg X.base k x ps sp) (hr:za9 k X.A) (hg:Gl X x) (ha:PA X (e::es) t)
  (hs:(e::es).all ZM=true:=by rfl) (hdb:(x == ("__debug__":Str))=false:=by decide):
  PE X (.Call (.Name x p) (e::es) [] pos) (tFn sp t):=by
 obtain ⟨f,fd,F,hm,hk,hb⟩:=G.ex
 rw [List.all_cons,Bool.and_eq_true] at hs
 intro pins s σ H Q I h
 refine zpH F hr hg hm hk hb .nil zm2 ha hdb (zcI hs.1) (zis hs.2) pins s σ H Q I ?_
 show t σ H fun vs H1=>sp (vs++[]) H1 Q E0
 have e2:(fun (vs:List V) (H1:Hp)=>sp (vs++[]) H1 Q E0)=fun vs H1=>sp vs H1 Q E0:=by funext vs H1;rw [List.append_nil]
 rw [e2]
 exact h
theorem zm0 {X:Cx} {k:Nat} {x:Str} {sp:Sp} {p pos:Pos} (G:yG X.prog X.w X.K X.mg X.base k x [] sp) (hr:za9 k X.A) (hg:Gl X x) (hdb:(x == ("__debug__":Str))=false:=by decide):
  PE X (.Call (.Name x p) [] [] pos) (fun _ H Q=>sp [] H Q E0):=by
 obtain ⟨f,fd,F,hm,hk,hb⟩:=G.ex
 exact zoo F hr hg hm hk hb .nil zm2 hdb
structure JV (P:Program) (w:World) (K:PySem.W.Frag) (mg:Str→Option Value) (base:Heap) (k:Nat) (x:Str) (C:Addr) (ps:List Str) (sp:Sp):Prop where
 ex:∃f fd,Mk K C f∧zmp P w K mg base CX0 k f fd ps sp∧mg x=some (.ref C)∧zdA K fd ps []
noncomputable def tMk (C:Addr) (sp:Sp) (t:TA):TE:=fun σ H Q=>t σ H fun vs H1=>∀x dx,H1 x=none→H1 dx=none→dx≠x→
 sp (.ref x::vs) (upd (upd H1 dx (.own x)) x (.ins C dx [])) (fun v H2=>v=.non∧Q (.ref x) H2) E0
theorem YY {X:Cx} {k:Nat} {x:Str} {C:Addr} {ps:List Str} {sp:Sp} {e:Expr} {es:List Expr} {t:TA} {p pos:Pos} (G:JV X.prog X.w X.K X.mg X.base k x C ps sp) (hr:za9 (k + 1) X.A) (hg:Gl X x) (ha:PA X (e::es) t)
  (hs:(e::es).all ZM=true:=by rfl) (hdb:(x == ("__debug__":Str))=false:=by decide):
  PE X (.Call (.Name x p) (e::es) [] pos) (tMk C sp t):=by
 obtain ⟨f,fd,M,F,hm,hb⟩:=G.ex
 rw [List.all_cons,Bool.and_eq_true] at hs
 intro pins s σ H Q I h
 refine zpE M F hr hg hm hb .nil zm2 ha hdb (zcI hs.1) (zis hs.2) pins s σ H Q I ?_
 show t σ H fun vs H1=>∀x dx,H1 x=none→H1 dx=none→dx≠x→sp (.ref x::(vs++[])) (upd (upd H1 dx (.own x)) x (.ins C dx [])) (fun v H2=>v=.non∧Q (.ref x) H2) E0
 have e2:(fun (vs:List V) (H1:Hp)=>∀x dx,H1 x=none→H1 dx=none→dx≠x→sp (.ref x::(vs++[])) (upd (upd H1 dx (.own x)) x (.ins C dx [])) (fun v H2=>v=.non∧Q (.ref x) H2) E0)=
   fun vs H1=>∀x dx,H1 x=none→H1 dx=none→dx≠x→sp (.ref x::vs) (upd (upd H1 dx (.own x)) x (.ins C dx [])) (fun v H2=>v=.non∧Q (.ref x) H2) E0:=by funext vs H1;rw [List.append_nil]
 rw [e2]
 exact h
theorem zqS {X:Cx} {k:Nat} {x:Str} {C:Addr} {ps:List Str} {sp:Sp} {p pos:Pos} (G:JV X.prog X.w X.K X.mg X.base k x C ps sp) (hr:za9 (k + 1) X.A) (hg:Gl X x)
  (hdb:(x == ("__debug__":Str))=false:=by decide):
  PE X (.Call (.Name x p) [] [] pos) (fun _ H Q=>∀x dx,H x=none→H dx=none→dx≠x→sp [.ref x] (upd (upd H dx (.own x)) x (.ins C dx [])) (fun v H2=>v=.non∧Q (.ref x) H2) E0):=by
 obtain ⟨f,fd,M,F,hm,hb⟩:=G.ex
 exact zol M F hr hg hm hb .nil zm2 hdb
structure zml (P:Program) (w:World) (K:PySem.W.Frag) (mg:Str→Option Value) (base:Heap) (k:Nat) (x:Str) (C:Addr) (ps:List Str) (sp:Sp):Prop where
 cl:Cls K C
 ex:∃f fd,zrH K C x f∧zmp P w K mg base CX0 k f fd ps sp∧zdA K fd ps []
noncomputable def tMt (C:Addr) (m:Str) (sp:Sp) (ta:TE) (t:TA):TE:=fun σ H Q=>ta σ H fun x H1=>∃a dx fs,x=.ref a∧H1 a=some (.ins C dx fs)∧fs.lookup m=none∧t σ H1 fun vs H2=>sp (x::vs) H2 Q E0
theorem zlF {X:Cx} {k:Nat} {m:Str} {C:Addr} {ps:List Str} {sp:Sp} {o e:Expr} {es:List Expr} {ta:TE} {t:TA} {apos pos:Pos} {pl:Sem Bool} (he:PE X o ta) (G:zml X.prog X.w X.K X.mg X.base k m C ps sp) (hr:za9 k X.A) (ha:PA X (e::es) t)
  (hs:(e::es).all ZM=true:=by rfl)
  (ht:eval (.Call (.Attribute o m apos) (e::es) [] pos) X.env=(do
   let ov ← eval o X.env
   standAt apos.atName
   let (f,first) ← holding [ov] (getMethod ov m pl)
   callWith pos f first (backTo pos (starEach (e::es) X.env)) (backToKw pos (keywordEach [] X.env))):=by rfl):
  PE X (.Call (.Attribute o m apos) (e::es) [] pos) (tMt C m sp ta t):=by
 obtain ⟨f,fd,hm,F,hb⟩:=G.ex
 rw [List.all_cons,Bool.and_eq_true] at hs
 intro pins s σ H Q I h
 refine zpD he G.cl hm F hr hb .nil zm2 ha (zcI hs.1) (zis hs.2) ht pins s σ H Q I ?_
 show ta σ H fun x H1=>∃a dx fs,x=.ref a∧H1 a=some (.ins C dx fs)∧fs.lookup m=none∧t σ H1 fun vs H2=>sp (x::(vs++[])) H2 Q E0
 have e2:(fun (x:V) (H1:Hp)=>∃a dx fs,x=.ref a∧H1 a=some (.ins C dx fs)∧fs.lookup m=none∧t σ H1 fun vs H2=>sp (x::(vs++[])) H2 Q E0)=
   fun x H1=>∃a dx fs,x=.ref a∧H1 a=some (.ins C dx fs)∧fs.lookup m=none∧t σ H1 fun vs H2=>sp (x::vs) H2 Q E0:=by
  funext x H1
  have e3:(fun (vs:List V) (H2:Hp)=>sp (x::(vs++[])) H2 Q E0)=fun vs H2=>sp (x::vs) H2 Q E0:=by funext vs H2;rw [List.append_nil]
  rw [e3]
 rw [e2]
 exact h
noncomputable def zsf (H:Hp):Prop:=∀a xs,H a=some (.lst xs)→xs.length≤sizeLine
theorem zhr {X:Cx} {ss:List Stmt} {t:TS} (h:PSs X ss t):PSs X ss (fun D σ H=>zsf H→t D σ H):=by
 intro pins s σ H D I q
 exact h pins s σ H D I (q fun a xs e=>(I.hok a _ e).1)
section
variable {P:Program} {w:World} {K:PySem.W.Frag} {mg:Str→Option Value} {base:Heap}
structure Def (K:PySem.W.Frag) (mg:Str→Option Value) (x:Str) (st:Stmt):Prop where
 ex:∃f fd,Fun K x x st f fd∧mg x=some (.ref f)
structure zih (K:PySem.W.Frag) (mg:Str→Option Value) (x qual:Str) (C:Addr) (st:Stmt):Prop where
 ex:∃f fd,Fun K "__init__" qual st f fd∧Mk K C f∧mg x=some (.ref C)
structure zqi (K:PySem.W.Frag) (x qual:Str) (C:Addr) (st:Stmt):Prop where
 cl:Cls K C
 ex:∃f fd,Fun K x qual st f fd∧zrH K C x f
noncomputable abbrev zo (x qual:Str) (st:Stmt) (ps:List Str):Prop:=∀(kV doc pm:Value) (an:Option Addr) (cdv ct:Value) (us:List Value),us.length=ps.length→bindArgs (PySem.W.fnOf x qual (zaI st) (Q7 st) (zk st) .none kV doc pm an cdv ct) ⟨us,[]⟩=pure (ps.zip us)
noncomputable abbrev znT (P:Program) (w:World) (K:PySem.W.Frag) (mg:Str→Option Value) (base:Heap) (N:List Str) (qual:Str) (st:Stmt) (k:Nat) (sp:Sp):Prop:=
 ∀(f:Addr) (cdv:Value) (A:Around) (outer:List Env) (s:Shared) (H:Hp) (vs:List V) (Q:VK) (E:XK),za9 k (A.deeper (envOfC qual (zk st) s.heap.objs.size f cdv))→sp vs H Q E→
   ∃t,PSs (zp5 CX0 P w K mg base N qual (zk st) f cdv A outer s H E).nox (Q7 st) t∧(zsf H→t {nx:=fun _ H'=>Q .non H',rt:=Q} (start N vs) H)
theorem Def.ok {x:Str} {st:Stmt} {N ps:List Str} {k:Nat} {sp:Sp} (d:Def K mg x st) (S:zn N ps (zk st)) (hb:zo x x st ps) (len:∀vs H Q E,sp vs H Q E→vs.length=ps.length) (h:znT P w K mg base N x st k sp):
  yG P w K mg base (k + 1) x ps sp:=by
 obtain ⟨f,fd,F,hm⟩:=d.ex
 exact ⟨f,fd,F.ok S len (fun cdv A outer s H vs Q E hr hs=>let ⟨t,h1,h2⟩:=h f cdv A outer s H vs Q E hr hs;⟨_,zhr h1,h2⟩),hm,F.kp,F.binds hb⟩
theorem zih.ok {x qual:Str} {C:Addr} {st:Stmt} {N ps:List Str} {k:Nat} {sp:Sp} (d:zih K mg x qual C st) (S:zn N ps (zk st)) (hb:zo "__init__" qual st ps) (len:∀vs H Q E,sp vs H Q E→vs.length=ps.length) (h:znT P w K mg base N qual st k sp):
  JV P w K mg base (k + 1) x C ps sp:=by
 obtain ⟨f,fd,F,M,hm⟩:=d.ex
 exact ⟨f,fd,M,F.ok S len (fun cdv A outer s H vs Q E hr hs=>let ⟨t,h1,h2⟩:=h f cdv A outer s H vs Q E hr hs;⟨_,zhr h1,h2⟩),hm,F.binds hb⟩
theorem zqi.ok {x qual:Str} {C:Addr} {st:Stmt} {N ps:List Str} {k:Nat} {sp:Sp} (d:zqi K x qual C st) (S:zn N ps (zk st)) (hb:zo x qual st ps) (len:∀vs H Q E,sp vs H Q E→vs.length=ps.length) (h:znT P w K mg base N qual st k sp):
  zml P w K mg base (k + 1) x C ps sp:=by
 obtain ⟨f,fd,F,M⟩:=d.ex
 exact ⟨d.cl,f,fd,M,F.ok S len (fun cdv A outer s H vs Q E hr hs=>let ⟨t,h1,h2⟩:=h f cdv A outer s H vs Q E hr hs;⟨_,zhr h1,h2⟩),F.binds hb⟩
end
noncomputable def rv (b:List Nat):List V:=b.map fun n:Nat=>V.int (n:Int)
theorem zbx (b:List Nat):rv b=(b.map fun n:Nat=>(n:Int)).map V.int:=by unfold rv;rw [List.map_map];rfl
theorem zi (b:List Nat):(rv b).length=b.length:=List.length_map _
theorem zb7 (a b:List Nat):rv (a++b)=rv a++rv b:=List.map_append
theorem zmL (b:List Nat) (i:Nat):(rv b)[i]?=b[i]?.map fun n:Nat=>V.int (n:Int):=by unfold rv;rw [List.getElem?_map]
theorem zqD {a b:List Nat} (h:rv a=rv b):a=b:=by
 have:∀{a b:List Nat},rv a=rv b→a=b:=by
  intro a
  induction a with
  | nil=>intro b h;cases b with
   | nil=>rfl
   | cons _ _=>cases h
  | cons x a ih=>intro b h;cases b with
   | nil=>cases h
   | cons y b=>
    injection h with h1 h2
    injection h1 with h1
    rw [ih h2]
    congr 1
    exact Int.ofNat.inj h1
 exact this h
noncomputable abbrev zD (H:Hp) (a:Addr) (b:List Nat):Prop:=H a=some (.lst (rv b))
section
variable {X:Cx}
noncomputable def zmT (K:PySem.W.Frag):R2:=fun x y H Q=>∃a b as bs,x=.ref a∧y=.ref b∧SqL K H a (rv as)∧SqL K H b (rv bs)∧Q (.bl (decide (as=bs))) H
noncomputable def zpa (K:PySem.W.Frag):R2:=fun x y H Q=>∃a b as bs,x=.ref a∧y=.ref b∧SqL K H a (rv as)∧SqL K H b (rv bs)∧Q (.bl (!decide (as=bs))) H
theorem zfl (as bs:List Nat):decide ((as.map fun n:Nat=>(n:Int))=bs.map fun n:Nat=>(n:Int))=decide (as=bs):=by
 rw [decide_eq_decide]
 constructor
 ·intro h
  refine zqD ?_
  rw [zbx,zbx,h]
 ·intro h;rw [h]
theorem zoq (hu:X.A.units + 64 < cLine):OpR X (compareOp .Eq) (zmT X.K):=by
 intro pins s σ H x y v u Q I rx ry h
 obtain ⟨a,b,as,bs,rfl,rfl,ha,hb,q⟩:=h
 cases rx;cases ry
 rw [zbx] at ha hb
 obtain ⟨i1,r1,p1,_⟩:=I.list ha
 obtain ⟨i2,r2,p2,_⟩:=I.list hb
 refine PySem.W.ke_eq_ints p1.isList p2.isList r1.ints r2.ints hu ⟨.bl _,H,I,rfl,?_⟩
 rw [zfl]
 exact q
theorem zop (hu:X.A.units + 64 < cLine):OpR X (compareOp .NotEq) (zpa X.K):=by
 intro pins s σ H x y v u Q I rx ry h
 obtain ⟨a,b,as,bs,rfl,rfl,ha,hb,q⟩:=h
 cases rx;cases ry
 rw [zbx] at ha hb
 obtain ⟨i1,r1,p1,_⟩:=I.list ha
 obtain ⟨i2,r2,p2,_⟩:=I.list hb
 refine PySem.W.ke_ne_ints p1.isList p2.isList r1.ints r2.ints hu ⟨.bl _,H,I,rfl,?_⟩
 rw [zfl]
 exact q
noncomputable def zpc (K:PySem.W.Frag):R2:=fun x y H Q=>∃a b xs,x=.ref a∧y=.ref b∧SqL K H a xs∧SqL K H b []∧Q (.bl (decide (xs=[]))) H
theorem zor (hu:X.A.units < cLine):OpR X (compareOp .Eq) (zpc X.K):=by
 intro pins s σ H x y v u Q I rx ry h
 obtain ⟨a,b,xs,rfl,rfl,ha,hb,q⟩:=h
 cases rx;cases ry
 obtain ⟨i1,r1,p1,_⟩:=I.list ha
 obtain ⟨i2,r2,p2,_⟩:=I.list hb
 cases r2
 cases xs with
 | nil=>
  cases r1
  refine SeqAt.eq_listAt (e:=fun _=>true) p1.isList p2.isList rfl hu (fun j h1 _=>absurd h1 (by simp)) ⟨.bl true,H,I,rfl,?_⟩
  exact q
 | cons x xs=>
  cases r1
  refine SeqAt.eq_list_lengthsAt p1.isList p2.isList (by simp) hu ⟨.bl false,H,I,rfl,?_⟩
  exact q
end
theorem zpk:bootBuiltins "ord"=some (.builtin "ord"):=by decide +kernel
theorem zfG:bootBuiltins "all"=some (.builtin "all"):=by decide +kernel
theorem zpl:bootBuiltins "any"=some (.builtin "any"):=by decide +kernel
theorem zrp:bootBuiltins "sum"=some (.builtin "sum"):=by decide +kernel
theorem zrq:bootBuiltins "min"=some (.builtin "min"):=by decide +kernel
theorem zjL:bootBuiltins "str"=some (.type "str"):=by decide +kernel
theorem znP:bootBuiltins "list"=some (.type "list"):=by decide +kernel
end L2
namespace L2
open PySem PySem.Spec PyProof.Rows
section
variable {X:Cx}
noncomputable def zfm (K:PySem.W.Frag) (tl:TE):TI:=fun σ H R=>tl σ H fun x H1=>∃a xs,x=.ref a∧SqL K H1 a xs∧(xs.length≤sizeLine→R (Itl K a) H1)
theorem zod {tg l:Expr} {tl:TE} (hl:PE X l tl):PI X tg l (zfm X.K tl):=by
 intro pins s σ H R I h
 refine thn (hl pins s σ H _ I h) fun v s1 ⟨x,H1,I1,r1,q1⟩=>?_
 obtain ⟨a,xs,e,hq,q⟩:=q1
 subst e
 cases r1
 obtain ⟨its,rv,p,hz⟩:=I1.list hq
 refine wpAny_pyIter_list p.isList ?_
 refine ⟨s1.heap.objs.size,[s1.heap.objs.size],_,_,H1,rfl,I1.kept (t':=s1.toks) fun b o e=>Heap.get?_push_of_some _ e,zmu a _,⟨_,Heap.get?_push_size _ rfl,rfl,rfl⟩,fun b hb=>?_,q hz⟩
 have e:b=s1.heap.objs.size:=by simpa using hb
 subst e
 exact I1.fpOk (Nat.le_refl _) (I1.hok.fresh (Nat.le_refl _))
theorem zrZ {e:Expr} {t:TE} (h:PE X e t):PE X e (fun σ H Q=>t σ H fun v H1=>zsf H1→Q v H1):=by
 intro pins s σ H Q I q
 refine thn (h pins s σ H _ I q) fun v s1 ⟨x,H1,I1,r1,q1⟩=>⟨x,H1,I1,r1,q1 fun a xs e=>(I1.hok a _ e).1⟩
end
structure zJ (G H G' H':Hp):Prop where
 gg:zC G G'
 hh:zC H H'
 gh:zC G' H'
 sep:∀b,G b=Option.none→H b≠Option.none→G' b=Option.none
theorem zJ.refl {G H:Hp} (s:zC G H):zJ G H G H:=⟨zC.refl _,zC.refl _,s,fun _ h _=>h⟩
theorem zC.some' {H H':Hp} (s:zC H H') {b:Addr} (h:H b≠Option.none):H' b≠Option.none:=by
 cases e:H b with
 | none=>exact absurd e h
 | some o=>rw [s b o e];simp
theorem zJ.trans {G H G1 H1 G2 H2:Hp} (a:zJ G H G1 H1) (b:zJ G1 H1 G2 H2):zJ G H G2 H2:=
 ⟨a.gg.trans b.gg,a.hh.trans b.hh,b.gh,fun c h1 h2=>b.sep c (a.sep c h1 h2) (a.hh.some' h2)⟩
theorem zd {H:Hp} {p:Addr} {o:HO} (h:H p=Option.none):zC H (upd H p o):=fun b u e=>by
 rw [zv (zy e h)];exact e
theorem zJ.more {G H H':Hp} (s:zC G H) (h:zC H H'):zJ G H G H':=⟨zC.refl _,h,s.trans h,fun _ h _=>h⟩
theorem zJ.keep {G H H':Hp} {p:Addr} {o:HO} (s:zC G H) (h:zC H H') (hp:H p=Option.none) (e:H' p=some o):zJ G H (upd G p o) H':=by
 have gp:G p=Option.none:=s.free hp
 refine ⟨zd gp,h,fun b u q=>?_,fun b h1 h2=>?_⟩
 ·by_cases hb:b=p
  ·subst hb;rw [za] at q;cases q;exact e
  ·rw [zv hb] at q;exact h b u (s b u q)
 ·by_cases hb:b=p
  ·subst hb;exact absurd hp h2
  ·rw [zv hb];exact h1
theorem zJ.s {G H G' H':Hp} (g:zJ G H G' H'):zC G H':=g.gg.trans g.gh
theorem zmq (σ:St) (j:Nat) (x:Option V):ZO ((ZO σ [j]).set j x) [j]=ZO σ [j]:=by
 show ((σ.set j none).set j x).set j none=σ.set j none
 rw [List.set_set,List.set_set]
theorem zpP {K:PySem.W.Frag} {a:Addr} {xs:List V} {te:TE} {j:Nat} {σ:St} {H1:Hp} {Q:VK} (f:V→V) (hl:SqL K H1 a xs) (hz:xs.length≤sizeLine)
  (hs:∀x H2 Q',x ∈ xs→zC H1 H2→(∀H3,zC H2 H3→Q' (f x) H3)→te ((ZO σ [j]).set j (some x)) H2 Q')
  (hq:∀p H2,zC H1 H2→H1 p=none→H2 p=some (.lst (xs.map f))→Q (.ref p) H2):
  ∀D,H1 D=none→∃W:Nat→Nat→Hp→Prop,(∃m,W 0 m (upd H1 D (.lst [])))∧∀i m H,W i m H→
   ((Itl K a).stop i H∧Q (.ref D) H)∨((Itl K a).go i H∧∃Nx:Hp→Prop,(∀H',Nx H'→∃m',m' < m∧W (i + 1) m' H')∧∀x H',(Itl K a).yld i H x H'→Jf j x (ZO σ [j]) H' fun σ2 H2=>ZO σ2 [j]=ZO σ [j]∧ziq σ2 H2 fun b H3=>
    if b=true then te σ2 H3 fun y H4=>∃acc,H4 D=some (.lst acc)∧acc.length < sizeLine∧Nx (upd H4 D (.lst (acc++[y]))) else Nx H3):=by
 intro D hD
 refine zni (K:=K) (a:=a) (xs:=xs) (vs:=[j]) (fun i H=>zC H1 H∧H D=some (.lst ((xs.take i).map f))) ⟨zd hD,za⟩ (fun i H _ h=>h.1.seq hl) ?_ (fun H h=>hq D H h.1 hD (by rw [h.2,List.take_length]))
 intro i x H hx ⟨hs1,hD1⟩
 refine ⟨zmq σ j (some x),?_⟩
 unfold ziq
 refine zdL ?_
 refine hs x H _ (List.mem_of_getElem? hx) hs1 fun H3 s3=>⟨_,s3 _ _ hD1,?_,?_,?_⟩
 ·rw [List.length_map,List.length_take]
  have:=(List.getElem?_eq_some_iff.mp hx).1
  omega
 ·intro b o e
  have hb:=zy e hD
  rw [zv hb]
  exact s3 b o (hs1 b o e)
 ·rw [za,List.take_add_one,hx,List.map_append]
  rfl
theorem zJ.turn {G H G' H':Hp} {D:Addr} {o:HO} (g:zJ G H G' H') (h1:H D=none) (h2:G' D=none):zJ G H G' (upd H' D o):=
 ⟨g.gg,fun b u e=>by rw [zv (zy e h1)];exact g.hh b u e,fun b u e=>by rw [zv (zy e h2)];exact g.gh b u e,g.sep⟩
theorem Paired.snoc {α β:Type} {F:α→β→Prop}:∀{l:List α} {m:List β} {x:α} {y:β},Paired F l m→F x y→Paired F (l++[x]) (m++[y])
 | _,_,_,_,.nil,h=>.cons h .nil
 | _,_,_,_,.cons a r,h=>.cons a (Paired.snoc r h)
theorem zq4 {K:PySem.W.Frag} {a:Addr} {xs:List V} {tt:TT} {te:TE} {j:Nat} {σ:St} {G1 H1:Hp} {Q:VK} {β:Type} (R:Hp→V→β→Prop) (mono:∀G G' v y,zC G G'→R G v y→R G' v y) (out:Nat→Option β)
  (hl:SqL K H1 a xs) (hz:xs.length≤sizeLine) (sgh:zC G1 H1)
  (hs:∀i x G2 H2 (P:Option V→Hp→Prop),xs[i]?=some x→zJ G1 H1 G2 H2→(match out i with
   | none=>∀G3 H3,zJ G2 H2 G3 H3→P none H3
   | some y=>∀v G3 H3,zJ G2 H2 G3 H3→R G3 v y→P (some v) H3)→tt ((ZO σ [j]).set j (some x)) H2 fun b H3=>if b=true then te ((ZO σ [j]).set j (some x)) H3 fun v H4=>P (some v) H4 else P none H3)
  (hq:∀p vs G2 H2,zJ G1 H1 G2 H2→H1 p=none→G2 p=none→H2 p=some (.lst vs)→Paired (R G2) vs ((List.range xs.length).filterMap out)→Q (.ref p) H2):
  ∀D,H1 D=none→∃W:Nat→Nat→Hp→Prop,(∃m,W 0 m (upd H1 D (.lst [])))∧∀i m H,W i m H→
   ((Itl K a).stop i H∧Q (.ref D) H)∨((Itl K a).go i H∧∃Nx:Hp→Prop,(∀H',Nx H'→∃m',m' < m∧W (i + 1) m' H')∧∀x H',(Itl K a).yld i H x H'→Jf j x (ZO σ [j]) H' fun σ2 H2=>ZO σ2 [j]=ZO σ [j]∧tt σ2 H2 fun b H3=>
    if b=true then te σ2 H3 fun y H4=>∃acc,H4 D=some (.lst acc)∧acc.length < sizeLine∧Nx (upd H4 D (.lst (acc++[y]))) else Nx H3):=by
 intro D hD
 have gD:G1 D=none:=sgh.free hD
 refine zni (K:=K) (a:=a) (xs:=xs) (vs:=[j]) (fun i H=>∃G2 vs,zJ G1 H1 G2 H∧G2 D=none∧H D=some (.lst vs)∧vs.length≤i∧Paired (R G2) vs ((List.range i).filterMap out))
  ⟨G1,[],(zJ.refl sgh).turn hD gD,gD,za,Nat.le_refl _,.nil⟩ (fun i H _ ⟨_,_,g,_⟩=>g.hh.seq hl) ?_ (fun H ⟨G2,vs,g,g0,hv,_,hp⟩=>hq D vs G2 H g hD g0 hv hp)
 intro i x H hx ⟨G2,vs,g,g0,hv,hlen,hp⟩
 have hi:=(List.getElem?_eq_some_iff.mp hx).1
 refine ⟨zmq σ j (some x),?_⟩
 have hd0:H D≠none:=by rw [hv];simp
 refine hs i x G2 H (fun o H3=>match o with
  | some y=>∃acc,H3 D=some (.lst acc)∧acc.length < sizeLine∧∃G2 vs,zJ G1 H1 G2 (upd H3 D (.lst (acc++[y])))∧G2 D=none∧upd H3 D (.lst (acc++[y])) D=some (.lst vs)∧vs.length≤i + 1∧Paired (R G2) vs ((List.range (i + 1)).filterMap out)
  | none=>∃G2 vs,zJ G1 H1 G2 H3∧G2 D=none∧H3 D=some (.lst vs)∧vs.length≤i + 1∧Paired (R G2) vs ((List.range (i + 1)).filterMap out)) hx g ?_
 rw [List.range_succ,List.filterMap_append]
 cases ho:out i with
 | none=>
  intro G3 H3 g3
  refine ⟨G3,vs,g.trans g3,g3.sep D g0 hd0,g3.hh _ _ hv,Nat.le_succ_of_le hlen,?_⟩
  have e:[i].filterMap out=[]:=by simp [ho]
  rw [e,List.append_nil]
  exact Paired.mapP hp fun v y=>mono _ _ v y g3.gg
 | some y=>
  intro v G3 H3 g3 r
  refine ⟨vs,g3.hh _ _ hv,by omega,G3,vs++[v],(g.trans g3).turn hD (g3.sep D g0 hd0),g3.sep D g0 hd0,za,by rw [List.length_append];simp;omega,?_⟩
  have e:[i].filterMap out=[y]:=by simp [ho]
  rw [e]
  exact Paired.snoc (Paired.mapP hp fun v y=>mono _ _ v y g3.gg) r
theorem zC.at {H H':Hp} (s:zC H H') {b:Addr} {o:HO} (h:H b=some o):H' b=some o:=s b o h
theorem zq2 {x:Str} {te:TE} {j:Nat} {σ:St} {H1:Hp} {Q:VK} (f:Nat→V) (hz:x.cps.size≤sizeLine)
  (hs:∀c H2 Q',zC H1 H2→(∀H3,zC H2 H3→Q' (f c) H3)→te ((ZO σ [j]).set j (some (.str ⟨#[c]⟩))) H2 Q')
  (hq:∀p H2,zC H1 H2→H1 p=none→H2 p=some (.lst (x.cps.toList.map f))→Q (.ref p) H2):
  ∀D,H1 D=none→∃W:Nat→Nat→Hp→Prop,(∃m,W 0 m (upd H1 D (.lst [])))∧∀i m H,W i m H→
   ((Its x).stop i H∧Q (.ref D) H)∨((Its x).go i H∧∃Nx:Hp→Prop,(∀H',Nx H'→∃m',m' < m∧W (i + 1) m' H')∧∀y H',(Its x).yld i H y H'→Jf j y (ZO σ [j]) H' fun σ2 H2=>ZO σ2 [j]=ZO σ [j]∧ziq σ2 H2 fun b H3=>
    if b=true then te σ2 H3 fun y H4=>∃acc,H4 D=some (.lst acc)∧acc.length < sizeLine∧Nx (upd H4 D (.lst (acc++[y]))) else Nx H3):=by
 intro D hD
 refine ⟨fun i m H=>m=x.cps.size - i∧i≤x.cps.size∧zC H1 H∧H D=some (.lst ((x.cps.toList.take i).map f)),⟨_,rfl,Nat.zero_le _,zd hD,za⟩,?_⟩
 rintro i m H ⟨rfl,hi,hs1,hD1⟩
 by_cases hlt:i < x.cps.size
 ·refine .inr ⟨hlt,fun H'=>zC H1 H'∧H' D=some (.lst ((x.cps.toList.take (i + 1)).map f)),fun H' h=>⟨x.cps.size - (i + 1),by omega,rfl,hlt,h.1,h.2⟩,fun y H' hy=>?_⟩
  obtain ⟨rfl,c,hc,rfl⟩:=hy
  refine ⟨zmq σ j _,?_⟩
  unfold ziq
  refine zdL ?_
  refine hs c H' _ hs1 fun H3 s3=>⟨_,s3 _ _ hD1,?_,?_,?_⟩
  ·rw [List.length_map,List.length_take,Array.length_toList]
   omega
  ·intro b o e
   rw [zv (zy e hD)]
   exact s3 b o (hs1 b o e)
  ·have hc':x.cps.toList[i]?=some c:=by rw [Array.getElem?_toList];exact hc
   rw [za,List.take_add_one,hc',List.map_append]
   rfl
 ·have e:i=x.cps.size:=by omega
  subst e
  refine .inl ⟨Nat.le_refl _,hq D H hs1 hD ?_⟩
  rw [hD1,List.take_of_length_le (by rw [Array.length_toList];exact Nat.le_refl _)]
end L2
namespace L2
open PySem PySem.Spec PyProof.Rows
theorem qb {Q:VK} {H:Hp} {a b:Bool} (e:a=b) (h:Q (.bl a) H):Q (.bl b) H:=e ▸ h
theorem qi {Q:VK} {H:Hp} {a b:Int} (e:a=b) (h:Q (.int a) H):Q (.int b) H:=e ▸ h
theorem zqB {b:List Nat} {x:V} (h:x ∈ rv b):∃n:Nat,n ∈ b∧x=.int (n:Int):=by
 obtain ⟨n,h1,h2⟩:=List.mem_map.mp h
 exact ⟨n,h1,h2.symm⟩
noncomputable def onN (g:Nat→V):V→V
 | .int i=>g i.toNat
 | v=>v
theorem zqC (g:Nat→V) (b:List Nat):(rv b).map (onN g)=b.map g:=by
 unfold rv
 rw [List.map_map]
 exact List.map_congr_left fun n _=>rfl
theorem zq3 {K:PySem.W.Frag} {a:Addr} {b:List Nat} {te:TE} {j:Nat} {σ:St} {H1:Hp} {Q:VK} (g:Nat→V) (hl:SqL K H1 a (rv b)) (hz:(rv b).length≤sizeLine)
  (hs:∀(n:Nat) H2 Q',n ∈ b→zC H1 H2→(∀H3,zC H2 H3→Q' (g n) H3)→te ((ZO σ [j]).set j (some (.int (n:Int)))) H2 Q')
  (hq:∀p H2,zC H1 H2→H1 p=none→H2 p=some (.lst (b.map g))→Q (.ref p) H2):
  ∀D,H1 D=none→∃W:Nat→Nat→Hp→Prop,(∃m,W 0 m (upd H1 D (.lst [])))∧∀i m H,W i m H→
   ((Itl K a).stop i H∧Q (.ref D) H)∨((Itl K a).go i H∧∃Nx:Hp→Prop,(∀H',Nx H'→∃m',m' < m∧W (i + 1) m' H')∧∀x H',(Itl K a).yld i H x H'→Jf j x (ZO σ [j]) H' fun σ2 H2=>ZO σ2 [j]=ZO σ [j]∧ziq σ2 H2 fun b H3=>
    if b=true then te σ2 H3 fun y H4=>∃acc,H4 D=some (.lst acc)∧acc.length < sizeLine∧Nx (upd H4 D (.lst (acc++[y]))) else Nx H3):=
 zpP (f:=onN g) hl hz (fun x H2 Q' hx s2 k=>by
  obtain ⟨n,hn,rfl⟩:=zqB hx
  exact hs n H2 Q' hn s2 k) (fun p H2 s2 hp e=>hq p H2 s2 hp (by rw [← zqC];exact e))
theorem zo8 {K:PySem.W.Frag} {tl:TE} {te:TE} {j:Nat} {σ:St} {H:Hp} {Q:VK} {a:Addr} {b:List Nat} (g:Nat→V) (hl:SqL K H a (rv b))
  (hs:∀(n:Nat) H2 Q',n ∈ b→zC H H2→(∀H3,zC H2 H3→Q' (g n) H3)→te ((ZO σ [j]).set j (some (.int (n:Int)))) H2 Q')
  (hq:∀p H2,zC H H2→H p=none→H2 p=some (.lst (b.map g))→Q (.ref p) H2) (hv:∀Q':VK,Q' (.ref a) H→tl σ H Q':=by exact fun _ q=>⟨_,rfl,q⟩):tLc (zfm K tl) (Jf j) ziq te [j] σ H Q:=
 hv _ ⟨a,_,rfl,hl,fun hz=>zq3 (Q:=Q) g hl hz hs hq⟩
theorem zqG {x:Str} {tl:TE} {te:TE} {j:Nat} {σ:St} {H:Hp} {Q:VK} (f:Nat→V) (hz:x.cps.size≤sizeLine)
  (hs:∀c H2 Q',zC H H2→(∀H3,zC H2 H3→Q' (f c) H3)→te ((ZO σ [j]).set j (some (.str ⟨#[c]⟩))) H2 Q')
  (hq:∀p H2,zC H H2→H p=none→H2 p=some (.lst (x.cps.toList.map f))→Q (.ref p) H2) (hv:∀Q':VK,Q' (.str x) H→tl σ H Q':=by exact fun _ q=>⟨_,rfl,q⟩):tLc (zsz tl) (Jf j) ziq te [j] σ H Q:=
 hv _ ⟨x,rfl,zq2 (Q:=Q) f hz hs hq⟩
theorem zgt {K:PySem.W.Frag} {tl te:TE} {j:Nat} {σ:St} {H:Hp} {Q:VK} {a:Addr} {b:List Nat} (p:Nat→Bool) (hl:zD H a b)
  (hs:∀(n:Nat) H2 Q',n ∈ b→zC H H2→(∀H3,zC H2 H3→Q' (.bl (p n)) H3)→te ((ZO σ [j]).set j (some (.int (n:Int)))) H2 Q')
  (hq:∀H2,zC H H2→Q (.bl (b.all p)) H2) (hv:∀Q':VK,Q' (.ref a) H→tl σ H Q':=by exact fun _ q=>⟨_,rfl,q⟩):tCB (zrz K) (zgJ (tLc (zfm K tl) (Jf j) ziq te [j]) znV) σ H Q:=by
 refine zo8 (Q:=fun x H1=>zrz K [x] H1 Q) (fun n=>.bl (p n)) (SqL.of hl) hs (fun q H2 s2 hp e=>⟨q,b.map p,rfl,SqL.of (by rw [List.map_map];exact e),?_⟩) hv
 refine qb ?_ (hq H2 s2)
 rw [List.all_map]
 rfl
theorem zsq {K:PySem.W.Frag} {i:Nat} {σ:St} {H:Hp} {Q:VK} {a:Addr} {b:List Nat} (hl:zD H a b) (hq:Q (.int (b.length:Nat)) H) (hv:σ[i]?=some (some (.ref a)):=by rfl):
  tCB (fun xs H Q=>∃p ys,xs=[.ref p]∧(SqL K H p ys∨SqT K H p ys)∧Q (.int ys.length) H) (zgJ (zmv i) znV) σ H Q:=
 ⟨_,hv,a,_,rfl,.inl (SqL.of hl),qi (by rw [zi]) hq⟩
theorem zef (n d k:Nat):HT.sIx n d (some (k:Int))=min k n:=HT.sIx_nat n d k
theorem zrj (xs:List V) (n:Nat):zjQ xs none (some (n:Int))=xs.take n:=by
 unfold zjQ
 rw [zef,HT.sIx_none,List.drop_zero,Nat.sub_zero]
 by_cases h:n≤xs.length
 ·rw [Nat.min_eq_left h]
 ·rw [Nat.min_eq_right (by omega),List.take_of_length_le (Nat.le_refl _),List.take_of_length_le (by omega)]
theorem zcv (xs:List V) (n:Nat):zjQ xs (some (n:Int)) none=xs.drop n:=by
 unfold zjQ
 rw [zef,HT.sIx_none]
 by_cases h:n≤xs.length
 ·rw [Nat.min_eq_left h,List.take_of_length_le (by rw [List.length_drop];exact Nat.le_refl _)]
 ·rw [Nat.min_eq_right (by omega),Nat.sub_self,List.take_zero,List.drop_eq_nil_of_le (by omega)]
theorem zk4 (xs:List V) (i j:Nat):zjQ xs (some (i:Int)) (some (j:Int))=(xs.drop i).take (j - i):=by
 unfold zjQ
 rw [zef,zef]
 by_cases h:i≤xs.length
 ·rw [Nat.min_eq_left h]
  by_cases h2:j≤xs.length
  ·rw [Nat.min_eq_left h2]
  ·rw [Nat.min_eq_right (by omega),List.take_of_length_le (by rw [List.length_drop];omega),List.take_of_length_le (by rw [List.length_drop];omega)]
 ·have e:min i xs.length=xs.length:=by omega
  rw [e,List.drop_eq_nil_of_le (Nat.le_refl _),List.drop_eq_nil_of_le (show xs.length≤i by omega)]
  simp
theorem zmI (b:List Nat) (n:Nat):(rv b).take n=rv (b.take n):=by unfold rv;rw [List.map_take]
theorem zmM (b:List Nat) (n:Nat):(rv b).drop n=rv (b.drop n):=by unfold rv;rw [List.map_drop]
theorem zeV {H:Hp} {p:Addr} {b:List Nat} {n:Int} (m:Nat) (e:n=(m:Int)):upd H p (.lst (zjQ (rv b) none (some n)))=upd H p (.lst (rv (b.take m))):=by rw [e,zrj,zmI]
theorem Yx {H:Hp} {p:Addr} {b:List Nat} {n:Int} (m:Nat) (e:n=(m:Int)):upd H p (.lst (zjQ (rv b) (some n) none))=upd H p (.lst (rv (b.drop m))):=by rw [e,zcv,zmM]
theorem zb8 {H:Hp} {p:Addr} {b:List Nat} {i j:Int} (m n:Nat) (e:i=(m:Int)) (e2:j=(n:Int)):upd H p (.lst (zjQ (rv b) (some i) (some j)))=upd H p (.lst (rv ((b.drop m).take (n - m)))):=by rw [e,e2,zk4,zmM,zmI]
theorem zdC {b:List Nat} {i:Int} {j n:Nat} (e:i=(j:Int)) (h:b[j]?=some n):atI (rv b) i=some (.int (n:Int)):=by
 rw [e]
 exact yk (by rw [zmL,h];rfl)
theorem Paired.mem_left {α β:Type} {F:α→β→Prop}:∀{l:List α} {m:List β} {x:α},Paired F l m→x ∈ l→∃y,y ∈ m∧F x y
 | _,_,_,.cons r t,h=>by
  rcases List.mem_cons.mp h with rfl | h
  ·exact ⟨_,List.mem_cons_self,r⟩
  ·obtain ⟨y,h1,h2⟩:=Paired.mem_left t h
   exact ⟨y,List.mem_cons_of_mem _ h1,h2⟩
theorem zem {c:TT} {tb:TS} {D:zk9} {σ:St} {H:Hp} (Pv:St→Hp→Prop) (μ:St→Hp→Nat) (h0:Pv σ H)
  (hs:∀σ H,Pv σ H→c σ H fun b H1=>if b=true then ∃N:St→Hp→Prop,(∀σ' H',N σ' H'→∃m',m' < μ σ H∧(m'=μ σ' H'∧Pv σ' H'))∧tb {D with nx:=N,ct:=N,bk:=D.nx} σ H1 else D.nx σ H1):zo6 c tb D σ H:=
 ⟨fun m σ H=>m=μ σ H∧Pv σ H,⟨_,rfl,h0⟩,fun m σ H ⟨e,p⟩=>by subst e;exact hs σ H p⟩
theorem zr3 {J:It} {n:Nat} {val:Nat→V} (hgo:∀i H,i < n→J.go i H) (hstop:∀H,J.stop n H) (hy:∀i H x H',i < n→J.yld i H x H'→H'=H∧x=val i)
  {te:TE} {j:Nat} {σ:St} {H1:Hp} {Q:VK} (f:Nat→V) (hz:n≤sizeLine)
  (hs:∀i H2 Q',i < n→zC H1 H2→(∀H3,zC H2 H3→Q' (f i) H3)→te ((ZO σ [j]).set j (some (val i))) H2 Q')
  (hq:∀p H2,zC H1 H2→H1 p=none→H2 p=some (.lst ((List.range n).map f))→Q (.ref p) H2):
  ∀D,H1 D=none→∃W:Nat→Nat→Hp→Prop,(∃m,W 0 m (upd H1 D (.lst [])))∧∀i m H,W i m H→
   (J.stop i H∧Q (.ref D) H)∨(J.go i H∧∃Nx:Hp→Prop,(∀H',Nx H'→∃m',m' < m∧W (i + 1) m' H')∧∀y H',J.yld i H y H'→Jf j y (ZO σ [j]) H' fun σ2 H2=>ZO σ2 [j]=ZO σ [j]∧ziq σ2 H2 fun b H3=>
    if b=true then te σ2 H3 fun y H4=>∃acc,H4 D=some (.lst acc)∧acc.length < sizeLine∧Nx (upd H4 D (.lst (acc++[y]))) else Nx H3):=by
 intro D hD
 refine ⟨fun i m H=>m=n - i∧i≤n∧zC H1 H∧H D=some (.lst ((List.range i).map f)),⟨_,rfl,Nat.zero_le _,zd hD,za⟩,?_⟩
 rintro i m H ⟨rfl,hi,hs1,hD1⟩
 by_cases hlt:i < n
 ·refine .inr ⟨hgo i H hlt,fun H'=>zC H1 H'∧H' D=some (.lst ((List.range (i + 1)).map f)),fun H' h=>⟨n - (i + 1),by omega,rfl,hlt,h.1,h.2⟩,fun y H' hyl=>?_⟩
  obtain ⟨rfl,rfl⟩:=hy i H y H' hlt hyl
  refine ⟨zmq σ j _,?_⟩
  unfold ziq
  refine zdL ?_
  refine hs i H' _ hlt hs1 fun H3 s3=>⟨_,s3 _ _ hD1,?_,?_,?_⟩
  ·rw [List.length_map,List.length_range]
   omega
  ·intro b o e
   rw [zv (zy e hD)]
   exact s3 b o (hs1 b o e)
  ·rw [za,List.range_succ,List.map_append]
   rfl
 ·have e:i=n:=by omega
  subst e
  exact .inl ⟨hstop H,hq D H hs1 hD hD1⟩
theorem zpy {ta:TA} {te:TE} {j:Nat} {σ:St} {H:Hp} {Q:VK} {lo hi c:Int} {n:Nat} (f:Nat→V) (hr:RgC lo hi c n) (hz:n≤sizeLine)
  (hs:∀i H2 Q',i < n→zC H H2→(∀H3,zC H2 H3→Q' (f i) H3)→te ((ZO σ [j]).set j (some (.int (lo + (i:Nat) * c)))) H2 Q')
  (hq:∀p H2,zC H H2→H p=none→H2 p=some (.lst ((List.range n).map f))→Q (.ref p) H2) (hv:∀Q':List V→Hp→Prop,Q' [.int lo,.int hi,.int c] H→ta σ H Q'):tLc (zre ta) (Jf j) ziq te [j] σ H Q:=
 hv _ ⟨lo,hi,c,n,rfl,hr,zr3 (J:=Itc lo c n) (val:=fun i=>.int (lo + (i:Nat) * c)) (Q:=Q) (fun _ _ h=>h) (fun _=>Nat.le_refl _) (fun i H x H' _ h=>h) f hz hs hq⟩
noncomputable def zmj (K:PySem.W.Frag) (a:Addr) (xs:List V):Prop:=∃(its:Array Value) (n:Nat),K.lookup a=some {cls:=.type "tuple",data:=.seq its n}∧its.size≤sizeLine∧yU xs its.toList
theorem zmj.sq {K:PySem.W.Frag} {a:Addr} {xs:List V} (h:zmj K a xs) (H:Hp):SqT K H a xs:=by
 obtain ⟨its,n,h1,h2,h3⟩:=h
 exact .inr ⟨_,its,n,h1,rfl,rfl,h2,h3⟩
noncomputable def zoc (K:PySem.W.Frag):V→List V→Hp→VK→Prop:=fun x vs H Q=>∃l b xs zs,x=.ref l∧vs=[.ref b]∧H l=some (.lst xs)∧zmj K b zs∧xs.length + zs.length≤sizeLine∧Q .non (upd H l (.lst (xs++zs)))
theorem zlR {X:Cx} {K:PySem.W.Frag} (hK:X.K=K:=by rfl):MtM X "list.extend" (zoc K):=by
 subst hK
 intro pins s σ H x vs v us Q I rx rv h
 obtain ⟨l,b,xs,zs,rfl,rfl,hH,⟨its2,n2,hB,hz2,r2⟩,hz,q⟩:=h
 cases rx
 obtain ⟨u,rfl,ru⟩:=rv.one
 cases ru
 obtain ⟨z,its,n,r,hl,e⟩:=I.lstM hH
 have e2:=I.kIn b _ hB
 have hl2:zs.length=its2.size:=by rw [r2.length];simp
 have hsz:its.toArray.size + its2.size≤sizeLine:=by rw [List.size_toArray];omega
 have hlong:¬ (!its.toArray.isEmpty&&Builtin.List.listTooLong (its.toArray.size + its2.size))=true:=by
  rw [zkT hsz,Bool.and_false]
  exact Bool.false_ne_true
 refine call_meets F.slot_list_extend ⟨_,e,rfl⟩ F.entry_list_extend (F.args_list_extend_2 _ _)
  (AutoSeq1.list_extend_list_tuple_0 l its.toArray n b its2 n2 hlong (by rw [List.size_toArray];omega) (by omega)) ⟨e,e2,?_⟩
 refine ⟨.non,_,I.lset (its':=its++its2.toList) hH e (by simp) (r.append r2) ?_,rfl,q⟩
 rw [List.length_append]
 omega
section
variable {X:Cx} {K:PySem.W.Frag}
theorem zI (hK:X.K=K:=by rfl):IxR X (zss K):=hK ▸ zpS
theorem z9 (hK:X.K=K:=by rfl):SlR X (zqH K):=hK ▸ zpu
theorem yd (hu:X.A.units + 64 < cLine) (hK:X.K=K:=by rfl):OpR X (compareOp .Eq) (zmT K):=hK ▸ zoq hu
theorem Qr (hu:X.A.units + 64 < cLine) (hK:X.K=K:=by rfl):OpR X (compareOp .NotEq) (zpa K):=hK ▸ zop hu
theorem zaw (hu:X.A.units < cLine) (hK:X.K=K:=by rfl):OpR X (compareOp .Eq) (zpc K):=hK ▸ zor hu
theorem zpJ (hu:X.A.units + 64 < cLine) (hK:X.K=K:=by rfl):OpR X (compareOp .NotEq) (zsr K):=hK ▸ zqW hu
theorem zlJ (hK:X.K=K:=by rfl):OpR X (compareOp .In) (rIn K false):=hK ▸ zm4
theorem zcc (hK:X.K=K:=by rfl):OpR X (compareOp .NotIn) (rIn K true):=hK ▸ ziV
theorem zx (hK:X.K=K:=by rfl):JW X (.builtin "len") (fun xs H Q=>∃p ys,xs=[.ref p]∧(SqL K H p ys∨SqT K H p ys)∧Q (.int ys.length) H):=hK ▸ zjr
theorem zhN (hK:X.K=K:=by rfl):JW X (.type "list") (fun xs H Q=>∃p ys,xs=[.ref p]∧(SqL K H p ys∨SqT K H p ys)∧∀l,H l=none→Q (.ref l) (upd H l (.lst ys))):=hK ▸ zjq
theorem zbJ (hc:X.calm=true) (hK:X.K=K:=by rfl):JW X (.builtin "all") (zrz K):=hK ▸ zrn hc
theorem znF (hc:X.calm=true) (hK:X.K=K:=by rfl):JW X (.builtin "any") (zst K):=hK ▸ zrm hc
theorem zp6 (hc:X.calm=true) (hK:X.K=K:=by rfl):JW X (.builtin "sum") (zrW K):=hK ▸ zrl hc
theorem znc (hK:X.K=K:=by rfl):MtR X "list.index" (zpb K):=hK ▸ zox
theorem zj {e:Expr} {f:Str} {pos:Pos} {ta:TE} (he:PE X e ta) (hb:attributeBase e f X.env (eval e X.env)=eval e X.env) (hK:X.K=K:=by rfl):PE X (.Attribute e f pos) (zso K ta f):=hK ▸ zqT he hb
theorem zK {tg l:Expr} {tl:TE} (hl:PE X l tl) (hK:X.K=K:=by rfl):PI X tg l (zfm K tl):=hK ▸ zod hl
theorem zmU {tg l:Expr} {tl:TE} (hl:PE X l tl) (hK:X.K=K:=by rfl):PI X tg l (zr4 K tl):=hK ▸ zqL hl
theorem zM {o value:Expr} {f:Str} {pos pos':Pos} {ta tv:TE} (ha:PE X o ta) (hv:PE X value tv) (hs:swapsWith value (some (.Attribute o f pos')) pos.line X.env=pure false) (hK:X.K=K:=by rfl):PS X (.Assign [.Attribute o f pos'] value pos) (zry K ta tv f):=hK ▸ zqJ ha hv hs
end
structure zn1 (K:PySem.W.Frag) (C:Addr):Prop where
 eq:PySem.W.findIn K (.ref C) "__eq__"=some (some (.builtin "object.__eq__"))
 mro:PySem.W.mroIn K C (.type "object")=some true
noncomputable def zrv (K:PySem.W.Frag) (a:Addr) (D:List (Str × Str)):Prop:=
 (a == sysModules)=false∧∃o es ep,K.lookup a=some o∧o.ExactDict∧o.data=.dict es ep∧KTD.Rows (fun (d:Str) v=>∃t,v=.str d t) es.toList D
noncomputable def zsd (K:PySem.W.Frag) (mg:Str→Option Value) (D:List (Str × Str)):Prop:=∃sn,Z8 mg "SHORT_NAMES" (.ref sn)∧zrv K sn D
noncomputable def zql (D:List (Str × Str)) (k:Str) (y:V):V:=match KTD.datumAt k D with
 | some v=>.str v
 | none=>y
theorem zkK {k:Str}:∀{D:List (Str × Str)},KTD.datumAt k (D.map fun p=>(p.1,KTD.Dat.flat (.str p.2)))=(KTD.datumAt k D).map fun v=>KTD.Dat.flat (.str v)
 | []=>rfl
 | (x,d)::D=>by
  show (if decide (k=x)=true then some (KTD.Dat.flat (.str d)) else KTD.datumAt k (D.map fun p=>(p.1,KTD.Dat.flat (.str p.2))))=(if decide (k=x)=true then some d else KTD.datumAt k D).map fun v=>KTD.Dat.flat (.str v)
  by_cases hx:k=x
  ·rw [if_pos (decide_eq_true hx),if_pos (decide_eq_true hx)];rfl
  ·rw [if_neg (by simp [hx]),if_neg (by simp [hx])];exact zkK
noncomputable def zqr (D:List (Str × Str)) (te tf:TE):TE:=fun σ H Q=>te σ H fun x H1=>tf σ H1 fun y H2=>∃k,x=.str k∧Q (zql D k y) H2
theorem zok {X:Cx} {K:PySem.W.Frag} {mg:Str→Option Value} {D:List (Str × Str)} {e f:Expr} {te tf:TE} {p apos cpos:Pos} (h:zsd K mg D) (hg:Gl X "SHORT_NAMES") (he:PE X e te) (hf:PE X f tf)
  (hm:X.mg=mg:=by rfl) (hK:X.K=K:=by rfl) (hn:ZM e=true:=by rfl) (hn2:ZM f=true:=by rfl)
  (hbase:attributeBase (.Name "SHORT_NAMES" p) "get" X.env (eval (.Name "SHORT_NAMES" p) X.env)=eval (.Name "SHORT_NAMES" p) X.env:=by rfl) (hline:(apos.endLine == cpos.line)=true:=by rfl):
  PE X (.Call (.Attribute (.Name "SHORT_NAMES" p) "get" apos) [e,f] [] cpos) (zqr D te tf):=by
 subst hK hm
 obtain ⟨sn,G,⟨hsys,o,es,ep,hl,hx,hd,hr⟩⟩:=h
 have hs:([e,f]:List Expr).all ZM=true:=by simp [hn,hn2]
 have hfew:((backTo cpos (starEach [e,f] X.env)).all (fun x=>!x.1)&&(backToKw cpos (keywordEach [] X.env)).all (fun x=>x.1.isSome)
   &&decide (([e,f]:List Expr).length + ([]:List Keyword).length + (if ([]:List Keyword).isEmpty then 0 else 1) < 30))=true:=by
  rw [zqx hs]
  have e1:(backToKw cpos (keywordEach [] X.env)).all (fun x=>x.1.isSome)=true:=by rw [keywordEach];rfl
  rw [e1]
  rfl
 intro pins s σ H Q I q
 refine wpAny_Call_method_late hbase hfew hline rfl (thn (zN (pos:=p) G hg (by decide) pins s σ H (fun (x:V) H1=>x=.ref sn∧H1=H) I ⟨rfl,rfl⟩) fun v s1 ⟨x,H1,I1,r1,e1,e2⟩=>?_)
 subst e1 e2
 obtain rfl:v=Value.ref sn:=r1
 have ho:∀s':Shared,X.K.In s'.heap→s'.heap.get? sn=some o:=fun s' i=>i sn o hl
 have T:∀s':Shared,X.K.In s'.heap→KTD.Here s'.heap s'.heap sn (D.map fun p=>(p.1,KTD.Dat.flat (.str p.2))):=fun s' i=>
  ⟨⟨hsys,o,es,ep,ho s' i,hx,hd,hr.mono (R':=KTD.Dat.At s'.heap) (f:=fun d=>KTD.Dat.flat (.str d)) fun d v ⟨t,ev⟩=>by subst ev;exact PyProof.V.Flat.str d t⟩,fun _ _ e=>e⟩
 refine ⟨"dict","dict.get",PySem.F.plainAttrs_dict,PySem.F.slot_dict_get,PySem.F.type_dict_get,(T s1 I1.kIn).typeIs,(T s1 I1.kIn).noDict,?_⟩
 have s1':=zcI (e:=e) (es:=[f]) (env:=X.env) hn
 have s2':=zcI (e:=f) (es:=[]) (env:=X.env) hn2
 rw [s1',s2',starEach]
 refine Calls.callWith_builtin rfl (Calls.evalArgs_plain (Calls.spliced_cons (thn (he pins s1 σ H1 _ I1 q) fun iv s2 ⟨y,H2,I2,ry,q2⟩=>
  Calls.spliced_cons (thn (hf pins s2 σ H2 _ I2 q2) fun fv s3 ⟨z,H3,I3,rz,k,ek,q3⟩=>Calls.spliced_nil ?_))))
 subst ek
 obtain ⟨t,rfl⟩:=(show ∃t,iv=Value.str k t from ry)
 refine call_meetsIn PySem.F.slot_dict_get (T s3 I3.kIn).typeIs PySem.F.entry_dict_get (PySem.F.args_dict_get_3 _ _ _) (KTD.meets_get2 (h₀:=s3.heap) (D:=D.map fun p=>(p.1,KTD.Dat.flat (.str p.2)))) ⟨T s3 I3.kIn,fun d v ha hv=>?_,fun hn=>?_⟩
 ·rw [zkK] at ha
  cases hk:KTD.datumAt k D with
  | none=>rw [hk] at ha;cases ha
  | some d'=>
   rw [hk] at ha
   cases ha
   have hv':PyProof.V.Flat v (.str d'):=hv
   obtain ⟨u,rfl⟩:=hv'.str_inv
   have:zql D k z=.str d':=by unfold zql;rw [hk]
   rw [this] at q3
   exact ⟨.str d',H3,I3.tok _,⟨u,rfl⟩,q3⟩
 ·rw [zkK] at hn
  cases hk:KTD.datumAt k D with
  | some d'=>rw [hk] at hn;cases hn
  | none=>
   have:zql D k z=z:=by unfold zql;rw [hk]
   rw [this] at q3
   exact ⟨z,H3,I3.tok _,rz,q3⟩
end L2
namespace CH
open PySem L2
noncomputable def top (i:Nat):Stmt:=PySem.Challenge.pw_callhouse_s01_answers.main.body.getD i (.Pass ⟨0,0,0,0⟩)
noncomputable abbrev zkb:Stmt:=top 15
noncomputable abbrev zeP:Stmt:=top 16
noncomputable abbrev zcY:Stmt:=top 17
noncomputable abbrev zcX:Stmt:=top 18
noncomputable abbrev Zz:Stmt:=top 19
noncomputable abbrev zj9:Stmt:=top 20
noncomputable abbrev zho:Stmt:=top 21
noncomputable abbrev zbs:Stmt:=top 22
noncomputable abbrev Yn:Stmt:=top 23
noncomputable abbrev zbo:Stmt:=top 24
noncomputable abbrev zeO:Stmt:=top 25
noncomputable abbrev zbr:Stmt:=top 26
noncomputable abbrev zcU:Stmt:=top 27
noncomputable abbrev zcT:Stmt:=top 28
noncomputable abbrev Zx:Stmt:=top 29
noncomputable abbrev YO:Stmt:=top 30
noncomputable abbrev zbq:Stmt:=top 31
noncomputable abbrev zhl:Stmt:=top 32
noncomputable abbrev zeL:Stmt:=top 33
noncomputable abbrev Qm:Stmt:=y9 (top 39) 0
noncomputable abbrev Ju:Stmt:=y9 (top 40) 0
noncomputable abbrev zao:Stmt:=top 41
noncomputable abbrev zeR:Stmt:=top 42
noncomputable abbrev zeQ:Stmt:=top 43
noncomputable abbrev Jr:Stmt:=top 44
noncomputable abbrev zeM:Stmt:=top 45
noncomputable abbrev zbl:Stmt:=top 46
noncomputable abbrev Jt:Stmt:=top 47
noncomputable abbrev QU:Stmt:=top 48
noncomputable abbrev zab:Stmt:=top 49
noncomputable abbrev YV:Stmt:=y9 (top 55) 0
noncomputable abbrev zc1:Stmt:=y9 (top 56) 0
noncomputable abbrev zaq:Stmt:=y9 (top 57) 0
noncomputable abbrev QS:Stmt:=top 58
noncomputable abbrev Zy:Stmt:=top 59
noncomputable abbrev Qi:Stmt:=top 60
noncomputable abbrev QP:Stmt:=top 61
noncomputable abbrev zhk:Stmt:=top 62
noncomputable abbrev zcV:Stmt:=top 63
noncomputable abbrev zam:Stmt:=top 64
noncomputable abbrev zat:Stmt:=y9 (top 84) 0
noncomputable abbrev Jv:Stmt:=y9 (top 85) 0
noncomputable abbrev QZ:Stmt:=y9 (top 86) 0
noncomputable abbrev zaf:Stmt:=top 87
noncomputable abbrev zaj:Stmt:=top 88
noncomputable abbrev zcW:Stmt:=top 89
noncomputable abbrev zbu:Stmt:=top 90
noncomputable abbrev zc0:Stmt:=top 91
noncomputable abbrev YR:Stmt:=top 92
noncomputable abbrev zbt:Stmt:=top 93
noncomputable abbrev zeN:Stmt:=top 94
noncomputable abbrev zbk:Stmt:=top 95
noncomputable abbrev zad:Stmt:=top 96
noncomputable abbrev zah:Stmt:=top 97
noncomputable abbrev zhm:Stmt:=top 98
noncomputable abbrev zai:Stmt:=top 99
noncomputable abbrev Jp:Stmt:=top 100
noncomputable abbrev zeS:Stmt:=top 101
noncomputable abbrev YS:Stmt:=top 102
noncomputable abbrev Yo:Stmt:=top 103
noncomputable abbrev Yj:Stmt:=top 104
noncomputable abbrev zeT:Stmt:=top 105
noncomputable abbrev zak:Stmt:=top 106
noncomputable abbrev zau:Stmt:=y9 (top 114) 0
noncomputable abbrev zap:Stmt:=y9 (top 115) 0
noncomputable abbrev ZK:Stmt:=y9 (top 116) 0
noncomputable abbrev Qk:Stmt:=top 117
noncomputable abbrev zal:Stmt:=top 118
noncomputable abbrev zag:Stmt:=top 119
noncomputable abbrev zbn:Stmt:=top 120
noncomputable abbrev Qj:Stmt:=top 121
noncomputable abbrev QQ:Stmt:=top 122
noncomputable abbrev zhn:Stmt:=top 123
noncomputable abbrev ZX:Stmt:=top 124
noncomputable abbrev zcZ:Stmt:=top 125
noncomputable abbrev Jq:Stmt:=top 126
noncomputable abbrev YT:Stmt:=top 127
noncomputable abbrev Yp:Stmt:=top 128
noncomputable abbrev Ql:Stmt:=top 129
noncomputable abbrev QV:Stmt:=top 130
noncomputable abbrev QW:Stmt:=top 131
noncomputable abbrev zbp:Stmt:=top 132
noncomputable abbrev QR:Stmt:=top 134
noncomputable abbrev zbm:Stmt:=top 135
noncomputable abbrev zbj:Stmt:=top 136
noncomputable abbrev zeK:Stmt:=top 137
noncomputable abbrev QX:Stmt:=y9 (top 143) 0
noncomputable abbrev QY:Stmt:=y9 (top 144) 0
noncomputable abbrev zae:Stmt:=top 145
noncomputable abbrev Ym:Stmt:=top 146
noncomputable abbrev Yl:Stmt:=top 147
noncomputable abbrev ZA:Stmt:=top 148
noncomputable abbrev Zd:Stmt:=top 149
noncomputable abbrev Yk:Stmt:=top 150
noncomputable abbrev ZW:Stmt:=top 151
noncomputable abbrev zka:Stmt:=top 152
noncomputable abbrev zac:Stmt:=top 153
noncomputable abbrev QT:Stmt:=top 154
noncomputable abbrev Zl:Stmt:=top 155
noncomputable abbrev YU:Stmt:=top 156
noncomputable abbrev YQ:Stmt:=top 157
noncomputable abbrev zan:Stmt:=top 158
noncomputable abbrev zas:Stmt:=y9 (top 166) 0
noncomputable abbrev zar:Stmt:=y9 (top 166) 1
noncomputable abbrev zbw:Stmt:=y9 (top 167) 0
noncomputable abbrev zav:Stmt:=y9 (top 167) 1
noncomputable abbrev Jw:Stmt:=y9 (top 167) 2
noncomputable abbrev Q0:Stmt:=y9 (top 167) 3
noncomputable abbrev zbv:Stmt:=top 168
noncomputable abbrev Js:Stmt:=top 169
noncomputable abbrev zeU:Stmt:=top 170
theorem zhd:zn ["text","sign"] ["text"] (zk zkb):=⟨rfl,rfl,rfl,by decide +kernel,rfl,by decide +kernel,by decide +kernel⟩
theorem zlv:zn ["code"] ["code"] (zk zeP):=⟨rfl,rfl,rfl,by decide +kernel,rfl,by decide +kernel,by decide +kernel⟩
theorem zj7:zn ["code"] ["code"] (zk zcY):=⟨rfl,rfl,rfl,by decide +kernel,rfl,by decide +kernel,by decide +kernel⟩
theorem zj6:zn ["code"] ["code"] (zk zcX):=⟨rfl,rfl,rfl,by decide +kernel,rfl,by decide +kernel,by decide +kernel⟩
theorem J8:zn ["code"] ["code"] (zk Zz):=⟨rfl,rfl,rfl,by decide +kernel,rfl,by decide +kernel,by decide +kernel⟩
theorem zg7:zn ["row","code"] ["row"] (zk zj9):=⟨rfl,rfl,rfl,by decide +kernel,rfl,by decide +kernel,by decide +kernel⟩
theorem zmG:zn ["row","text"] ["row","text"] (zk zho):=⟨rfl,rfl,rfl,by decide +kernel,rfl,by decide +kernel,by decide +kernel⟩
theorem J9:zn ["row","most","code"] ["row","most"] (zk zbs):=⟨rfl,rfl,rfl,by decide +kernel,rfl,by decide +kernel,by decide +kernel⟩
theorem zb4:zn ["row","most_digits"] ["row","most_digits"] (zk Yn):=⟨rfl,rfl,rfl,by decide +kernel,rfl,by decide +kernel,by decide +kernel⟩
theorem QD:zn ["row","number","code"] ["row"] (zk zbo):=⟨rfl,rfl,rfl,by decide +kernel,rfl,by decide +kernel,by decide +kernel⟩
theorem zcQ:zn ["row","code"] ["row"] (zk zeO):=⟨rfl,rfl,rfl,by decide +kernel,rfl,by decide +kernel,by decide +kernel⟩
theorem J7:zn ["row","code"] ["row"] (zk zbr):=⟨rfl,rfl,rfl,by decide +kernel,rfl,by decide +kernel,by decide +kernel⟩
theorem zeF:zn ["row","code","at"] ["row","code"] (zk zcU):=⟨rfl,rfl,rfl,by decide +kernel,rfl,by decide +kernel,by decide +kernel⟩
theorem Qb:zn ["row","divider","parts","part","code"] ["row","divider"] (zk zcT):=⟨rfl,rfl,rfl,by decide +kernel,rfl,by decide +kernel,by decide +kernel⟩
theorem Zj:zn ["row","end"] ["row"] (zk Zx):=⟨rfl,rfl,rfl,by decide +kernel,rfl,by decide +kernel,by decide +kernel⟩
theorem Ye:zn ["row","start"] ["row"] (zk YO):=⟨rfl,rfl,rfl,by decide +kernel,rfl,by decide +kernel,by decide +kernel⟩
theorem J6:zn ["lines","row","line"] ["lines"] (zk zbq):=⟨rfl,rfl,rfl,by decide +kernel,rfl,by decide +kernel,by decide +kernel⟩
theorem zbZ:zn ["row","total","code"] ["row"] (zk zhl):=⟨rfl,rfl,rfl,by decide +kernel,rfl,by decide +kernel,by decide +kernel⟩
theorem zaQ:zn ["row","total","shift"] ["row"] (zk zeL):=⟨rfl,rfl,rfl,by decide +kernel,rfl,by decide +kernel,by decide +kernel⟩
theorem zdZ:zn ["self","host","port"] ["self","host","port"] (zk Qm):=⟨rfl,rfl,rfl,by decide +kernel,rfl,by decide +kernel,by decide +kernel⟩
theorem zfZ:zn ["self","row","word","endpoint"] ["self","row","word","endpoint"] (zk Ju):=⟨rfl,rfl,rfl,by decide +kernel,rfl,by decide +kernel,by decide +kernel⟩
theorem ZV:zn ["row","parts","address","part"] ["row"] (zk zao):=⟨rfl,rfl,rfl,by decide +kernel,rfl,by decide +kernel,by decide +kernel⟩
theorem zcR:zn ["row","code"] ["row"] (zk zeR):=⟨rfl,rfl,rfl,by decide +kernel,rfl,by decide +kernel,by decide +kernel⟩
theorem zlw:zn ["number"] ["number"] (zk zeQ):=⟨rfl,rfl,rfl,by decide +kernel,rfl,by decide +kernel,by decide +kernel⟩
theorem Yw:zn ["row","at","host","port"] ["row"] (zk Jr):=⟨rfl,rfl,rfl,by decide +kernel,rfl,by decide +kernel,by decide +kernel⟩
theorem zlu:zn ["row"] ["row"] (zk zeM):=⟨rfl,rfl,rfl,by decide +kernel,rfl,by decide +kernel,by decide +kernel⟩
theorem YC:zn ["row","rest","at","word","endpoint"] ["row"] (zk zbl):=⟨rfl,rfl,rfl,by decide +kernel,rfl,by decide +kernel,by decide +kernel⟩
theorem QO:zn ["address","shift"] ["address"] (zk Jt):=⟨rfl,rfl,rfl,by decide +kernel,rfl,by decide +kernel,by decide +kernel⟩
theorem zeG:zn ["address","port"] ["address","port"] (zk QU):=⟨rfl,rfl,rfl,by decide +kernel,rfl,by decide +kernel,by decide +kernel⟩
theorem zbY:zn ["word","address","port","user"] ["word","address","port"] (zk zab):=⟨rfl,rfl,rfl,by decide +kernel,rfl,by decide +kernel,by decide +kernel⟩
theorem zcS:zn ["self","name","value"] ["self","name","value"] (zk YV):=⟨rfl,rfl,rfl,by decide +kernel,rfl,by decide +kernel,by decide +kernel⟩
theorem zj8:zn ["self","endpoint","parameters","branch"] ["self","endpoint","parameters","branch"] (zk zc1):=⟨rfl,rfl,rfl,by decide +kernel,rfl,by decide +kernel,by decide +kernel⟩
theorem zhf:zn ["self","target","parameters"] ["self","target","parameters"] (zk zaq):=⟨rfl,rfl,rfl,by decide +kernel,rfl,by decide +kernel,by decide +kernel⟩
theorem ZT:zn ["row","at","name","value"] ["row"] (zk QS):=⟨rfl,rfl,rfl,by decide +kernel,rfl,by decide +kernel,by decide +kernel⟩
theorem yO:zn ["row","barred","code"] ["row"] (zk Zy):=⟨rfl,rfl,rfl,by decide +kernel,rfl,by decide +kernel,by decide +kernel⟩
theorem ZI:zn ["row","parts","parameters","part"] ["row"] (zk Qi):=⟨rfl,rfl,rfl,by decide +kernel,rfl,by decide +kernel,by decide +kernel⟩
theorem Qa:zn ["parameters","name","parameter"] ["parameters","name"] (zk QP):=⟨rfl,rfl,rfl,by decide +kernel,rfl,by decide +kernel,by decide +kernel⟩
theorem Q8:zn ["row","rest","end","endpoint","parameters","branches"] ["row"] (zk zhk):=⟨rfl,rfl,rfl,by decide +kernel,rfl,by decide +kernel,by decide +kernel⟩
theorem Qe:zn ["row","start","end","target","parameters"] ["row"] (zk zcV):=⟨rfl,rfl,rfl,by decide +kernel,rfl,by decide +kernel,by decide +kernel⟩
theorem zhc:zn ["row"] ["row"] (zk zam):=⟨rfl,rfl,rfl,by decide +kernel,rfl,by decide +kernel,by decide +kernel⟩
theorem zhh:zn ["self","line","method","target"] ["self","line","method","target"] (zk zat):=⟨rfl,rfl,rfl,by decide +kernel,rfl,by decide +kernel,by decide +kernel⟩
theorem zf0:zn ["self","kind","line","value"] ["self","kind","line","value"] (zk Jv):=⟨rfl,rfl,rfl,by decide +kernel,rfl,by decide +kernel,by decide +kernel⟩
theorem Zk:zn ["self","first","headers","body","value"] ["self","first","headers","body"] (zk QZ):=⟨rfl,rfl,rfl,by decide +kernel,rfl,by decide +kernel,by decide +kernel⟩
theorem Zr:zn ["row","lines","first","headers","message","line"] ["row"] (zk zaf):=⟨rfl,rfl,rfl,by decide +kernel,rfl,by decide +kernel,by decide +kernel⟩
theorem Zs:zn ["row","lines","start","end"] ["row"] (zk zaj):=⟨rfl,rfl,rfl,by decide +kernel,rfl,by decide +kernel,by decide +kernel⟩
theorem zbg:zn ["row","start","at"] ["row","start"] (zk zcW):=⟨rfl,rfl,rfl,by decide +kernel,rfl,by decide +kernel,by decide +kernel⟩
theorem zaa:zn ["lines","line"] ["lines"] (zk zbu):=⟨rfl,rfl,rfl,by decide +kernel,rfl,by decide +kernel,by decide +kernel⟩
theorem zbi:zn ["line","parts","target"] ["line"] (zk zc0):=⟨rfl,rfl,rfl,by decide +kernel,rfl,by decide +kernel,by decide +kernel⟩
theorem Yg:zn ["line","start","digits"] ["line"] (zk YR):=⟨rfl,rfl,rfl,by decide +kernel,rfl,by decide +kernel,by decide +kernel⟩
theorem YE:zn ["line","end","name","code"] ["line"] (zk zbt):=⟨rfl,rfl,rfl,by decide +kernel,rfl,by decide +kernel,by decide +kernel⟩
theorem zgq:zn ["name","kind"] ["name"] (zk zeN):=⟨rfl,rfl,rfl,by decide +kernel,rfl,by decide +kernel,by decide +kernel⟩
theorem J3:zn ["headers","kind","header"] ["headers","kind"] (zk zbk):=⟨rfl,rfl,rfl,by decide +kernel,rfl,by decide +kernel,by decide +kernel⟩
theorem zb2:zn ["headers","kind","values"] ["headers","kind"] (zk zad):=⟨rfl,rfl,rfl,by decide +kernel,rfl,by decide +kernel,by decide +kernel⟩
theorem zha:zn ["message"] ["message"] (zk zah):=⟨rfl,rfl,rfl,by decide +kernel,rfl,by decide +kernel,by decide +kernel⟩
theorem zmF:zn ["message"] ["message"] (zk zhm):=⟨rfl,rfl,rfl,by decide +kernel,rfl,by decide +kernel,by decide +kernel⟩
theorem zhb:zn ["row"] ["row"] (zk zai):=⟨rfl,rfl,rfl,by decide +kernel,rfl,by decide +kernel,by decide +kernel⟩
theorem za1:zn ["row","request_method","parts"] ["row","request_method"] (zk Jp):=⟨rfl,rfl,rfl,by decide +kernel,rfl,by decide +kernel,by decide +kernel⟩
theorem zlx:zn ["row"] ["row"] (zk zeS):=⟨rfl,rfl,rfl,by decide +kernel,rfl,by decide +kernel,by decide +kernel⟩
theorem Ja:zn ["message","values"] ["message"] (zk YS):=⟨rfl,rfl,rfl,by decide +kernel,rfl,by decide +kernel,by decide +kernel⟩
theorem QE:zn ["message","values"] ["message"] (zk Yo):=⟨rfl,rfl,rfl,by decide +kernel,rfl,by decide +kernel,by decide +kernel⟩
theorem zb0:zn ["message"] ["message"] (zk Yj):=⟨rfl,rfl,rfl,by decide +kernel,rfl,by decide +kernel,by decide +kernel⟩
theorem zly:zn ["request"] ["request"] (zk zeT):=⟨rfl,rfl,rfl,by decide +kernel,rfl,by decide +kernel,by decide +kernel⟩
theorem zb5:zn ["message","value"] ["message"] (zk zak):=⟨rfl,rfl,rfl,by decide +kernel,rfl,by decide +kernel,by decide +kernel⟩
theorem zhi:zn ["self","whom","place","until","call_id","number"] ["self","whom","place","until","call_id","number"] (zk zau):=⟨rfl,rfl,rfl,by decide +kernel,rfl,by decide +kernel,by decide +kernel⟩
theorem zhe:zn ["self","word","address","port"] ["self","word","address","port"] (zk zap):=⟨rfl,rfl,rfl,by decide +kernel,rfl,by decide +kernel,by decide +kernel⟩
theorem zaY:zn ["self","status","entries"] ["self","status","entries"] (zk ZK):=⟨rfl,rfl,rfl,by decide +kernel,rfl,by decide +kernel,by decide +kernel⟩
theorem YN:zn ["entries","now","entry"] ["entries","now"] (zk Qk):=⟨rfl,rfl,rfl,by decide +kernel,rfl,by decide +kernel,by decide +kernel⟩
theorem Jo:zn ["entries","whom","entry"] ["entries","whom"] (zk zal):=⟨rfl,rfl,rfl,by decide +kernel,rfl,by decide +kernel,by decide +kernel⟩
theorem zg9:zn ["entries"] ["entries"] (zk zag):=⟨rfl,rfl,rfl,by decide +kernel,rfl,by decide +kernel,by decide +kernel⟩
theorem ziL:zn ["place"] ["place"] (zk zbn):=⟨rfl,rfl,rfl,by decide +kernel,rfl,by decide +kernel,by decide +kernel⟩
theorem zdY:zn ["place","other"] ["place","other"] (zk Qj):=⟨rfl,rfl,rfl,by decide +kernel,rfl,by decide +kernel,by decide +kernel⟩
theorem J4:zn ["house","request","now","entries","changed"] ["house","request","now","entries"] (zk QQ):=⟨rfl,rfl,rfl,by decide +kernel,rfl,by decide +kernel,by decide +kernel⟩
theorem ziN:zn ["house","request","entries","target"] ["house","request","entries"] (zk zhn):=⟨rfl,rfl,rfl,by decide +kernel,rfl,by decide +kernel,by decide +kernel⟩
theorem ZJ:zn ["request","contact"] ["request"] (zk ZX):=⟨rfl,rfl,rfl,by decide +kernel,rfl,by decide +kernel,by decide +kernel⟩
theorem zbh:zn ["request","contact"] ["request"] (zk zcZ):=⟨rfl,rfl,rfl,by decide +kernel,rfl,by decide +kernel,by decide +kernel⟩
theorem zfX:zn ["request"] ["request"] (zk Jq):=⟨rfl,rfl,rfl,by decide +kernel,rfl,by decide +kernel,by decide +kernel⟩
theorem Zt:zn ["request","entries","number","entry"] ["request","entries"] (zk YT):=⟨rfl,rfl,rfl,by decide +kernel,rfl,by decide +kernel,by decide +kernel⟩
theorem zP:zn ["request","now","entries","whom","changed","contact","place","span","until","entry"] ["request","now","entries"] (zk Yp):=⟨rfl,rfl,rfl,by decide +kernel,rfl,by decide +kernel,by decide +kernel⟩
theorem JO:zn ["contact","endpoint"] ["contact"] (zk Ql):=⟨rfl,rfl,rfl,by decide +kernel,rfl,by decide +kernel,by decide +kernel⟩
theorem Qg:zn ["contact","request","value","expires"] ["contact","request"] (zk QV):=⟨rfl,rfl,rfl,by decide +kernel,rfl,by decide +kernel,by decide +kernel⟩
theorem zeH:zn ["entry","now"] ["entry","now"] (zk QW):=⟨rfl,rfl,rfl,by decide +kernel,rfl,by decide +kernel,by decide +kernel⟩
theorem ziM:zn ["entry","now"] ["entry","now"] (zk zbp):=⟨rfl,rfl,rfl,by decide +kernel,rfl,by decide +kernel,by decide +kernel⟩
theorem zeE:zn ["via","source"] ["via","source"] (zk QR):=⟨rfl,rfl,rfl,by decide +kernel,rfl,by decide +kernel,by decide +kernel⟩
theorem zdB:zn ["house","request","source","status","contact_lines","lines"] ["house","request","source","status","contact_lines"] (zk zbm):=⟨rfl,rfl,rfl,by decide +kernel,rfl,by decide +kernel,by decide +kernel⟩
theorem J2:zn ["request","source","lines","value"] ["request","source"] (zk zbj):=⟨rfl,rfl,rfl,by decide +kernel,rfl,by decide +kernel,by decide +kernel⟩
theorem zlt:zn ["house","request"] ["house","request"] (zk zeK):=⟨rfl,rfl,rfl,by decide +kernel,rfl,by decide +kernel,by decide +kernel⟩
theorem zeI:zn ["self","row","address","port"] ["self","row","address","port"] (zk QX):=⟨rfl,rfl,rfl,by decide +kernel,rfl,by decide +kernel,by decide +kernel⟩
theorem zeJ:zn ["self","sending","entries"] ["self","sending","entries"] (zk QY):=⟨rfl,rfl,rfl,by decide +kernel,rfl,by decide +kernel,by decide +kernel⟩
theorem zg8:zn [] [] (zk zae):=⟨rfl,rfl,rfl,by decide +kernel,rfl,by decide +kernel,by decide +kernel⟩
theorem zb3:zn ["house","message","source","now"] ["house","message","source","now"] (zk Ym):=⟨rfl,rfl,rfl,by decide +kernel,rfl,by decide +kernel,by decide +kernel⟩
theorem ZS:zn ["house","request","source","now","entries","result"] ["house","request","source","now"] (zk Yl):=⟨rfl,rfl,rfl,by decide +kernel,rfl,by decide +kernel,by decide +kernel⟩
theorem YD:zn ["house","request","target"] ["house","request"] (zk ZA):=⟨rfl,rfl,rfl,by decide +kernel,rfl,by decide +kernel,by decide +kernel⟩
theorem yh:zn ["house","request","source","now","result","lines","entries","entry"] ["house","request","source","now","result"] (zk Zd):=⟨rfl,rfl,rfl,by decide +kernel,rfl,by decide +kernel,by decide +kernel⟩
theorem Zf:zn ["house","request","source","entries","target","endpoint","status"] ["house","request","source","entries"] (zk Yk):=⟨rfl,rfl,rfl,by decide +kernel,rfl,by decide +kernel,by decide +kernel⟩
theorem Qc:zn ["house","request","source","entries","place"] ["house","request","source","entries"] (zk ZW):=⟨rfl,rfl,rfl,by decide +kernel,rfl,by decide +kernel,by decide +kernel⟩
theorem zkR:zn ["house","request","source","status","contact_lines","row"] ["house","request","source","status","contact_lines"] (zk zka):=⟨rfl,rfl,rfl,by decide +kernel,rfl,by decide +kernel,by decide +kernel⟩
theorem zb1:zn ["house","request","source","target","lines"] ["house","request","source","target"] (zk zac):=⟨rfl,rfl,rfl,by decide +kernel,rfl,by decide +kernel,by decide +kernel⟩
theorem J5:zn ["house","request","branch"] ["house","request"] (zk QT):=⟨rfl,rfl,rfl,by decide +kernel,rfl,by decide +kernel,by decide +kernel⟩
theorem ym:zn ["request","source","received","lines","header"] ["request","source"] (zk Zl):=⟨rfl,rfl,rfl,by decide +kernel,rfl,by decide +kernel,by decide +kernel⟩
theorem Yi:zn ["house","answer","first","address"] ["house","answer"] (zk YU):=⟨rfl,rfl,rfl,by decide +kernel,rfl,by decide +kernel,by decide +kernel⟩
theorem Q9:zn ["via","value"] ["via"] (zk YQ):=⟨rfl,rfl,rfl,by decide +kernel,rfl,by decide +kernel,by decide +kernel⟩
theorem ZU:zn ["answer","kinds","lines","header"] ["answer"] (zk zan):=⟨rfl,rfl,rfl,by decide +kernel,rfl,by decide +kernel,by decide +kernel⟩
theorem zhg:zn ["self","name","address","port"] ["self","name","address","port"] (zk zas):=⟨rfl,rfl,rfl,by decide +kernel,rfl,by decide +kernel,by decide +kernel⟩
theorem zb6:zn ["self","target","endpoint"] ["self","target"] (zk zar):=⟨rfl,rfl,rfl,by decide +kernel,rfl,by decide +kernel,by decide +kernel⟩
theorem ziP:zn ["self"] ["self"] (zk zbw):=⟨rfl,rfl,rfl,by decide +kernel,rfl,by decide +kernel,by decide +kernel⟩
theorem zhj:zn ["self","address","port","name"] ["self","address","port","name"] (zk zav):=⟨rfl,rfl,rfl,by decide +kernel,rfl,by decide +kernel,by decide +kernel⟩
theorem ZE:zn ["self","source","source_port","now","most","row","house","message","outcome","sending"] ["self","source","source_port","now","most","row"] (zk Jw):=⟨rfl,rfl,rfl,by decide +kernel,rfl,by decide +kernel,by decide +kernel⟩
theorem Qh:zn ["self","now","most","row","entry"] ["self","now","most"] (zk Q0):=⟨rfl,rfl,rfl,by decide +kernel,rfl,by decide +kernel,by decide +kernel⟩
theorem ziO:zn ["calls","at"] ["calls","at"] (zk zbv):=⟨rfl,rfl,rfl,by decide +kernel,rfl,by decide +kernel,by decide +kernel⟩
theorem zfY:zn ["desk","call"] ["desk","call"] (zk Js):=⟨rfl,rfl,rfl,by decide +kernel,rfl,by decide +kernel,by decide +kernel⟩
theorem Yh:zn ["calls","desk","given","at","size","answer"] ["calls"] (zk zeU):=⟨rfl,rfl,rfl,by decide +kernel,rfl,by decide +kernel,by decide +kernel⟩
theorem bl1 {α:Type}:∀{us:List α},us.length=1→∃a0,us=[a0]
 | [a0],_=>⟨a0,rfl⟩
theorem bl2 {α:Type}:∀{us:List α},us.length=2→∃a0 a1,us=[a0,a1]
 | [a0,a1],_=>⟨a0,a1,rfl⟩
theorem bl3 {α:Type}:∀{us:List α},us.length=3→∃a0 a1 a2,us=[a0,a1,a2]
 | [a0,a1,a2],_=>⟨a0,a1,a2,rfl⟩
theorem bl4 {α:Type}:∀{us:List α},us.length=4→∃a0 a1 a2 a3,us=[a0,a1,a2,a3]
 | [a0,a1,a2,a3],_=>⟨a0,a1,a2,a3,rfl⟩
theorem bl5 {α:Type}:∀{us:List α},us.length=5→∃a0 a1 a2 a3 a4,us=[a0,a1,a2,a3,a4]
 | [a0,a1,a2,a3,a4],_=>⟨a0,a1,a2,a3,a4,rfl⟩
theorem bl6 {α:Type}:∀{us:List α},us.length=6→∃a0 a1 a2 a3 a4 a5,us=[a0,a1,a2,a3,a4,a5]
 | [a0,a1,a2,a3,a4,a5],_=>⟨a0,a1,a2,a3,a4,a5,rfl⟩
theorem zoU:zo "codes" "codes" zkb ["text"]:=fun _ _ _ _ _ _ us hl=>by obtain ⟨_,rfl⟩:=bl1 hl;rfl
theorem zmd:zo "is_sign" "is_sign" zeP ["code"]:=fun _ _ _ _ _ _ us hl=>by obtain ⟨_,rfl⟩:=bl1 hl;rfl
theorem zkD:zo "is_digit" "is_digit" zcY ["code"]:=fun _ _ _ _ _ _ us hl=>by obtain ⟨_,rfl⟩:=bl1 hl;rfl
theorem zkC:zo "is_great" "is_great" zcX ["code"]:=fun _ _ _ _ _ _ us hl=>by obtain ⟨_,rfl⟩:=bl1 hl;rfl
theorem zaN:zo "is_letter_or_digit" "is_letter_or_digit" Zz ["code"]:=fun _ _ _ _ _ _ us hl=>by obtain ⟨_,rfl⟩:=bl1 hl;rfl
theorem zoS:zo "small" "small" zj9 ["row"]:=fun _ _ _ _ _ _ us hl=>by obtain ⟨_,rfl⟩:=bl1 hl;rfl
theorem znO:zo "begins" "begins" zho ["row","text"]:=fun _ _ _ _ _ _ us hl=>by obtain ⟨_,_,rfl⟩:=bl2 hl;rfl
theorem zjG:zo "is_digits" "is_digits" zbs ["row","most"]:=fun _ _ _ _ _ _ us hl=>by obtain ⟨_,_,rfl⟩:=bl2 hl;rfl
theorem zcB:zo "is_plain_number" "is_plain_number" Yn ["row","most_digits"]:=fun _ _ _ _ _ _ us hl=>by obtain ⟨_,_,rfl⟩:=bl2 hl;rfl
theorem zjC:zo "number_of" "number_of" zbo ["row"]:=fun _ _ _ _ _ _ us hl=>by obtain ⟨_,rfl⟩:=bl1 hl;rfl
theorem zmc:zo "is_word" "is_word" zeO ["row"]:=fun _ _ _ _ _ _ us hl=>by obtain ⟨_,rfl⟩:=bl1 hl;rfl
theorem zjF:zo "is_method" "is_method" zbr ["row"]:=fun _ _ _ _ _ _ us hl=>by obtain ⟨_,rfl⟩:=bl1 hl;rfl
theorem zkz:zo "place_of" "place_of" zcU ["row","code"]:=fun _ _ _ _ _ _ us hl=>by obtain ⟨_,_,rfl⟩:=bl2 hl;rfl
theorem zky:zo "split_at" "split_at" zcT ["row","divider"]:=fun _ _ _ _ _ _ us hl=>by obtain ⟨_,_,rfl⟩:=bl2 hl;rfl
theorem zaL:zo "without_end_blanks" "without_end_blanks" Zx ["row"]:=fun _ _ _ _ _ _ us hl=>by obtain ⟨_,rfl⟩:=bl1 hl;rfl
theorem zdr:zo "without_blanks" "without_blanks" YO ["row"]:=fun _ _ _ _ _ _ us hl=>by obtain ⟨_,rfl⟩:=bl1 hl;rfl
theorem zjE:zo "lines_row" "lines_row" zbq ["lines"]:=fun _ _ _ _ _ _ us hl=>by obtain ⟨_,rfl⟩:=bl1 hl;rfl
theorem znL:zo "sum_of" "sum_of" zhl ["row"]:=fun _ _ _ _ _ _ us hl=>by obtain ⟨_,rfl⟩:=bl1 hl;rfl
theorem zl9:zo "sum_row" "sum_row" zeL ["row"]:=fun _ _ _ _ _ _ us hl=>by obtain ⟨_,rfl⟩:=bl1 hl;rfl
theorem zec:zo "__init__" "Endpoint.__init__" Qm ["self","host","port"]:=fun _ _ _ _ _ _ us hl=>by obtain ⟨_,_,_,rfl⟩:=bl3 hl;rfl
theorem zgk:zo "__init__" "Target.__init__" Ju ["self","row","word","endpoint"]:=fun _ _ _ _ _ _ us hl=>by obtain ⟨_,_,_,_,rfl⟩:=bl4 hl;rfl
theorem zh1:zo "address_of" "address_of" zao ["row"]:=fun _ _ _ _ _ _ us hl=>by obtain ⟨_,rfl⟩:=bl1 hl;rfl
theorem zmf:zo "is_name" "is_name" zeR ["row"]:=fun _ _ _ _ _ _ us hl=>by obtain ⟨_,rfl⟩:=bl1 hl;rfl
theorem zme:zo "is_port" "is_port" zeQ ["number"]:=fun _ _ _ _ _ _ us hl=>by obtain ⟨_,rfl⟩:=bl1 hl;rfl
theorem zgh:zo "endpoint_of" "endpoint_of" Jr ["row"]:=fun _ _ _ _ _ _ us hl=>by obtain ⟨_,rfl⟩:=bl1 hl;rfl
theorem zma:zo "port_of" "port_of" zeM ["row"]:=fun _ _ _ _ _ _ us hl=>by obtain ⟨_,rfl⟩:=bl1 hl;rfl
theorem zjz:zo "target_of" "target_of" zbl ["row"]:=fun _ _ _ _ _ _ us hl=>by obtain ⟨_,rfl⟩:=bl1 hl;rfl
theorem zgj:zo "address_row" "address_row" Jt ["address"]:=fun _ _ _ _ _ _ us hl=>by obtain ⟨_,rfl⟩:=bl1 hl;rfl
theorem zfz:zo "endpoint_row" "endpoint_row" QU ["address","port"]:=fun _ _ _ _ _ _ us hl=>by obtain ⟨_,_,rfl⟩:=bl2 hl;rfl
theorem zhO:zo "target_row" "target_row" zab ["word","address","port"]:=fun _ _ _ _ _ _ us hl=>by obtain ⟨_,_,_,rfl⟩:=bl3 hl;rfl
theorem zdy:zo "__init__" "Parameter.__init__" YV ["self","name","value"]:=fun _ _ _ _ _ _ us hl=>by obtain ⟨_,_,_,rfl⟩:=bl3 hl;rfl
theorem zkG:zo "__init__" "Via.__init__" zc1 ["self","endpoint","parameters","branch"]:=fun _ _ _ _ _ _ us hl=>by obtain ⟨_,_,_,_,rfl⟩:=bl4 hl;rfl
theorem zh3:zo "__init__" "Party.__init__" zaq ["self","target","parameters"]:=fun _ _ _ _ _ _ us hl=>by obtain ⟨_,_,_,rfl⟩:=bl3 hl;rfl
theorem zfx:zo "parameter_of" "parameter_of" QS ["row"]:=fun _ _ _ _ _ _ us hl=>by obtain ⟨_,rfl⟩:=bl1 hl;rfl
theorem zaM:zo "is_parameter_value" "is_parameter_value" Zy ["row"]:=fun _ _ _ _ _ _ us hl=>by obtain ⟨_,rfl⟩:=bl1 hl;rfl
theorem zd8:zo "parameters_of" "parameters_of" Qi ["row"]:=fun _ _ _ _ _ _ us hl=>by obtain ⟨_,rfl⟩:=bl1 hl;rfl
theorem zfu:zo "values_named" "values_named" QP ["parameters","name"]:=fun _ _ _ _ _ _ us hl=>by obtain ⟨_,_,rfl⟩:=bl2 hl;rfl
theorem znK:zo "via_of" "via_of" zhk ["row"]:=fun _ _ _ _ _ _ us hl=>by obtain ⟨_,rfl⟩:=bl1 hl;rfl
theorem zkA:zo "party_of" "party_of" zcV ["row"]:=fun _ _ _ _ _ _ us hl=>by obtain ⟨_,rfl⟩:=bl1 hl;rfl
theorem zhZ:zo "contact_of" "contact_of" zam ["row"]:=fun _ _ _ _ _ _ us hl=>by obtain ⟨_,rfl⟩:=bl1 hl;rfl
theorem zh6:zo "__init__" "First.__init__" zat ["self","line","method","target"]:=fun _ _ _ _ _ _ us hl=>by obtain ⟨_,_,_,_,rfl⟩:=bl4 hl;rfl
theorem zgl:zo "__init__" "Header.__init__" Jv ["self","kind","line","value"]:=fun _ _ _ _ _ _ us hl=>by obtain ⟨_,_,_,_,rfl⟩:=bl4 hl;rfl
theorem zfE:zo "__init__" "Message.__init__" QZ ["self","first","headers","body"]:=fun _ _ _ _ _ _ us hl=>by obtain ⟨_,_,_,_,rfl⟩:=bl4 hl;rfl
theorem zhS:zo "message_of" "message_of" zaf ["row"]:=fun _ _ _ _ _ _ us hl=>by obtain ⟨_,rfl⟩:=bl1 hl;rfl
theorem zhW:zo "head_lines" "head_lines" zaj ["row"]:=fun _ _ _ _ _ _ us hl=>by obtain ⟨_,rfl⟩:=bl1 hl;rfl
theorem zkB:zo "line_end" "line_end" zcW ["row","start"]:=fun _ _ _ _ _ _ us hl=>by obtain ⟨_,_,rfl⟩:=bl2 hl;rfl
theorem zjI:zo "head_size" "head_size" zbu ["lines"]:=fun _ _ _ _ _ _ us hl=>by obtain ⟨_,rfl⟩:=bl1 hl;rfl
theorem zkF:zo "first_of" "first_of" zc0 ["line"]:=fun _ _ _ _ _ _ us hl=>by obtain ⟨_,rfl⟩:=bl1 hl;rfl
theorem zdt:zo "is_answer_line" "is_answer_line" YR ["line"]:=fun _ _ _ _ _ _ us hl=>by obtain ⟨_,rfl⟩:=bl1 hl;rfl
theorem zjH:zo "header_of" "header_of" zbt ["line"]:=fun _ _ _ _ _ _ us hl=>by obtain ⟨_,rfl⟩:=bl1 hl;rfl
theorem zmb:zo "kind_of" "kind_of" zeN ["name"]:=fun _ _ _ _ _ _ us hl=>by obtain ⟨_,rfl⟩:=bl1 hl;rfl
theorem zjy:zo "values_of" "values_of" zbk ["headers","kind"]:=fun _ _ _ _ _ _ us hl=>by obtain ⟨_,_,rfl⟩:=bl2 hl;rfl
theorem zhQ:zo "only_value" "only_value" zad ["headers","kind"]:=fun _ _ _ _ _ _ us hl=>by obtain ⟨_,_,rfl⟩:=bl2 hl;rfl
theorem zhU:zo "is_request" "is_request" zah ["message"]:=fun _ _ _ _ _ _ us hl=>by obtain ⟨_,rfl⟩:=bl1 hl;rfl
theorem znM:zo "is_fit" "is_fit" zhm ["message"]:=fun _ _ _ _ _ _ us hl=>by obtain ⟨_,rfl⟩:=bl1 hl;rfl
theorem zhV:zo "is_call_id" "is_call_id" zai ["row"]:=fun _ _ _ _ _ _ us hl=>by obtain ⟨_,rfl⟩:=bl1 hl;rfl
theorem zgf:zo "is_sequence" "is_sequence" Jp ["row","request_method"]:=fun _ _ _ _ _ _ us hl=>by obtain ⟨_,_,rfl⟩:=bl2 hl;rfl
theorem zmg:zo "is_hops" "is_hops" zeS ["row"]:=fun _ _ _ _ _ _ us hl=>by obtain ⟨_,rfl⟩:=bl1 hl;rfl
theorem zdu:zo "has_fit_length" "has_fit_length" YS ["message"]:=fun _ _ _ _ _ _ us hl=>by obtain ⟨_,rfl⟩:=bl1 hl;rfl
theorem zcC:zo "has_fit_expires" "has_fit_expires" Yo ["message"]:=fun _ _ _ _ _ _ us hl=>by obtain ⟨_,rfl⟩:=bl1 hl;rfl
theorem zcx:zo "sequence_number" "sequence_number" Yj ["message"]:=fun _ _ _ _ _ _ us hl=>by obtain ⟨_,rfl⟩:=bl1 hl;rfl
theorem zmh:zo "hops_of" "hops_of" zeT ["request"]:=fun _ _ _ _ _ _ us hl=>by obtain ⟨_,rfl⟩:=bl1 hl;rfl
theorem zhX:zo "expires_of" "expires_of" zak ["message"]:=fun _ _ _ _ _ _ us hl=>by obtain ⟨_,rfl⟩:=bl1 hl;rfl
theorem zh7:zo "__init__" "Entry.__init__" zau ["self","whom","place","until","call_id","number"]:=fun _ _ _ _ _ _ us hl=>by obtain ⟨_,_,_,_,_,_,rfl⟩:=bl6 hl;rfl
theorem zh2:zo "__init__" "Place.__init__" zap ["self","word","address","port"]:=fun _ _ _ _ _ _ us hl=>by obtain ⟨_,_,_,_,rfl⟩:=bl4 hl;rfl
theorem zaZ:zo "__init__" "Registration.__init__" ZK ["self","status","entries"]:=fun _ _ _ _ _ _ us hl=>by obtain ⟨_,_,_,rfl⟩:=bl3 hl;rfl
theorem zea:zo "entries_there" "entries_there" Qk ["entries","now"]:=fun _ _ _ _ _ _ us hl=>by obtain ⟨_,_,rfl⟩:=bl2 hl;rfl
theorem zhY:zo "entries_of" "entries_of" zal ["entries","whom"]:=fun _ _ _ _ _ _ us hl=>by obtain ⟨_,_,rfl⟩:=bl2 hl;rfl
theorem zhT:zo "last_first" "last_first" zag ["entries"]:=fun _ _ _ _ _ _ us hl=>by obtain ⟨_,rfl⟩:=bl1 hl;rfl
theorem zjB:zo "place_row" "place_row" zbn ["place"]:=fun _ _ _ _ _ _ us hl=>by obtain ⟨_,rfl⟩:=bl1 hl;rfl
theorem zd9:zo "is_same_place" "is_same_place" Qj ["place","other"]:=fun _ _ _ _ _ _ us hl=>by obtain ⟨_,_,rfl⟩:=bl2 hl;rfl
theorem zfv:zo "registration" "registration" QQ ["house","request","now","entries"]:=fun _ _ _ _ _ _ us hl=>by obtain ⟨_,_,_,_,rfl⟩:=bl4 hl;rfl
theorem znN:zo "is_bad" "is_bad" zhn ["house","request","entries"]:=fun _ _ _ _ _ _ us hl=>by obtain ⟨_,_,_,rfl⟩:=bl3 hl;rfl
theorem zbN:zo "has_fit_contacts" "has_fit_contacts" ZX ["request"]:=fun _ _ _ _ _ _ us hl=>by obtain ⟨_,rfl⟩:=bl1 hl;rfl
theorem zkE:zo "has_star" "has_star" zcZ ["request"]:=fun _ _ _ _ _ _ us hl=>by obtain ⟨_,rfl⟩:=bl1 hl;rfl
theorem zgg:zo "is_clearing" "is_clearing" Jq ["request"]:=fun _ _ _ _ _ _ us hl=>by obtain ⟨_,rfl⟩:=bl1 hl;rfl
theorem zdv:zo "comes_too_late" "comes_too_late" YT ["request","entries"]:=fun _ _ _ _ _ _ us hl=>by obtain ⟨_,_,rfl⟩:=bl2 hl;rfl
theorem zcD:zo "changed_entries" "changed_entries" Yp ["request","now","entries"]:=fun _ _ _ _ _ _ us hl=>by obtain ⟨_,_,_,rfl⟩:=bl3 hl;rfl
theorem zeb:zo "contact_place" "contact_place" Ql ["contact"]:=fun _ _ _ _ _ _ us hl=>by obtain ⟨_,rfl⟩:=bl1 hl;rfl
theorem zfA:zo "contact_span" "contact_span" QV ["contact","request"]:=fun _ _ _ _ _ _ us hl=>by obtain ⟨_,_,rfl⟩:=bl2 hl;rfl
theorem zfB:zo "contact_line" "contact_line" QW ["entry","now"]:=fun _ _ _ _ _ _ us hl=>by obtain ⟨_,_,rfl⟩:=bl2 hl;rfl
theorem zjD:zo "list_line" "list_line" zbp ["entry","now"]:=fun _ _ _ _ _ _ us hl=>by obtain ⟨_,_,rfl⟩:=bl2 hl;rfl
theorem zfw:zo "received_row" "received_row" QR ["via","source"]:=fun _ _ _ _ _ _ us hl=>by obtain ⟨_,_,rfl⟩:=bl2 hl;rfl
theorem zjA:zo "reply_row" "reply_row" zbm ["house","request","source","status","contact_lines"]:=fun _ _ _ _ _ _ us hl=>by obtain ⟨_,_,_,_,_,rfl⟩:=bl5 hl;rfl
theorem zjx:zo "via_lines" "via_lines" zbj ["request","source"]:=fun _ _ _ _ _ _ us hl=>by obtain ⟨_,_,rfl⟩:=bl2 hl;rfl
theorem zl8:zo "tag_row" "tag_row" zeK ["house","request"]:=fun _ _ _ _ _ _ us hl=>by obtain ⟨_,_,rfl⟩:=bl2 hl;rfl
theorem zfC:zo "__init__" "Sending.__init__" QX ["self","row","address","port"]:=fun _ _ _ _ _ _ us hl=>by obtain ⟨_,_,_,_,rfl⟩:=bl4 hl;rfl
theorem zfD:zo "__init__" "Outcome.__init__" QY ["self","sending","entries"]:=fun _ _ _ _ _ _ us hl=>by obtain ⟨_,_,_,rfl⟩:=bl3 hl;rfl
theorem zhR:zo "no_sending" "no_sending" zae []:=fun _ _ _ _ _ _ us hl=>match us,hl with | [],_=>rfl
theorem zcA:zo "message_outcome" "message_outcome" Ym ["house","message","source","now"]:=fun _ _ _ _ _ _ us hl=>by obtain ⟨_,_,_,_,rfl⟩:=bl4 hl;rfl
theorem zcz:zo "request_outcome" "request_outcome" Yl ["house","request","source","now"]:=fun _ _ _ _ _ _ us hl=>by obtain ⟨_,_,_,_,rfl⟩:=bl4 hl;rfl
theorem zaO:zo "is_for_house_alone" "is_for_house_alone" ZA ["house","request"]:=fun _ _ _ _ _ _ us hl=>by obtain ⟨_,_,rfl⟩:=bl2 hl;rfl
theorem JN:zo "registration_sending" "registration_sending" Zd ["house","request","source","now","result"]:=fun _ _ _ _ _ _ us hl=>by obtain ⟨_,_,_,_,_,rfl⟩:=bl5 hl;rfl
theorem zcy:zo "request_sending" "request_sending" Yk ["house","request","source","entries"]:=fun _ _ _ _ _ _ us hl=>by obtain ⟨_,_,_,_,rfl⟩:=bl4 hl;rfl
theorem zbM:zo "sending_to_entry" "sending_to_entry" ZW ["house","request","source","entries"]:=fun _ _ _ _ _ _ us hl=>by obtain ⟨_,_,_,_,rfl⟩:=bl4 hl;rfl
theorem zoT:zo "reply" "reply" zka ["house","request","source","status","contact_lines"]:=fun _ _ _ _ _ _ us hl=>by obtain ⟨_,_,_,_,_,rfl⟩:=bl5 hl;rfl
theorem zhP:zo "onward_row" "onward_row" zac ["house","request","source","target"]:=fun _ _ _ _ _ _ us hl=>by obtain ⟨_,_,_,_,rfl⟩:=bl4 hl;rfl
theorem zfy:zo "own_via_line" "own_via_line" QT ["house","request"]:=fun _ _ _ _ _ _ us hl=>by obtain ⟨_,_,rfl⟩:=bl2 hl;rfl
theorem JU:zo "onward_header_lines" "onward_header_lines" Zl ["request","source"]:=fun _ _ _ _ _ _ us hl=>by obtain ⟨_,_,rfl⟩:=bl2 hl;rfl
theorem zdw:zo "answer_sending" "answer_sending" YU ["house","answer"]:=fun _ _ _ _ _ _ us hl=>by obtain ⟨_,_,rfl⟩:=bl2 hl;rfl
theorem zds:zo "return_address" "return_address" YQ ["via"]:=fun _ _ _ _ _ _ us hl=>by obtain ⟨_,rfl⟩:=bl1 hl;rfl
theorem zh0:zo "answer_row" "answer_row" zan ["answer"]:=fun _ _ _ _ _ _ us hl=>by obtain ⟨_,rfl⟩:=bl1 hl;rfl
theorem zh5:zo "__init__" "House.__init__" zas ["self","name","address","port"]:=fun _ _ _ _ _ _ us hl=>by obtain ⟨_,_,_,_,rfl⟩:=bl4 hl;rfl
theorem zh4:zo "owns" "House.owns" zar ["self","target"]:=fun _ _ _ _ _ _ us hl=>by obtain ⟨_,_,rfl⟩:=bl2 hl;rfl
theorem zjK:zo "__init__" "Desk.__init__" zbw ["self"]:=fun _ _ _ _ _ _ us hl=>by obtain ⟨_,rfl⟩:=bl1 hl;rfl
theorem zh8:zo "begin" "Desk.begin" zav ["self","address","port","name"]:=fun _ _ _ _ _ _ us hl=>by obtain ⟨_,_,_,_,rfl⟩:=bl4 hl;rfl
theorem zgm:zo "packet" "Desk.packet" Jw ["self","source","source_port","now","most","row"]:=fun _ _ _ _ _ _ us hl=>by obtain ⟨_,_,_,_,_,_,rfl⟩:=bl6 hl;rfl
theorem zfF:zo "listing" "Desk.listing" Q0 ["self","now","most"]:=fun _ _ _ _ _ _ us hl=>by obtain ⟨_,_,_,rfl⟩:=bl3 hl;rfl
theorem zjJ:zo "call_size" "call_size" zbv ["calls","at"]:=fun _ _ _ _ _ _ us hl=>by obtain ⟨_,_,rfl⟩:=bl2 hl;rfl
theorem zgi:zo "call_answer" "call_answer" Js ["desk","call"]:=fun _ _ _ _ _ _ us hl=>by obtain ⟨_,_,rfl⟩:=bl2 hl;rfl
theorem zmi:zo "answers" "answers" zeU ["calls"]:=fun _ _ _ _ _ _ us hl=>by obtain ⟨_,rfl⟩:=bl1 hl;rfl
structure Cl where
 Endpoint:Addr
 Target:Addr
 Parameter:Addr
 Via:Addr
 Party:Addr
 First:Addr
 Header:Addr
 Message:Addr
 Entry:Addr
 Place:Addr
 Registration:Addr
 Sending:Addr
 Outcome:Addr
 House:Addr
 Desk:Addr
noncomputable def Y8 (v0 v1 v2:V):List (Str × V):=[("host",v0),("address",v1),("port",v2)]
theorem zfi (v0 v1 v2:V):(Y8 v0 v1 v2).lookup ("host":Str)=some v0:=by rfl
theorem yc (v0 v1 v2:V):(Y8 v0 v1 v2).lookup ("address":Str)=some v1:=by rfl
theorem yV (v0 v1 v2:V):(Y8 v0 v1 v2).lookup ("port":Str)=some v2:=by rfl
noncomputable def JJ (v0 v1 v2:V):List (Str × V):=[("row",v0),("word",v1),("endpoint",v2)]
theorem zjf (v0 v1 v2:V):(JJ v0 v1 v2).lookup ("row":Str)=some v0:=by rfl
theorem yZ (v0 v1 v2:V):(JJ v0 v1 v2).lookup ("word":Str)=some v1:=by rfl
theorem Zv (v0 v1 v2:V):(JJ v0 v1 v2).lookup ("endpoint":Str)=some v2:=by rfl
noncomputable def Yr (v0 v1:V):List (Str × V):=[("name",v0),("value",v1)]
theorem zd5 (v0 v1:V):(Yr v0 v1).lookup ("name":Str)=some v0:=by rfl
theorem zdk (v0 v1:V):(Yr v0 v1).lookup ("value":Str)=some v1:=by rfl
noncomputable def zku (v0 v1 v2:V):List (Str × V):=[("endpoint",v0),("parameters",v1),("branch",v2)]
theorem ZH (v0 v1 v2:V):(zku v0 v1 v2).lookup ("endpoint":Str)=some v0:=by rfl
theorem zd4 (v0 v1 v2:V):(zku v0 v1 v2).lookup ("parameters":Str)=some v1:=by rfl
theorem zje (v0 v1 v2:V):(zku v0 v1 v2).lookup ("branch":Str)=some v2:=by rfl
noncomputable def zbI (v0 v1:V):List (Str × V):=[("target",v0),("parameters",v1)]
theorem yB (v0 v1:V):(zbI v0 v1).lookup ("target":Str)=some v0:=by rfl
theorem QI (v0 v1:V):(zbI v0 v1).lookup ("parameters":Str)=some v1:=by rfl
noncomputable def Q6 (v0 v1 v2:V):List (Str × V):=[("line",v0),("method",v1),("target",v2)]
theorem zjg (v0 v1 v2:V):(Q6 v0 v1 v2).lookup ("line":Str)=some v0:=by rfl
theorem yC (v0 v1 v2:V):(Q6 v0 v1 v2).lookup ("method":Str)=some v1:=by rfl
theorem za6 (v0 v1 v2:V):(Q6 v0 v1 v2).lookup ("target":Str)=some v2:=by rfl
noncomputable def JK (v0 v1 v2:V):List (Str × V):=[("kind",v0),("line",v1),("value",v2)]
theorem Y1 (v0 v1 v2:V):(JK v0 v1 v2).lookup ("kind":Str)=some v0:=by rfl
theorem JH (v0 v1 v2:V):(JK v0 v1 v2).lookup ("line":Str)=some v1:=by rfl
theorem zga (v0 v1 v2:V):(JK v0 v1 v2).lookup ("value":Str)=some v2:=by rfl
noncomputable def yw (v0 v1 v2 v3 v4 v5 v6 v7 v8:V):List (Str × V):=[("first",v0),("headers",v1),("body",v2),("vias",v3),("sender",v4),("receiver",v5),("contacts",v6),("call_id",v7),("sequence",v8)]
theorem ye (v0 v1 v2 v3 v4 v5 v6 v7 v8:V):(yw v0 v1 v2 v3 v4 v5 v6 v7 v8).lookup ("first":Str)=some v0:=by rfl
theorem zW (v0 v1 v2 v3 v4 v5 v6 v7 v8:V):(yw v0 v1 v2 v3 v4 v5 v6 v7 v8).lookup ("headers":Str)=some v1:=by rfl
theorem Q4 (v0 v1 v2 v3 v4 v5 v6 v7 v8:V):(yw v0 v1 v2 v3 v4 v5 v6 v7 v8).lookup ("body":Str)=some v2:=by rfl
theorem yg (v0 v1 v2 v3 v4 v5 v6 v7 v8:V):(yw v0 v1 v2 v3 v4 v5 v6 v7 v8).lookup ("vias":Str)=some v3:=by rfl
theorem zd6 (v0 v1 v2 v3 v4 v5 v6 v7 v8:V):(yw v0 v1 v2 v3 v4 v5 v6 v7 v8).lookup ("sender":Str)=some v4:=by rfl
theorem yP (v0 v1 v2 v3 v4 v5 v6 v7 v8:V):(yw v0 v1 v2 v3 v4 v5 v6 v7 v8).lookup ("receiver":Str)=some v5:=by rfl
theorem yQ (v0 v1 v2 v3 v4 v5 v6 v7 v8:V):(yw v0 v1 v2 v3 v4 v5 v6 v7 v8).lookup ("contacts":Str)=some v6:=by rfl
theorem yF (v0 v1 v2 v3 v4 v5 v6 v7 v8:V):(yw v0 v1 v2 v3 v4 v5 v6 v7 v8).lookup ("call_id":Str)=some v7:=by rfl
theorem Zi (v0 v1 v2 v3 v4 v5 v6 v7 v8:V):(yw v0 v1 v2 v3 v4 v5 v6 v7 v8).lookup ("sequence":Str)=some v8:=by rfl
noncomputable def Yt (v0 v1 v2 v3 v4:V):List (Str × V):=[("whom",v0),("place",v1),("until",v2),("call_id",v3),("number",v4)]
theorem QJ (v0 v1 v2 v3 v4:V):(Yt v0 v1 v2 v3 v4).lookup ("whom":Str)=some v0:=by rfl
theorem Y2 (v0 v1 v2 v3 v4:V):(Yt v0 v1 v2 v3 v4).lookup ("place":Str)=some v1:=by rfl
theorem JI (v0 v1 v2 v3 v4:V):(Yt v0 v1 v2 v3 v4).lookup ("until":Str)=some v2:=by rfl
theorem zfh (v0 v1 v2 v3 v4:V):(Yt v0 v1 v2 v3 v4).lookup ("call_id":Str)=some v3:=by rfl
theorem zgb (v0 v1 v2 v3 v4:V):(Yt v0 v1 v2 v3 v4).lookup ("number":Str)=some v4:=by rfl
noncomputable def zdo (v0 v1 v2:V):List (Str × V):=[("word",v0),("address",v1),("port",v2)]
theorem zaD (v0 v1 v2:V):(zdo v0 v1 v2).lookup ("word":Str)=some v0:=by rfl
theorem Z3 (v0 v1 v2:V):(zdo v0 v1 v2).lookup ("address":Str)=some v1:=by rfl
theorem QH (v0 v1 v2:V):(zdo v0 v1 v2).lookup ("port":Str)=some v2:=by rfl
noncomputable def Zc (v0 v1:V):List (Str × V):=[("status",v0),("entries",v1)]
theorem Zq (v0 v1:V):(Zc v0 v1).lookup ("status":Str)=some v0:=by rfl
theorem Yc (v0 v1:V):(Zc v0 v1).lookup ("entries":Str)=some v1:=by rfl
noncomputable def Z4 (v0 v1 v2:V):List (Str × V):=[("row",v0),("address",v1),("port",v2)]
theorem Y0 (v0 v1 v2:V):(Z4 v0 v1 v2).lookup ("row":Str)=some v0:=by rfl
theorem zdj (v0 v1 v2:V):(Z4 v0 v1 v2).lookup ("address":Str)=some v1:=by rfl
theorem zf9 (v0 v1 v2:V):(Z4 v0 v1 v2).lookup ("port":Str)=some v2:=by rfl
noncomputable def Qx (v0 v1:V):List (Str × V):=[("sending",v0),("entries",v1)]
theorem zdl (v0 v1:V):(Qx v0 v1).lookup ("sending":Str)=some v0:=by rfl
theorem zdm (v0 v1:V):(Qx v0 v1).lookup ("entries":Str)=some v1:=by rfl
noncomputable def Ys (v0 v1 v2 v3:V):List (Str × V):=[("name",v0),("address",v1),("port",v2),("entries",v3)]
theorem zdK (v0 v1 v2 v3:V):(Ys v0 v1 v2 v3).lookup ("name":Str)=some v0:=by rfl
theorem Qw (v0 v1 v2 v3:V):(Ys v0 v1 v2 v3).lookup ("address":Str)=some v1:=by rfl
theorem zaE (v0 v1 v2 v3:V):(Ys v0 v1 v2 v3).lookup ("port":Str)=some v2:=by rfl
theorem Qv (v0 v1 v2 v3:V):(Ys v0 v1 v2 v3).lookup ("entries":Str)=some v3:=by rfl
noncomputable def zaG (v0:V):List (Str × V):=[("house",v0)]
theorem zpg (v0:V):(zaG v0).lookup ("house":Str)=some v0:=by rfl
structure Txt (K:PySem.W.Frag) (mg:Str→Option Value) (c:Cl) (le:Addr) (ln:Addr):Prop where
 c_LINE_END:Z8 mg "LINE_END" (.ref le)
 le:zmj K le [.int 13,.int 10]
 c_BLANK:Z8 mg "BLANK" (.int 32)
 c_DASH:Z8 mg "DASH" (.int 45)
 c_POINT:Z8 mg "POINT" (.int 46)
 c_COLON:Z8 mg "COLON" (.int 58)
 c_SEMICOLON:Z8 mg "SEMICOLON" (.int 59)
 c_LESS:Z8 mg "LESS" (.int 60)
 c_EQUALS:Z8 mg "EQUALS" (.int 61)
 c_GREATER:Z8 mg "GREATER" (.int 62)
 c_AT:Z8 mg "AT" (.int 64)
 c_HEX_DIGITS:Z8 mg "HEX_DIGITS" (.str "0123456789abcdef")
 c_SUM_START:Z8 mg "SUM_START" (.int 14695981039346656037)
 c_SUM_TIMES:Z8 mg "SUM_TIMES" (.int 1099511628211)
 c_SUM_MODULO:Z8 mg "SUM_MODULO" (.int 18446744073709551616)
 c_MOST_NAME_SIGNS:Z8 mg "MOST_NAME_SIGNS" (.int 64)
 c_MOST_PORT:Z8 mg "MOST_PORT" (.int 65535)
 c_USUAL_PORT:Z8 mg "USUAL_PORT" (.int 5060)
 c_TARGET_START:Z8 mg "TARGET_START" (.str "sip:")
 c_MOST_PARAMETER_SIGNS:Z8 mg "MOST_PARAMETER_SIGNS" (.int 128)
 c_VIA_START:Z8 mg "VIA_START" (.str "SIP/2.0/UDP ")
 c_BRANCH_START:Z8 mg "BRANCH_START" (.str "z9hG4bK")
 c_STAR:Z8 mg "STAR" (.str "*")
 c_MOST_BYTES:Z8 mg "MOST_BYTES" (.int 16384)
 c_MOST_HEADER_NAME_SIGNS:Z8 mg "MOST_HEADER_NAME_SIGNS" (.int 32)
 c_MOST_CALL_ID_SIGNS:Z8 mg "MOST_CALL_ID_SIGNS" (.int 128)
 c_MOST_NUMBER_DIGITS:Z8 mg "MOST_NUMBER_DIGITS" (.int 9)
 c_MOST_HOPS:Z8 mg "MOST_HOPS" (.int 255)
 c_FORM:Z8 mg "FORM" (.str "SIP/2.0")
 c_VIA:Z8 mg "VIA" (.str "via")
 c_FROM:Z8 mg "FROM" (.str "from")
 c_TO:Z8 mg "TO" (.str "to")
 c_CALL_ID:Z8 mg "CALL_ID" (.str "call-id")
 c_CONTACT:Z8 mg "CONTACT" (.str "contact")
 c_CONTENT_LENGTH:Z8 mg "CONTENT_LENGTH" (.str "content-length")
 c_CSEQ:Z8 mg "CSEQ" (.str "cseq")
 c_MAX_FORWARDS:Z8 mg "MAX_FORWARDS" (.str "max-forwards")
 c_EXPIRES:Z8 mg "EXPIRES" (.str "expires")
 c_OTHER:Z8 mg "OTHER" (.str "")
 c_LONG_NAMES:Z8 mg "LONG_NAMES" (.ref ln)
 ln:zmj K ln [.str "via",.str "from",.str "to",.str "call-id",.str "contact",.str "content-length",.str "cseq",.str "max-forwards",.str "expires"]
 c_SHORT_NAMES:zsd K mg [("via","v"),("from","f"),("to","t"),("call-id","i"),("contact","m"),("content-length","l")]
 c_MOST_ENTRIES:Z8 mg "MOST_ENTRIES" (.int 256)
 c_LATEST:Z8 mg "LATEST" (.int 4294967295)
 c_USUAL_SPAN:Z8 mg "USUAL_SPAN" (.int 3600)
 c_OK:Z8 mg "OK" (.str "200 OK")
 c_BAD_REQUEST:Z8 mg "BAD_REQUEST" (.str "400 Bad Request")
 c_SERVICE_UNAVAILABLE:Z8 mg "SERVICE_UNAVAILABLE" (.str "503 Service Unavailable")
 c_NOT_FOUND:Z8 mg "NOT_FOUND" (.str "404 Not Found")
 c_METHOD_NOT_ALLOWED:Z8 mg "METHOD_NOT_ALLOWED" (.str "405 Method Not Allowed")
 c_TOO_MANY_HOPS:Z8 mg "TOO_MANY_HOPS" (.str "483 Too Many Hops")
 c_BAD_GATEWAY:Z8 mg "BAD_GATEWAY" (.str "502 Bad Gateway")
 c_MOST_OUT:Z8 mg "MOST_OUT" (.int 65536)
 c_TOO_LITTLE_ROOM:Z8 mg "TOO_LITTLE_ROOM" (.int (-1))
 c_OUT_OF_RANGE:Z8 mg "OUT_OF_RANGE" (.int (-2))
 c_NO_HOUSE:Z8 mg "NO_HOUSE" (.int (-9))
 c_BEGIN:Z8 mg "BEGIN" (.int 0)
 c_PACKET:Z8 mg "PACKET" (.int 1)
 b_all:mg "all"=none
 b_any:mg "any"=none
 b_len:mg "len"=none
 b_list:mg "list"=none
 b_min:mg "min"=none
 b_ord:mg "ord"=none
 b_range:mg "range"=none
 b_reversed:mg "reversed"=none
 b_str:mg "str"=none
 b_sum:mg "sum"=none
 k_Endpoint:Cls K c.Endpoint
 n_Endpoint_host:zS K c.Endpoint "host"
 n_Endpoint_address:zS K c.Endpoint "address"
 n_Endpoint_port:zS K c.Endpoint "port"
 k_Target:Cls K c.Target
 n_Target_row:zS K c.Target "row"
 n_Target_word:zS K c.Target "word"
 n_Target_endpoint:zS K c.Target "endpoint"
 k_Parameter:Cls K c.Parameter
 n_Parameter_name:zS K c.Parameter "name"
 n_Parameter_value:zS K c.Parameter "value"
 k_Via:Cls K c.Via
 n_Via_endpoint:zS K c.Via "endpoint"
 n_Via_parameters:zS K c.Via "parameters"
 n_Via_branch:zS K c.Via "branch"
 k_Party:Cls K c.Party
 n_Party_target:zS K c.Party "target"
 n_Party_parameters:zS K c.Party "parameters"
 k_First:Cls K c.First
 n_First_line:zS K c.First "line"
 n_First_method:zS K c.First "method"
 n_First_target:zS K c.First "target"
 k_Header:Cls K c.Header
 n_Header_kind:zS K c.Header "kind"
 n_Header_line:zS K c.Header "line"
 n_Header_value:zS K c.Header "value"
 k_Message:Cls K c.Message
 n_Message_first:zS K c.Message "first"
 n_Message_headers:zS K c.Message "headers"
 n_Message_body:zS K c.Message "body"
 n_Message_vias:zS K c.Message "vias"
 n_Message_sender:zS K c.Message "sender"
 n_Message_receiver:zS K c.Message "receiver"
 n_Message_contacts:zS K c.Message "contacts"
 n_Message_call_id:zS K c.Message "call_id"
 n_Message_sequence:zS K c.Message "sequence"
 k_Entry:Cls K c.Entry
 n_Entry_whom:zS K c.Entry "whom"
 n_Entry_place:zS K c.Entry "place"
 n_Entry_until:zS K c.Entry "until"
 n_Entry_call_id:zS K c.Entry "call_id"
 n_Entry_number:zS K c.Entry "number"
 k_Place:Cls K c.Place
 n_Place_word:zS K c.Place "word"
 n_Place_address:zS K c.Place "address"
 n_Place_port:zS K c.Place "port"
 k_Registration:Cls K c.Registration
 n_Registration_status:zS K c.Registration "status"
 n_Registration_entries:zS K c.Registration "entries"
 k_Sending:Cls K c.Sending
 n_Sending_row:zS K c.Sending "row"
 n_Sending_address:zS K c.Sending "address"
 n_Sending_port:zS K c.Sending "port"
 k_Outcome:Cls K c.Outcome
 n_Outcome_sending:zS K c.Outcome "sending"
 n_Outcome_entries:zS K c.Outcome "entries"
 k_House:Cls K c.House
 n_House_name:zS K c.House "name"
 n_House_address:zS K c.House "address"
 n_House_port:zS K c.House "port"
 n_House_entries:zS K c.House "entries"
 k_Desk:Cls K c.Desk
 n_Desk_house:zS K c.Desk "house"
 e_Parameter:zn1 K c.Parameter
 e_Via:zn1 K c.Via
 e_Party:zn1 K c.Party
 e_Header:zn1 K c.Header
structure YM (K:PySem.W.Frag) (mg:Str→Option Value) (c:Cl):Prop where
 d_codes:Def K mg "codes" zkb
 d_is_sign:Def K mg "is_sign" zeP
 d_is_digit:Def K mg "is_digit" zcY
 d_is_great:Def K mg "is_great" zcX
 d_is_letter_or_digit:Def K mg "is_letter_or_digit" Zz
 d_small:Def K mg "small" zj9
 d_begins:Def K mg "begins" zho
 d_is_digits:Def K mg "is_digits" zbs
 d_is_plain_number:Def K mg "is_plain_number" Yn
 d_number_of:Def K mg "number_of" zbo
 d_is_word:Def K mg "is_word" zeO
 d_is_method:Def K mg "is_method" zbr
 d_place_of:Def K mg "place_of" zcU
 d_split_at:Def K mg "split_at" zcT
 d_without_end_blanks:Def K mg "without_end_blanks" Zx
 d_without_blanks:Def K mg "without_blanks" YO
 d_lines_row:Def K mg "lines_row" zbq
 d_sum_of:Def K mg "sum_of" zhl
 d_sum_row:Def K mg "sum_row" zeL
 d_Endpoint_init:zih K mg "Endpoint" "Endpoint.__init__" c.Endpoint Qm
 d_Target_init:zih K mg "Target" "Target.__init__" c.Target Ju
 d_address_of:Def K mg "address_of" zao
 d_is_name:Def K mg "is_name" zeR
 d_is_port:Def K mg "is_port" zeQ
 d_endpoint_of:Def K mg "endpoint_of" Jr
 d_port_of:Def K mg "port_of" zeM
 d_target_of:Def K mg "target_of" zbl
 d_address_row:Def K mg "address_row" Jt
 d_endpoint_row:Def K mg "endpoint_row" QU
 d_target_row:Def K mg "target_row" zab
 d_Parameter_init:zih K mg "Parameter" "Parameter.__init__" c.Parameter YV
 d_Via_init:zih K mg "Via" "Via.__init__" c.Via zc1
 d_Party_init:zih K mg "Party" "Party.__init__" c.Party zaq
 d_parameter_of:Def K mg "parameter_of" QS
 d_is_parameter_value:Def K mg "is_parameter_value" Zy
 d_parameters_of:Def K mg "parameters_of" Qi
 d_values_named:Def K mg "values_named" QP
 d_via_of:Def K mg "via_of" zhk
 d_party_of:Def K mg "party_of" zcV
 d_contact_of:Def K mg "contact_of" zam
 d_First_init:zih K mg "First" "First.__init__" c.First zat
 d_Header_init:zih K mg "Header" "Header.__init__" c.Header Jv
 d_Message_init:zih K mg "Message" "Message.__init__" c.Message QZ
 d_message_of:Def K mg "message_of" zaf
 d_head_lines:Def K mg "head_lines" zaj
 d_line_end:Def K mg "line_end" zcW
 d_head_size:Def K mg "head_size" zbu
 d_first_of:Def K mg "first_of" zc0
 d_is_answer_line:Def K mg "is_answer_line" YR
 d_header_of:Def K mg "header_of" zbt
 d_kind_of:Def K mg "kind_of" zeN
 d_values_of:Def K mg "values_of" zbk
 d_only_value:Def K mg "only_value" zad
 d_is_request:Def K mg "is_request" zah
 d_is_fit:Def K mg "is_fit" zhm
 d_is_call_id:Def K mg "is_call_id" zai
 d_is_sequence:Def K mg "is_sequence" Jp
 d_is_hops:Def K mg "is_hops" zeS
 d_has_fit_length:Def K mg "has_fit_length" YS
 d_has_fit_expires:Def K mg "has_fit_expires" Yo
 d_sequence_number:Def K mg "sequence_number" Yj
 d_hops_of:Def K mg "hops_of" zeT
 d_expires_of:Def K mg "expires_of" zak
 d_Entry_init:zih K mg "Entry" "Entry.__init__" c.Entry zau
 d_Place_init:zih K mg "Place" "Place.__init__" c.Place zap
 d_Registration_init:zih K mg "Registration" "Registration.__init__" c.Registration ZK
 d_entries_there:Def K mg "entries_there" Qk
 d_entries_of:Def K mg "entries_of" zal
 d_last_first:Def K mg "last_first" zag
 d_place_row:Def K mg "place_row" zbn
 d_is_same_place:Def K mg "is_same_place" Qj
 d_registration:Def K mg "registration" QQ
 d_is_bad:Def K mg "is_bad" zhn
 d_has_fit_contacts:Def K mg "has_fit_contacts" ZX
 d_has_star:Def K mg "has_star" zcZ
 d_is_clearing:Def K mg "is_clearing" Jq
 d_comes_too_late:Def K mg "comes_too_late" YT
 d_changed_entries:Def K mg "changed_entries" Yp
 d_contact_place:Def K mg "contact_place" Ql
 d_contact_span:Def K mg "contact_span" QV
 d_contact_line:Def K mg "contact_line" QW
 d_list_line:Def K mg "list_line" zbp
 d_received_row:Def K mg "received_row" QR
 d_reply_row:Def K mg "reply_row" zbm
 d_via_lines:Def K mg "via_lines" zbj
 d_tag_row:Def K mg "tag_row" zeK
 d_Sending_init:zih K mg "Sending" "Sending.__init__" c.Sending QX
 d_Outcome_init:zih K mg "Outcome" "Outcome.__init__" c.Outcome QY
 d_no_sending:Def K mg "no_sending" zae
 d_message_outcome:Def K mg "message_outcome" Ym
 d_request_outcome:Def K mg "request_outcome" Yl
 d_is_for_house_alone:Def K mg "is_for_house_alone" ZA
 d_registration_sending:Def K mg "registration_sending" Zd
 d_request_sending:Def K mg "request_sending" Yk
 d_sending_to_entry:Def K mg "sending_to_entry" ZW
 d_reply:Def K mg "reply" zka
 d_onward_row:Def K mg "onward_row" zac
 d_own_via_line:Def K mg "own_via_line" QT
 d_onward_header_lines:Def K mg "onward_header_lines" Zl
 d_answer_sending:Def K mg "answer_sending" YU
 d_return_address:Def K mg "return_address" YQ
 d_answer_row:Def K mg "answer_row" zan
 d_House_init:zih K mg "House" "House.__init__" c.House zas
 d_House_owns:zqi K "owns" "House.owns" c.House zar
 d_Desk_init:zih K mg "Desk" "Desk.__init__" c.Desk zbw
 d_Desk_begin:zqi K "begin" "Desk.begin" c.Desk zav
 d_Desk_packet:zqi K "packet" "Desk.packet" c.Desk Jw
 d_Desk_listing:zqi K "listing" "Desk.listing" c.Desk Q0
 d_call_size:Def K mg "call_size" zbv
 d_call_answer:Def K mg "call_answer" Js
 d_answers:Def K mg "answers" zeU
end CH
namespace CH
open PySem L2
open PySem.W (nsIn findIn codeIn keepIn makesIn isFn fnOf mroIn mg_of)
section
variable {K:PySem.W.Frag} {h:Heap} {mg:Str→Option Value}
theorem zri {x:Str} {st:Stmt} {f:Addr} {oc kV doc pm cdv ct:Value} {od an:Option Addr} {osl:Array (Option Value)} (X:K.In h) (G:h.Ns mainGlobals mg) (e1:nsIn K mainGlobals x=some (some (.ref f)))
  (e2:K.lookup f=some ⟨oc,od,.func (fnOf x x (zaI st) (Q7 st) (zk st) .none kV doc pm an cdv ct),osl⟩) (e3:codeIn K cdv x=true) (e4:keepIn K (.ref f)=true):Def K mg x st:=⟨f,_,znu e2 e3 e4,mg_of X G e1⟩
theorem zp2 {x qual:Str} {st:Stmt} {f C:Addr} {oc kV doc pm cdv ct:Value} {od an:Option Addr} {osl:Array (Option Value)} (X:K.In h) (G:h.Ns mainGlobals mg) (e0:nsIn K mainGlobals x=some (some (.ref C))) (e1:findIn K (.ref C) "__init__"=some (some (.ref f)))
  (e2:K.lookup f=some ⟨oc,od,.func (fnOf "__init__" qual (zaI st) (Q7 st) (zk st) .none kV doc pm an cdv ct),osl⟩) (e3:codeIn K cdv qual=true) (e4:keepIn K (.ref f)=true) (e5:makesIn K C=true) (e6:isFn K (.ref f)=true) (e7:keepIn K (.ref C)=true):
  zih K mg x qual C st:=⟨f,_,znu e2 e3 e4,⟨e5,e1,e6,e7⟩,mg_of X G e0⟩
theorem zp1 {x qual:Str} {st:Stmt} {f C:Addr} {oc kV doc pm cdv ct:Value} {od an:Option Addr} {osl:Array (Option Value)} (e0:Cls K C) (e1:findIn K (.ref C) x=some (some (.ref f)))
  (e2:K.lookup f=some ⟨oc,od,.func (fnOf x qual (zaI st) (Q7 st) (zk st) .none kV doc pm an cdv ct),osl⟩) (e3:codeIn K cdv qual=true) (e4:keepIn K (.ref f)=true) (e6:isFn K (.ref f)=true):
  zqi K x qual C st:=⟨e0,f,_,znu e2 e3 e4,⟨e1,e6,e4⟩⟩
theorem zpW {x:Str} {v:V} {u:Value} (X:K.In h) (G:h.Ns mainGlobals mg) (e:nsIn K mainGlobals x=some (some u)) (r:Yz v u):Z8 mg x v:=⟨u,mg_of X G e,r⟩
theorem zpO {n:Str} (X:K.In h) (G:h.Ns mainGlobals mg) (e:nsIn K mainGlobals n=some none):mg n=none:=by
 obtain ⟨o,es,ep,ho,hd,_,hf⟩:=G
 unfold PySem.W.nsIn at e
 split at e
 ·rename_i c d es' n' sl q
  have:=X _ _ q
  rw [ho] at this
  cases this
  cases hd
  split at e
  ·cases e
  ·rename_i he
   rw [← hf]
   unfold nsFind findBy
   rw [← Array.find?_toList,he]
   rfl
 ·cases e
theorem zro {C:Addr} (e1:PySem.W.plainGet K C Str.empty=true) (e2:PySem.W.hasDictIn K C=true) (e3:PySem.W.plainOver K C=true) (e4:findIn K (.ref C) "__setattr__"=some (some (.builtin "object.__setattr__"))):Cls K C:=⟨e1,e2,e3,e4⟩
theorem zr1 {C:Addr} {f:Str} (e:findIn K (.ref C) f=some none):zS K C f:=e
theorem zqq {a:Addr} {xs:List V} {its:Array Value} {n:Nat} (e:K.lookup a=some {cls:=.type "tuple",data:=.seq its n}) (hz:its.size≤sizeLine) (hv:yU xs its.toList):zmj K a xs:=⟨its,n,e,hz,hv⟩
theorem zrU {sn:Addr} {es:Array DictEntry} {ep:Nat} {D:List (Str × Str)} (X:K.In h) (G:h.Ns mainGlobals mg) (e0:nsIn K mainGlobals "SHORT_NAMES"=some (some (.ref sn))) (e1:K.lookup sn=some {cls:=.type "dict",data:=.dict es ep}) (ns:(sn == sysModules)=false)
  (hr:PyProof.Rows.KTD.Rows (fun (d:Str) v=>∃t,v=.str d t) es.toList D):zsd K mg D:=⟨sn,⟨_,mg_of X G e0,rfl⟩,ns,_,es,ep,e1,⟨rfl,rfl,rfl⟩,rfl,hr⟩
end
theorem all_mk {K:PySem.W.Frag} {h:Heap} {mg:Str→Option Value} {a_Endpoint a_Target a_Parameter a_Via a_Party a_First a_Header a_Message a_Entry a_Place a_Registration a_Sending a_Outcome a_House a_Desk le ln:Addr} (X:K.In h) (G:h.Ns mainGlobals mg)
  (e_Endpoint:nsIn K mainGlobals "Endpoint"=some (some (.ref a_Endpoint)))
  (e_Target:nsIn K mainGlobals "Target"=some (some (.ref a_Target)))
  (e_Parameter:nsIn K mainGlobals "Parameter"=some (some (.ref a_Parameter)))
  (e_Via:nsIn K mainGlobals "Via"=some (some (.ref a_Via)))
  (e_Party:nsIn K mainGlobals "Party"=some (some (.ref a_Party)))
  (e_First:nsIn K mainGlobals "First"=some (some (.ref a_First)))
  (e_Header:nsIn K mainGlobals "Header"=some (some (.ref a_Header)))
  (e_Message:nsIn K mainGlobals "Message"=some (some (.ref a_Message)))
  (e_Entry:nsIn K mainGlobals "Entry"=some (some (.ref a_Entry)))
  (e_Place:nsIn K mainGlobals "Place"=some (some (.ref a_Place)))
  (e_Registration:nsIn K mainGlobals "Registration"=some (some (.ref a_Registration)))
  (e_Sending:nsIn K mainGlobals "Sending"=some (some (.ref a_Sending)))
  (e_Outcome:nsIn K mainGlobals "Outcome"=some (some (.ref a_Outcome)))
  (e_House:nsIn K mainGlobals "House"=some (some (.ref a_House)))
  (e_Desk:nsIn K mainGlobals "Desk"=some (some (.ref a_Desk)))
  (e_le:nsIn K mainGlobals "LINE_END"=some (some (.ref le))) (e_ln:nsIn K mainGlobals "LONG_NAMES"=some (some (.ref ln)))
  (t:Txt K mg ⟨a_Endpoint,a_Target,a_Parameter,a_Via,a_Party,a_First,a_Header,a_Message,a_Entry,a_Place,a_Registration,a_Sending,a_Outcome,a_House,a_Desk⟩ le ln) (f:YM K mg ⟨a_Endpoint,a_Target,a_Parameter,a_Via,a_Party,a_First,a_Header,a_Message,a_Entry,a_Place,a_Registration,a_Sending,a_Outcome,a_House,a_Desk⟩):∃c le ln,Txt K mg c le ln∧YM K mg c:=⟨_,le,ln,t,f⟩
end CH
section
open PySem PySem.W PySem.Calls PyProof.Rows L2 CH
local macro_rules | `(tactic| walk_at "kf_fn") => `(tactic| (refine' zri (by assumption) (by assumption) ?zza ?zzb ?zzc ?zzd; (case zza => k_is); (case zzb => k_is); (case zzc => k_is); (case zzd => k_is)))
local macro_rules | `(tactic| walk_at "kf_in") => `(tactic| (refine' zp2 (by assumption) (by assumption) ?zze ?zza ?zzb ?zzc ?zzd ?zzf ?zzg ?zzi; (case zze => k_is); (case zza => k_is); (case zzb => k_is); (case zzc => k_is); (case zzd => k_is); (case zzf => k_is); (case zzg => k_is); (case zzi => k_is)))
local macro_rules | `(tactic| walk_at "kf_cl") => `(tactic| (refine' zro ?zza ?zzb ?zzc ?zzd; (case zza => k_is); (case zzb => k_is); (case zzc => k_is); (case zzd => k_is)))
local macro_rules | `(tactic| walk_at "kf_mt") => `(tactic| (refine' zp1 ?zze ?zza ?zzb ?zzc ?zzd ?zzg; (case zze => walk_at "kf_cl"); (case zza => k_is); (case zzb => k_is); (case zzc => k_is); (case zzd => k_is); (case zzg => k_is)))
local macro_rules | `(tactic| walk_at "kf_gl") => `(tactic| (refine' zpW (by assumption) (by assumption) ?zza ?zzb; (case zza => k_is); (case zzb => first | exact rfl | exact ⟨_, rfl⟩)))
local macro_rules | `(tactic| walk_at "kf_no") => `(tactic| (refine' zpO (by assumption) (by assumption) ?zza; (case zza => k_is)))
local macro_rules | `(tactic| walk_at "kf_na") => `(tactic| (refine' zr1 ?zza; (case zza => k_is)))
local macro_rules | `(tactic| walk_at "kf_eq") => `(tactic| (refine' zn1.mk ?zza ?zzb; (case zza => k_is); (case zzb => k_is)))
local macro_rules | `(tactic| walk_at "kf_tu") => `(tactic| (refine' zqq ?zza ?zzb ?zzc; (case zza => k_is); (case zzb => decide); (case zzc => repeat (first | exact .nil | refine .cons ⟨_, rfl⟩ ?_))))
local macro_rules | `(tactic| walk_at "kf_sn") => `(tactic| (refine' zrU (by assumption) (by assumption) ?zza ?zzb ?zzc ?zzd; (case zza => k_is); (case zzb => k_is); (case zzc => decide); (case zzd => repeat (first | exact .nil | refine .cons rfl ⟨_, rfl⟩ ?_))))
noncomputable abbrev CH.rw_:=PySem.Challenge.rw_callhouse_s01_answers
noncomputable def CH.q1:Program:=PySem.W.view CH.rw_.prog [170]
noncomputable def CH.loose1:List Str:=(["LINE_END","BLANK","DASH","POINT","COLON","SEMICOLON","LESS","EQUALS","GREATER","AT","HEX_DIGITS","SUM_START","SUM_TIMES","SUM_MODULO","codes","is_sign","is_digit","is_great","is_letter_or_digit","small","begins","is_digits","is_plain_number","number_of","is_word","is_method","place_of","split_at","without_end_blanks","without_blanks","lines_row","sum_of","sum_row","MOST_NAME_SIGNS","MOST_PORT","USUAL_PORT","TARGET_START","Endpoint","Target","address_of","is_name","is_port","endpoint_of","port_of","target_of","address_row","endpoint_row","target_row","MOST_PARAMETER_SIGNS","VIA_START","BRANCH_START","STAR","Parameter","Via","Party","parameter_of","is_parameter_value","parameters_of","values_named","via_of","party_of","contact_of","MOST_BYTES","MOST_HEADER_NAME_SIGNS","MOST_CALL_ID_SIGNS","MOST_NUMBER_DIGITS","MOST_HOPS","FORM","VIA","FROM","TO","CALL_ID","CONTACT","CONTENT_LENGTH","CSEQ","MAX_FORWARDS","EXPIRES","OTHER","LONG_NAMES","SHORT_NAMES","First","Header","Message","message_of","head_lines","line_end","head_size","first_of","is_answer_line","header_of","kind_of","values_of","only_value","is_request","is_fit","is_call_id","is_sequence","is_hops","has_fit_length","has_fit_expires","sequence_number","hops_of","expires_of","MOST_ENTRIES","LATEST","USUAL_SPAN","OK","BAD_REQUEST","SERVICE_UNAVAILABLE","Entry","Place","Registration","entries_there","entries_of","last_first","place_row","is_same_place","registration","is_bad","has_fit_contacts","has_star","is_clearing","comes_too_late","changed_entries","contact_place","contact_span","contact_line","list_line","received_row","reply_row","via_lines","tag_row","NOT_FOUND","METHOD_NOT_ALLOWED","TOO_MANY_HOPS","BAD_GATEWAY","Sending","Outcome","no_sending","message_outcome","request_outcome","is_for_house_alone","registration_sending","request_sending","sending_to_entry","reply","onward_row","own_via_line","onward_header_lines","answer_sending","return_address","answer_row","MOST_OUT","TOO_LITTLE_ROOM","OUT_OF_RANGE","NO_HOUSE","BEGIN","PACKET","House","Desk","call_size","call_answer"]:List String).map Str.ofString
theorem CH.q1_def:∃d:DefRec,defOf q1 rw_.name=some (d,[])∧rw_.prog.theDef rw_.name=some (d.params,d.body,d.scope)∧kwWritten? d.params.kwonlyargs d.params.kw_defaults=some []∧d.name="answers":=⟨_,rfl,rfl,rfl,rfl⟩
theorem CH.q1_ok:(chainsOk q1&&opensWell rw_.prog)=true:=by decide +kernel
namespace PySem.W.Fast
def tw5281314128460896329:=0
def tw2913330605899735113:=0
def tw7208722813403195465:=0
def tw678737461867575849:=0
def tw11417426519604876233:=0
def tw8483952582874706857:=0
def tw3826861627466558825:=0
def tw1279882838362619657:=0
def tw15663720336923503369:=0
def tw14614933879525393161:=0
def tw18107182188570982633:=0
def tw11551324033178216649:=0
def tw17466597837672574601:=0
def tw6550117095599485577:=0
def tw14786033397695288937:=0
def tw9973743432442874889:=0
def tw18003856591183017993:=0
def tw6109122406112944137:=0
def tw14519333440786773481:=0
def tw3591673949541692297:=0
def tw1563317981329380201:=0
def tw4080475483823212393:=0
def tw1800648384008149833:=0
def tw9433263951600596809:=0
def tw3960698600782897449:=0
def tw6911793729190210857:=0
def tw16888105738641589513:=0
def tw13761506105644702441:=0
def tw15675588392932316841:=0
def tw14159430710983654537:=0
def tw6570070715754452073:=0
def tw14808584671851943480:=0
def tw9088215216401343000:=0
def tw17185985024174076856:=0
def tw1452485433495386040:=0
def tw14366026578561856440:=0
def tw6036585707276777848:=0
def tw9841128885879361912:=0
def tw5588388463411197272:=0
def tw11239523033793812280:=0
def tw18074383767738735416:=0
def tw7473227075724935992:=0
def tw8405086849192737560:=0
def tw2150007464751987896:=0
def tw17276888385582744216:=0
def tw4969962006817476248:=0
def tw4005517751450601048:=0
def tw7550310096485439544:=0
def tw12106409095771507192:=0
def tw4361168880535964152:=0
def tw6426194420763922904:=0
def tw10954936233334786936:=0
def tw2981880006794108792:=0
def tw5299457594330958680:=0
def tw17116458393017416536:=0
def tw7164992375621390616:=0
def tw18364550702538656024:=0
def tw16083286740838048504:=0
def tw13793853438245295864:=0
def tw10445395032870245112:=0
def tw4049121022678340312:=0
def tw11221005087748359288:=0
def tw3360496166219708536:=0
def tw17115417645435377752:=0
def tw9965737362122069131:=0
def tw5208931276766534219:=0
def tw8404020821416286219:=0
def tw4802075106204011531:=0
def tw14666236340911065067:=0
def tw4259836646877439979:=0
def tw2955907016269484459:=0
def tw2921094053270988203:=0
def tw1311686265749097899:=0
def tw2771843211351508331:=0
def tw12542190595444707147:=0
def tw8998410596649493323:=0
def tw15922830268175735627:=0
def tw12695424562394029867:=0
def tw1905558395831008043:=0
def tw230137321483195659:=0
def tw7587386700606092523:=0
def tw5166331195968656587:=0
def tw16442297033009781419:=0
def tw14424567998636144299:=0
def tw9958481040298590859:=0
def tw13257950458604290123:=0
def tw1600136625217024075:=0
def tw866579347959311883:=0
def tw17223081641073621483:=0
def tw16553877027613769163:=0
def tw9199017201023438763:=0
def tw1300513017903264619:=0
def tw5543898102853576011:=0
def tw11914791664755575115:=0
def tw163325332186170699:=0
def tw13662566231024174411:=0
def tw1793490054399668555:=0
def tw508335276478374187:=0
def tw11370143642657849146:=0
def tw6890985474828586266:=0
def tw6733802213843800346:=0
def tw9656444610261206266:=0
def tw17749341014498446554:=0
def tw468408744751568090:=0
def tw17163762366359082682:=0
def tw10642392905299343482:=0
def tw6495447152293734490:=0
def tw12042251099841394778:=0
def tw5560957252949903418:=0
def tw8695954586584538650:=0
def tw17309197223231382042:=0
def tw4516443227232315898:=0
def tw12958165450552702458:=0
def tw18007628482582371802:=0
def tw7450233599052999610:=0
def tw13625182859009272730:=0
def tw3544040107470775194:=0
def tw5118353878408527770:=0
def tw5517846101250981210:=0
def tw14985897308225359578:=0
def tw1029214292405640378:=0
def tw10515210433679960698:=0
def tw1601631313905205850:=0
def tw7755192562696505914:=0
def tw3106089601981853242:=0
def tw17345732719921385498:=0
def tw5169503390887635994:=0
def tw15347869291986701306:=0
def tw7580835936176613818:=0
def tw11150988902179661210:=0
def tw11246071822011574106:=0
def tw14389610235847054053:=0
def tw3251508861035138597:=0
def tw2891689407261891109:=0
def tw8816279035025400357:=0
def tw15638953659358368741:=0
def tw17115974019258762149:=0
def tw14930214546413884773:=0
def tw1875656593199325509:=0
def tw14990092851485998405:=0
def tw5074298762026362661:=0
def tw8127325480417437477:=0
def tw8236961196222834437:=0
def tw11073081443236339461:=0
def tw5474857902410807045:=0
def tw4264449185641299141:=0
def tw2488149466406830277:=0
def tw15481801986146971845:=0
def tw1563874033800100005:=0
def tw3346891472037095589:=0
def tw2457576471258498213:=0
def tw11505595518708494917:=0
def tw7904851152731842597:=0
def tw4621372596009373733:=0
def tw13688603943794849253:=0
def tw13767066694001428901:=0
def tw14129926683104552357:=0
def tw12733052166153635237:=0
def tw9207384456013203877:=0
def tw9355573456745979717:=0
def tw13273508169541888837:=0
def tw12139559410312422213:=0
def tw13553074231905066821:=0
def tw14228374338964296517:=0
def tw11274032073359715589:=0
def tw731824284285622533:=0
def tw6574797424830588068:=0
def tw7887032478628943012:=0
def tw3965257946338048516:=0
def tw5602478092244935652:=0
def tw1831509572337038276:=0
def tw9335122847160529860:=0
def tw18263801101166496708:=0
def tw7046786097567584676:=0
def tw5359453104698996132:=0
def tw2856442364898245988:=0
def tw18228009923089078084:=0
def tw13455543543845933892:=0
def tw14346310350872691460:=0
def tw16835202902064508676:=0
def tw3398713669085236996:=0
def tw1387536943286435044:=0
def tw17643573766257730180:=0
def tw13466633530970019300:=0
def tw13840727403721051620:=0
def tw16227954123479443940:=0
def tw10126777184994726340:=0
def tw14383265463407894980:=0
def tw1425937266248329124:=0
def tw3584604829598967684:=0
def tw17437258865349075844:=0
def tw1887955261197072708:=0
def tw1066701582075570436:=0
def tw2938719116420006759:=0
def tw12902411299844898663:=0
def tw13177002855495348071:=0
def tw9632770197736591175:=0
def tw13019859346017006375:=0
def tw5258887074857169703:=0
def tw17336431354583015207:=0
def tw14513484865537624295:=0
def tw16960492070081504455:=0
def tw17714386652539297991:=0
def tw18184009497542223495:=0
def tw6491924295563102311:=0
def tw14383368382919414887:=0
def tw10220540545455570023:=0
def tw16843948432780517479:=0
def tw8211498791195952231:=0
def tw2365435149866397191:=0
def tw220451147696854535:=0
def tw11618196207913542151:=0
def tw8023896588801405447:=0
def tw9966037238505956839:=0
def tw15461519224661405159:=0
def tw11978719707603887559:=0
def tw5628063198550920647:=0
def tw3616753724277785511:=0
def tw9369785851447476103:=0
def tw9043821232393519431:=0
def tw2444347526222677767:=0
def tw6927174411262571271:=0
def tw4519123688738189031:=0
def tw2006531140661720231:=0
def tw16650586937832438919:=0
def tw16932572651798601319:=0
def tw16347163273171029607:=0
def tw16486472366125096967:=0
def tw14097342301248457702:=0
def tw6444514895665997254:=0
def tw8308410538925050278:=0
def tw11913731190238084934:=0
def tw10689700572396915974:=0
def tw18046780398482432262:=0
def tw3203827088570405574:=0
def tw9263740453121194662:=0
def tw135808541748668070:=0
def tw5455990018685754438:=0
def tw15266466478920864838:=0
def tw3326015974027221542:=0
def tw7568872552080444358:=0
def tw6196545350731483078:=0
def tw5436250217375807206:=0
def tw14898263313185929350:=0
def tw12941198239619974758:=0
def tw15081564220237646406:=0
def tw14844645550966408774:=0
def tw4942446156782035974:=0
def tw5909603024412368902:=0
def tw637467597272023889:=0
def tw10193529006815237425:=0
def tw9762279104058819857:=0
def tw8642594308815460593:=0
def tw3226838641619033809:=0
def tw11402625272667118289:=0
def tw3417929034582132433:=0
def tw17606344653063507089:=0
def tw9892699315167697041:=0
def tw16144237309072375953:=0
def tw9762075046147227793:=0
def tw2679275399601103985:=0
def tw17381425596966579697:=0
def tw4723392926206356977:=0
def tw13697682382575378929:=0
def tw17588786472811804625:=0
def tw15227116192492246993:=0
def tw16235767537032552369:=0
def tw11307418163646643601:=0
def tw5879773206938361201:=0
def tw12764357545311574385:=0
def tw12194455749321369393:=0
def tw8614167453776583441:=0
def tw9471013216900247281:=0
def tw16625019985368440561:=0
def tw14608196182319088849:=0
def tw14975892329573909137:=0
def tw3526103076569845361:=0
def tw4312961191411834481:=0
def tw4851117342022259761:=0
def tw13688188925860306961:=0
def tw4799636416296224753:=0
def tw1419975906777273329:=0
def tw2736975608155847121:=0
def tw4117583169461274065:=0
def tw15642416100020226513:=0
def tw14368575071486994432:=0
def tw5980546066403416032:=0
def tw16735746965124246496:=0
def tw17799165227293112256:=0
def tw2759500668656063424:=0
def tw13852103911015974304:=0
def tw11881336291239141792:=0
def tw13993889352383012224:=0
def tw7931547769536478016:=0
def tw10674540019775860544:=0
def tw5214084654521322304:=0
def tw4520059427860949792:=0
def tw5182644007001805024:=0
def tw3843761478608889024:=0
def tw5210444297363101312:=0
def tw11978687377766165568:=0
def tw9278261611627168800:=0
def tw5573871309983992256:=0
def tw3389692893461877664:=0
def tw11428778799262529408:=0
def tw16516446946955282272:=0
def tw10090789117228042080:=0
def tw10402761831563727712:=0
def tw6922811032586111296:=0
def tw3645937091631714624:=0
def tw17106529183450679584:=0
def tw2668132593040399648:=0
def tw12906036524401689344:=0
def tw6280876436247860992:=0
def tw9420833351594070784:=0
def tw17014069909930652384:=0
def tw4693893603489060576:=0
def tw591734361229518528:=0
def tw13101639523496417984:=0
def tw4175458264510086304:=0
def tw15045696483749247072:=0
def tw7463142306634877024:=0
def tw4514934453734915667:=0
def tw17396436348404163155:=0
def tw7646798619806613523:=0
def tw746690997412083731:=0
def tw14346659014405078003:=0
def tw12113845711264034771:=0
def tw3721518387541474739:=0
def tw918833548383191443:=0
def tw19766483387324819:=0
def tw14695691932843643283:=0
def tw5044854351791735155:=0
def tw3873624928901391731:=0
def tw3578225797359794547:=0
def tw6379511356099984627:=0
def tw17314060902988814547:=0
def tw11697129801270138547:=0
def tw12439644537051841203:=0
def tw12611516161935217299:=0
def tw17291715281134045267:=0
def tw321062590822593043:=0
def tw10869924558826460691:=0
def tw3585005842854095379:=0
def tw13908378936117184435:=0
def tw3563601676309968819:=0
def tw8806669624497084339:=0
def tw16938959250796333971:=0
def tw4376539156491791667:=0
def tw17594807911250286355:=0
def tw322940812815665907:=0
def tw6076702919404456659:=0
def tw2426460199223560322:=0
def tw1892478875405678722:=0
def tw3908948204540801634:=0
def tw1468450625544733282:=0
def tw14841878545513095746:=0
def tw10390195606590830146:=0
def tw6272386862396459042:=0
def tw6040170917363001314:=0
def tw9055622440309281762:=0
def tw16484010907046921666:=0
def tw6288538011058426306:=0
def tw12262368750962031010:=0
def tw11456265419506464578:=0
def tw13643436079278672706:=0
def tw11215871647344900930:=0
def tw15270050260110520130:=0
def tw1028476088452269346:=0
def tw4277139618122320098:=0
def tw5117991794936389858:=0
def tw7889745299282181826:=0
def tw9652393623560727234:=0
def tw14203151214351198914:=0
def tw5858376982000017090:=0
def tw4895661192701013666:=0
def tw5491633608478595138:=0
def tw10592135546319621186:=0
def tw8234696198926693442:=0
def tw18375863134799349282:=0
def tw14741004156126144002:=0
def tw9302537315377297890:=0
def tw17152016815245441506:=0
def tw16947113107196232162:=0
def tw6262043260269178338:=0
def tw6589213185016593346:=0
def tw2731214191160439714:=0
def tw2897594482768554914:=0
def tw11214533429526979458:=0
def tw9839077673889005922:=0
def tw4688982301665958242:=0
def tw6464392572197717314:=0
def tw11872282391162192642:=0
def tw10828596515111433986:=0
def tw13017751940458865410:=0
def tw1280432228158832386:=0
def tw8396072720747887330:=0
def tw15991573530272719042:=0
def tw11610797626693169314:=0
def tw6949016291983937698:=0
def tw12361256857619005453:=0
def tw2348635677376584685:=0
def tw1849506321242931661:=0
def tw4673078441648895853:=0
def tw5380421463260749101:=0
def tw5589862479137024237:=0
def tw4938756661243858637:=0
def tw15736966056098927277:=0
def tw15868979561296493709:=0
def tw14178295820567836813:=0
def tw9665055262647354509:=0
def tw9464520616604057709:=0
def tw16756821456091340749:=0
def tw12714327119128101837:=0
def tw7989260675600535469:=0
def tw2750728276461455277:=0
def tw1220845730971232653:=0
def tw5546963198753942925:=0
def tw13642690204378483053:=0
def tw6013227760509131501:=0
def tw5468698627443346157:=0
def tw11420018971375902925:=0
def tw13232973010630120077:=0
def tw4650606673703536269:=0
def tw461651937472631820:=0
def tw4108150940100423692:=0
def tw4056829411319097356:=0
def tw7662897988339253740:=0
def tw3329456913649615340:=0
def tw13435647180730911148:=0
def tw12685654928313717612:=0
def tw16966564626796421996:=0
def tw9880266318926490476:=0
def tw9865492491809393964:=0
def tw5621380217769533740:=0
def tw10647542469209689388:=0
def tw17428220469416897804:=0
def tw13111178148416949996:=0
def tw10596633840642331372:=0
def tw14651656849545057996:=0
def tw14956613940753324748:=0
def tw4237968884824692428:=0
def tw12596410661388622508:=0
def tw9651363409181831308:=0
def tw54060211966878828:=0
def tw5729336487060135500:=0
def tw5066728383105325612:=0
def tw3970200027563473452:=0
def tw9149575217305793036:=0
def tw3951688498925803468:=0
def tw5531113486000046028:=0
def tw12042922334786256844:=0
def tw9900425140715560780:=0
def tw4520934433178760972:=0
def tw2512540731820181740:=0
def tw1690262313814973676:=0
def tw9421955629170022636:=0
def tw3504533420862275820:=0
def tw13267574762114331852:=0
def tw12941662337722543276:=0
def tw11696728189719108780:=0
def tw2472581000850415244:=0
def tw11876354074198050575:=0
def tw16755684965952649967:=0
def tw15204762348666137327:=0
def tw5381980571572169903:=0
def tw10227541592647056527:=0
def tw504632667537051791:=0
def tw13459734053994963055:=0
def tw5442017170731058191:=0
def tw11640343459767791631:=0
def tw13458210230211995631:=0
def tw11033696703593440239:=0
def tw10492328305188084687:=0
def tw9416689069676543375:=0
def tw8614671044508900751:=0
def tw15518709209061853007:=0
def tw18131181243229252431:=0
def tw9879307406538091311:=0
def tw1909039062148200719:=0
def tw16656521142387798639:=0
def tw15272409691383953007:=0
def tw8238511272417742895:=0
def tw16096985146865847343:=0
def tw14221365884867967503:=0
def tw10889482623553973775:=0
def tw11357243708145576431:=0
def tw15522131506744732111:=0
def tw14211543428163781519:=0
def tw8293917312656210831:=0
def tw2542672926111552847:=0
def tw752860386900659502:=0
def tw1959326170570583630:=0
def tw8465498768459448878:=0
def tw1603981591247464462:=0
def tw10686900972965810158:=0
def tw5557639511877048782:=0
def tw10116174905660217774:=0
def tw2286615427676844910:=0
def tw6988702462556906350:=0
def tw4587623504213944174:=0
def tw4906588788806298446:=0
def tw1400634120202701614:=0
def tw7621344185307472142:=0
def tw12250290215078110446:=0
def tw951013287275848942:=0
def tw13491291136232849038:=0
def tw14987832410299312238:=0
def tw2946106513250067566:=0
def tw9384403671351154798:=0
def tw10352739739884336206:=0
def tw7748551586695666158:=0
def tw10905235896556882894:=0
def tw12406909946083549134:=0
def tw9850309664761422766:=0
def tw16060198605010987161:=0
def tw11750741442921142873:=0
def tw17375839548250798681:=0
def tw6330852506321990233:=0
def tw8608143916204355641:=0
def tw18443204543008803897:=0
def tw17914175865667873785:=0
def tw9112324353190696345:=0
def tw6200614911663138201:=0
def tw1192672008370276185:=0
def tw5521428952883849529:=0
def tw836158481758342425:=0
def tw10190679536489948409:=0
def tw11927528055718334169:=0
def tw3875105684660037753:=0
def tw15076400320181367897:=0
def tw8381626173479249849:=0
def tw5126082790403508569:=0
def tw13419024843032407385:=0
def tw10199710389330141032:=0
def tw11448349161550629160:=0
def tw16914414242099406088:=0
def tw13776058524265105128:=0
def tw10546929848353046248:=0
def tw6543008992999392968:=0
def tw11450625727065023624:=0
def tw18144321360584786472:=0
def tw2303326558349120456:=0
def tw11575929835942076840:=0
def tw16100227447015930696:=0
def tw13068422843028300552:=0
def tw14822823055349514472:=0
def tw17971229295644220616:=0
def tw14896189474834493096:=0
def tw12189547028885287592:=0
def tw5915694993650913928:=0
def tw11510665142713647752:=0
def tw13626713316650510952:=0
def tw11958965842919386152:=0
def tw2323095568325552616:=0
def tw8275647305268717000:=0
def tw17865115508214815656:=0
def tw6908431826578910120:=0
def tw9378647192927597019:=0
def tw9422203368277264859:=0
def tw7214690748289697723:=0
def tw9103378817130353531:=0
def tw5944052978835785051:=0
def tw8116533095656256795:=0
def tw11042785857296320219:=0
def tw11428759135701187291:=0
def tw1159678055575211739:=0
def tw17507350970627079355:=0
def tw13518073686479762011:=0
def tw11945676047757765179:=0
def tw11474877407465704987:=0
def tw12433842793343882235:=0
def tw17947026962835355643:=0
def tw16240344819970415003:=0
def tw8005677840821959067:=0
def tw16794097141505294171:=0
def tw8942477351299724123:=0
def tw8341425854611424059:=0
def tw6070455479498824955:=0
def tw4544433280214197499:=0
def tw7410999424194103515:=0
def tw1758555137178460379:=0
def tw10094000560012083419:=0
def tw9327979670877738683:=0
def tw5064430700534287035:=0
def tw1935326662846957211:=0
def tw16369107966699830939:=0
def tw18352196769150885499:=0
def tw11667206015360215131:=0
def tw5648800581004144667:=0
def tw1645468425024231931:=0
def tw18408828635227677179:=0
def tw9801764325489964650:=0
def tw16070037261253588586:=0
def tw4633947295430254186:=0
def tw4306348155478284874:=0
def tw1404699817941296586:=0
def tw1187003000024524234:=0
def tw11491328406043149130:=0
def tw9154276076935615786:=0
def tw10727268686230335754:=0
def tw11621134097874074858:=0
def tw1999148103870999786:=0
def tw1139727448677838538:=0
def tw12392763459832499882:=0
def tw17232105656217498250:=0
def tw8740307957918517898:=0
def tw7053480012991198314:=0
def tw6396138923727776874:=0
def tw9921593119093064778:=0
def tw16968931786315467850:=0
def tw1506314525546792490:=0
def tw13501587309731432970:=0
def tw3018679630786658218:=0
def tw12657211040649216906:=0
def tw1942843535553102730:=0
def tw4954078649744995658:=0
def tw16396947480247493962:=0
def tw9430063899338613546:=0
def tw17132013059751586602:=0
def tw15226985437432863466:=0
def tw12082118288362122442:=0
def tw4150837380288736458:=0
def tw12318322570681003178:=0
def tw7713999572655803445:=0
def tw3654400963490134069:=0
def tw39692802767265813:=0
def tw3897185609591018517:=0
def tw12230755616827297781:=0
def tw10469140048647581141:=0
def tw1236757726524482005:=0
def tw5969071595573073813:=0
def tw4562019689923191669:=0
def tw14472679555462524213:=0
def tw17014928074130662709:=0
def tw10743437279651507477:=0
def tw7886464251781627157:=0
def tw14605644844874058997:=0
def tw5885245669084509909:=0
def tw16147843859082555093:=0
def tw433521007874277525:=0
def tw13575659760245881973:=0
def tw15101184126394015861:=0
def tw14763158778301005333:=0
def tw12584740086072234517:=0
def tw15237072374317889045:=0
def tw12673927066907260405:=0
def tw9219425044835134965:=0
def tw5448121401780523509:=0
def tw2569422308556718581:=0
def tw5718648747739731925:=0
def tw12255499255460377557:=0
def tw15033655589903422421:=0
def tw7064928821591895989:=0
def tw38016714549963157:=0
def tw1328203026491120437:=0
def tw1078119759566041909:=0
def tw17263305874397414613:=0
def tw8757766840871164117:=0
def tw5895568814023901365:=0
def tw7212077049075473013:=0
def tw8432583774558979701:=0
def tw2297884629818790517:=0
def tw249853619823194709:=0
def tw16514831144820041780:=0
def tw154400760793054708:=0
def tw785659705681540596:=0
def tw3142016427908327892:=0
def tw14184769742355834292:=0
def tw305544341002127796:=0
def tw9804584440299229524:=0
def tw8241792196095550804:=0
def tw6189878606011599124:=0
def tw15584528607908459220:=0
def tw403149104763249812:=0
def tw5293154214568132724:=0
def tw6829418962145924212:=0
def tw6396089499174229588:=0
def tw18350870032310672948:=0
def tw18024179751237505588:=0
def tw15265257165565557268:=0
def tw14411774332813311988:=0
def tw2037215825497270260:=0
def tw14622279482104106996:=0
def tw17642030812124497844:=0
def tw2032200849452463028:=0
def tw13190989715430039380:=0
def tw1461128755429969748:=0
def tw7739480338174567220:=0
def tw15525652439951469364:=0
def tw272820675057524500:=0
def tw13045336336966500116:=0
def tw13715037301092738676:=0
def tw8019244443501459060:=0
def tw13418095255207053396:=0
def tw16353735444253471831:=0
def tw11877272758016111703:=0
def tw2253831956475641943:=0
def tw5027050701112087639:=0
def tw9739549067219960919:=0
def tw16187669770895378487:=0
def tw11623129081667419639:=0
def tw14803973593302603255:=0
def tw6583658189028372407:=0
def tw12725384274937158583:=0
def tw4268483176217879447:=0
def tw6182735251488445303:=0
def tw15199634895235957623:=0
def tw2553169743288909143:=0
def tw1560739674927177015:=0
def tw13509380225057497399:=0
def tw4908617883516695831:=0
def tw14718877224112290551:=0
def tw9316855701256378071:=0
def tw9293197060346478743:=0
def tw2178874054630376599:=0
def tw6947755624885219927:=0
def tw13593462029317968439:=0
def tw9111834432849602103:=0
def tw4795365679148245527:=0
def tw11621441260041068055:=0
def tw3177374810400478199:=0
def tw14897503865523368375:=0
def tw3360359696157627831:=0
def tw7250236605442113975:=0
def tw5705164868452782519:=0
def tw8379691761437626775:=0
def tw5031528306865516951:=0
def tw8489594697536154999:=0
def tw10789269318567313783:=0
def tw5793634065330731863:=0
def tw16715078427032302359:=0
def tw13498661269367321847:=0
def tw7545207735067678935:=0
def tw6392246137959122135:=0
def tw8787538193177155799:=0
def tw11138991827315524694:=0
def tw6927244514024304694:=0
def tw17771344491459973622:=0
def tw12417483665996307958:=0
def tw851837831658773974:=0
def tw13436655743547126230:=0
def tw7163905340029806038:=0
def tw10887688222782875094:=0
def tw15260719540746781590:=0
def tw8857706438996699510:=0
def tw8371710925899267446:=0
def tw11789098075200942390:=0
def tw11252453271957127958:=0
def tw8746517435320157974:=0
def tw14288243535395506934:=0
def tw13909694655714943158:=0
def tw9826153629653895734:=0
def tw372037911633935926:=0
def tw4000254255238270518:=0
def tw17824431966496696310:=0
def tw7823788914780961782:=0
def tw6119634604515365846:=0
def tw7364727799626609622:=0
def tw5941451965022588342:=0
def tw6504142196089998774:=0
def tw12519372307744036278:=0
def tw12054226636472629686:=0
def tw10613098792496764310:=0
def tw344106835933608790:=0
def tw11563681223377559382:=0
def tw3392011949089099606:=0
def tw1835775167351669014:=0
def tw18065903180664417558:=0
def tw7965384403676313814:=0
def tw105670397757796022:=0
def tw16269913979078857366:=0
def tw5097258164741178913:=0
def tw10713455217420041761:=0
def tw4115139431547525665:=0
def tw10951799825374748161:=0
def tw9228861702089881569:=0
def tw8415475301505009569:=0
def tw7103168552676422017:=0
def tw14442299775801447745:=0
def tw10271600345863541057:=0
def tw2660462527448896289:=0
def tw13437983095075433665:=0
def tw5715504626523946145:=0
def tw7507589984792777345:=0
def tw11718181018817984129:=0
def tw7018609938796795457:=0
def tw9277862693603291169:=0
def tw11526416820519088161:=0
def tw11865490927748470785:=0
def tw7567578453194388481:=0
def tw12755025029797372321:=0
def tw8407913443104803713:=0
def tw5119204037346788193:=0
def tw10267616436348906305:=0
def tw659322490121172801:=0
def tw1374860759310124865:=0
def tw17173663452275152161:=0
def tw3620179534555695841:=0
def tw14490976859868862145:=0
def tw12159540639032090305:=0
def tw14134211696653861537:=0
def tw3641292873130911841:=0
def tw1966501168875580624:=0
def tw6514243959334787280:=0
def tw13041561604025163952:=0
def tw3932556772789897232:=0
def tw10556927079070936560:=0
def tw7667664232754378192:=0
def tw5212772058252645808:=0
def tw17859649191498010512:=0
def tw8285992613879862160:=0
def tw10193308164567284624:=0
def tw12569618282871095632:=0
def tw2093237696748620048:=0
def tw836023866091698928:=0
def tw188320997713190032:=0
def tw11328017837719241872:=0
def tw13071654953138377840:=0
def tw1353150094989242480:=0
def tw3399457951856813168:=0
def tw6778728966941513680:=0
def tw4421578428785784752:=0
def tw9192539771124035504:=0
def tw8104501518242272624:=0
def tw16109987922599803248:=0
def tw9844901032337366800:=0
def tw6843938677368556304:=0
def tw12711089287280934128:=0
def tw18054024639934027555:=0
def tw165512004999978179:=0
def tw9807258373317342851:=0
def tw13396873758279955075:=0
def tw8531016216408939619:=0
def tw18199648523549617219:=0
def tw15449257099246640643:=0
def tw12509836352606288387:=0
def tw10424237973039620579:=0
def tw3023208550225176035:=0
def tw495922224814890435:=0
def tw11794093398041804707:=0
def tw3871651118205009795:=0
def tw17283551132109723971:=0
def tw12159414235372477187:=0
def tw17885879749923728099:=0
def tw2069408472881733795:=0
def tw15146775283947968675:=0
def tw1380561076114846307:=0
def tw16802224540153111107:=0
def tw13072477342204791331:=0
def tw14647944675576623107:=0
def tw14377675721932656643:=0
def tw7984688795998486499:=0
def tw3025089032968794499:=0
def tw2121499861305074531:=0
def tw12442768332981193571:=0
def tw16520823742177923939:=0
def tw3733941338477092675:=0
def tw2460520610440366915:=0
def tw7752610877389023186:=0
def tw9065275083427718098:=0
def tw18402226497140597714:=0
def tw16156520008848338866:=0
def tw7476370435407953842:=0
def tw5265257234342644082:=0
def tw15198461312544855410:=0
def tw13336635038738072338:=0
def tw6614949801233824530:=0
def tw15763723971995059954:=0
def tw9410395543448449234:=0
def tw10203103662301271218:=0
def tw17443988593613722194:=0
def tw7094935488253678162:=0
def tw8023718648351425554:=0
def tw6639208456651236338:=0
def tw13208610330835459058:=0
def tw10856091171860746674:=0
def tw12392580203160203122:=0
def tw14363480424176948050:=0
def tw14539853377012826962:=0
def tw12330008691116871474:=0
def tw3205658636744973586:=0
def tw8417568129508030706:=0
def tw16822422532988744370:=0
def tw18264778627999654578:=0
def tw7785072791196740242:=0
def tw10515523057630848114:=0
def tw15090601207202809938:=0
def tw1739480634423721458:=0
def tw12243502899788411261:=0
def tw7540622725878967101:=0
def tw3744994275116515101:=0
def tw14749781587211263165:=0
def tw15352776879732447389:=0
def tw2276844592151831709:=0
def tw12468242718915028125:=0
def tw6754382447266112125:=0
def tw1330360140263815805:=0
def tw14053394754131666525:=0
def tw6288772104230657629:=0
def tw8247407361554551869:=0
def tw12864164401347602461:=0
def tw14958587330287130077:=0
def tw14233158274980645309:=0
def tw13890696154773478845:=0
def tw6084470015753763229:=0
def tw8223442369788591517:=0
def tw3733191282979964765:=0
def tw1948444855438922589:=0
def tw17270039274350146845:=0
def tw9724314301956843229:=0
def tw16304003579207932637:=0
def tw10919363088334238429:=0
def tw147462475299235965:=0
def tw8063655881757986941:=0
def tw13080669361057124445:=0
def tw3671119507240502365:=0
def tw5805772074220859965:=0
def tw1974991184573384253:=0
def tw7725525546516322877:=0
def tw1750697372193382973:=0
def tw15121266935063463421:=0
def tw6935186357093288445:=0
def tw13765711657511174045:=0
def tw12328388122253394268:=0
def tw15557539140243650332:=0
def tw3414282320120134428:=0
def tw7274545058543342844:=0
def tw16395906740228556028:=0
def tw4895147694713263324:=0
def tw846540829307187868:=0
def tw13752697480424053340:=0
def tw2479842679194462812:=0
def tw10641098489171224636:=0
def tw12947286908011097148:=0
def tw7270340846316263452:=0
def tw14083199755266806812:=0
def tw14728050957951959548:=0
def tw16244454129719940572:=0
def tw15379258510585217468:=0
def tw15942635668580064092:=0
def tw23846481722011964:=0
def tw16879183242697508156:=0
def tw10381736841947708156:=0
def tw2433941649124210396:=0
def tw9143033747581104860:=0
def tw9293071700815209180:=0
def tw3230665538982148828:=0
def tw4698078928951584444:=0
def tw8277438224732569756:=0
def tw12583961497265571932:=0
def tw14713922593208772700:=0
def tw3449806589632449052:=0
def tw18131837221697093148:=0
def tw6790922074669319164:=0
def tw4861266920641883100:=0
def tw947408779929796540:=0
def tw12491101990558177692:=0
def tw15997460247910476415:=0
def tw7662967271587627103:=0
def tw17518041069876923487:=0
def tw5047675038674354079:=0
def tw8055600650274684799:=0
def tw10214082651542290783:=0
def tw9832926661005544799:=0
def tw14390691399200539967:=0
def tw1182353519122890911:=0
def tw12210235684920383071:=0
def tw8089179297858288063:=0
def tw3653736315258789311:=0
def tw6181795549504412063:=0
def tw5215428772947680671:=0
def tw16186129184442965407:=0
def tw5016127580699214207:=0
def tw906944444043205471:=0
def tw10611744104309118815:=0
def tw14783469870902507199:=0
def tw7829344901711511231:=0
def tw17872128271015593631:=0
def tw18271466813858229374:=0
def tw1268758381565183070:=0
def tw14156623433230593118:=0
def tw14866990200668173406:=0
def tw8655203616360582206:=0
def tw5415077220900057150:=0
def tw3376134431434563102:=0
def tw3588450639183869438:=0
def tw16666454751277575646:=0
def tw14601210551293065150:=0
def tw9710833549606949822:=0
def tw1612139510487548830:=0
def tw1381194071946968446:=0
def tw5318723270577578366:=0
def tw92766737796310334:=0
def tw3272902753403448094:=0
def tw16888590895288586014:=0
def tw7917760875514687262:=0
def tw9921440027698046750:=0
def tw6394707328784551710:=0
def tw13139643276430952190:=0
def tw10630954904856435902:=0
def tw10295214811679726782:=0
def tw8510221073340430366:=0
def tw12945856777139418078:=0
def tw4045767502165953950:=0
def tw12112346819239971230:=0
def tw11650969215428450718:=0
def tw4495188335015476094:=0
def tw14743605015985751262:=0
def tw8622709470430366942:=0
def tw14523306375347795614:=0
def tw9682501919833026914:=0
def tw3646148378229957126:=0
end PySem.W.Fast
namespace HQ
class XH:Prop where
 x:∀(q:Program) (loose:List Str) (XP:(Str→Option Value)→Heap→Prop) (YP:World→Heap→Prop) (d:DefRec),d.name="answers"→(∀(w:World) (mg:Str→Option Value) (h:Heap),YP w h→h.Ns mainGlobals mg→∃(K:PySem.W.Frag) (c:Cl) (le ln:Addr),K.In h∧Txt K mg c le ln∧YM K mg c)→PySem.W.WalkOS q loose XP YP CH.rw_ d [] (fun f vs=>PySem.call f vs)
theorem PySem.W.holds_os [X:XH] {q:Program} {loose:List Str} {Xt:Shared→Bool} {XP:(Str→Option Value)→Heap→Prop} {α:Type} {Yf:Shared→α} {Ya:World→α} {YP:World→Heap→Prop} {N:Nat}
  (left:LeftO rw_.prog q1 loose1 (fun _=>true) Yf Ya N) (hY:∀w s,Yf s=Ya w→YP w s.heap) (hYk:∀w h h',YP w h→(∀b o,h.get? b=some o→h'.get? b=some o)→YP w h')
  (_:∀s,Xt s=true→XP (s.heap.nsMap mainGlobals) s.heap) (_:∀mg h h',XP mg h→(∀b o,h.get? b=some o→h'.get? b=some o)→XP mg h') (_ _ _:(0:Nat)=0) (_:∀s,Xt s=true→RecFacts [] s.heap)
  (hsh:∀as,rw_.pre as=true→WShape.hasAll [] as (rw_.args.map Codec.shape)=true) (k1:rw_.wellSaid=true) (_:(0:Nat)=0) (hb:rw_.prog.bare) (hw:∃args,rw_.pre args=true∧WData.layableAll args=true)
  (call:∀(w:World) (mg:Str→Option Value) (h:Heap),YP w h→h.Ns mainGlobals mg→∃(K:PySem.W.Frag) (c:Cl) (le ln:Addr),K.In h∧Txt K mg c le ln∧YM K mg c):rw_.Holds:=by
 obtain ⟨d,h1,h2,h3,h4⟩:=q1_def
 exact _root_.PySem.W.holds_os (r:=rw_) (XP:=fun _ _=>True) left hY hYk (fun _ _=>trivial) (fun _ _ _ _ _=>trivial) h1 h2 h3 (fun s _=>recFacts_of (R:=[]) (s:=s) rfl) hsh k1 q1_ok hb hw (XH.x q1 loose1 _ YP d h4 call)
theorem zsP {mg:Str→Option Value} {h:Heap} {K:PySem.W.Frag} (k:K.In h):(∃c le ln,Txt K mg c le ln∧YM K mg c)→∃(K:PySem.W.Frag) (c:Cl) (le ln:Addr),K.In h∧Txt K mg c le ln∧YM K mg c:=fun ⟨c,l,n,t,f⟩=>⟨K,c,l,n,k,t,f⟩
theorem h0 [X:XH]:PySem.Challenge.rw_callhouse_s01_answers.Holds:=by
 w_on
 k_headS
 (case hw=>exact ⟨[.list [.int 2,.int 0,.int 0]],by decide +kernel,by decide +kernel⟩)
 k_fillS
 ·intro w mg h Y G
  have KX:=PySem.W.kIn_of Y
  refine zsP KX ?_
  refine' CH.all_mk KX G ?zc_Endpoint ?zc_Target ?zc_Parameter ?zc_Via ?zc_Party ?zc_First ?zc_Header ?zc_Message ?zc_Entry ?zc_Place ?zc_Registration ?zc_Sending ?zc_Outcome ?zc_House ?zc_Desk ?zle ?zln ?zt ?zf
  (case zc_Endpoint=>k_is)
  (case zc_Target=>k_is)
  (case zc_Parameter=>k_is)
  (case zc_Via=>k_is)
  (case zc_Party=>k_is)
  (case zc_First=>k_is)
  (case zc_Header=>k_is)
  (case zc_Message=>k_is)
  (case zc_Entry=>k_is)
  (case zc_Place=>k_is)
  (case zc_Registration=>k_is)
  (case zc_Sending=>k_is)
  (case zc_Outcome=>k_is)
  (case zc_House=>k_is)
  (case zc_Desk=>k_is)
  (case zle=>k_is)
  (case zln=>k_is)
  case zt=>
   constructor
   all_goals first | walk_at "kf_gl" | walk_at "kf_no" | walk_at "kf_na" | walk_at "kf_cl" | walk_at "kf_eq" | walk_at "kf_tu" | walk_at "kf_sn"
  case zf=>
   constructor
   all_goals first | walk_at "kf_fn" | walk_at "kf_in" | walk_at "kf_mt"
end HQ
end
namespace CH
open Sa39
noncomputable abbrev B:=List Nat
noncomputable def z7 (c:Nat):Bool:=decide (32≤c)&&decide (c≤126)
noncomputable def zG (b:B) (most:Nat):Bool:=decide (1≤b.length)&&(decide (b.length≤most)&&b.all digit)
noncomputable def y8 (b:B) (most:Nat):Bool:=zG b most&&(decide (b.length=1)||!decide (b.head?=some 48))
theorem zjw:∀(t b:B),(decide (b.take t.length=t))=t.isPrefixOf b
 | [],b=>by simp
 | x::t,[]=>by simp
 | x::t,y::b=>by
  have ih:=zjw t b
  simp only [List.length_cons,List.take_succ_cons,List.isPrefixOf_cons_cons,← ih]
  by_cases h:x=y
  ·subst h;simp
  ·have h':¬ y=x:=fun e=>h e.symm
   simp [h,h']
noncomputable def idx (k:Nat) (b:B):Nat:=(b.takeWhile fun c=>c !=k).length
noncomputable def yL (k:Nat) (b:B):Int:=if idx k b < b.length then (idx k b:Int) else -1
theorem zk0 (k:Nat):∀b:B,idx k b≤b.length
 | []=>Nat.le_refl _
 | c::r=>by
  unfold idx;rw [List.takeWhile_cons];split
  ·have:=zk0 k r;unfold idx at this;simp only [List.length_cons];omega
  ·simp
theorem Yv (p:Nat→Bool):∀b:B,b.takeWhile p=b.take (b.takeWhile p).length
 | []=>rfl
 | c::r=>by
  rw [List.takeWhile_cons];split
  ·rw [List.length_cons,List.take_succ_cons,← Yv p r]
  ·rfl
theorem za8 (p:Nat→Bool):∀b:B,b.dropWhile p=b.drop (b.takeWhile p).length
 | []=>rfl
 | c::r=>by
  rw [List.takeWhile_cons,List.dropWhile_cons];split
  ·rw [List.length_cons,List.drop_succ_cons,← za8 p r]
  ·rfl
theorem JL (k:Nat) (b:B):cutAt k b=if idx k b < b.length then some (b.take (idx k b),b.drop (idx k b + 1)) else none:=by
 unfold cutAt idx
 rw [← Yv]
theorem znh {k:Nat}:∀{b:B} {i:Nat},i≤b.length→(∀(j c:Nat),j < i→b[j]?=some c→c≠k)→i≤idx k b
 | _,0,_,_=>Nat.zero_le _
 | [],i + 1,h,_=>by simp at h
 | c::r,i + 1,h,f=>by
  have h0:c≠k:=f 0 c (Nat.succ_pos _) rfl
  have ih:=znh (k:=k) (b:=r) (i:=i) (by simpa using h) fun j d hj e=>f (j + 1) d (by omega) (by simpa using e)
  unfold idx at ih ⊢
  rw [List.takeWhile_cons,if_pos (by simpa using h0),List.length_cons]
  omega
theorem zrd {k:Nat} {b:B} {i:Nat} (h:i≤idx k b) (e:b[i]?=some k):idx k b=i:=by
 have:∀{b:B} {i:Nat},i≤idx k b→b[i]?=some k→idx k b=i:=by
  intro b
  induction b with
  | nil=>intro i _ e;simp at e
  | cons c r ih=>
   intro i h e
   unfold idx at h ⊢
   rw [List.takeWhile_cons] at h ⊢
   split at h
   ·rename_i hc
    rw [if_pos hc]
    cases i with
    | zero=>simp at e;subst e;simp at hc
    | succ i=>
     rw [List.length_cons] at h ⊢
     have:=ih (i:=i) (by unfold idx;omega) (by simpa using e)
     unfold idx at this;omega
   ·rename_i hc
    rw [if_neg hc]
    simp at h;subst h;rfl
 exact this h e
theorem zhJ {k:Nat} {b:B} (f:∀(j c:Nat),b[j]?=some c→c≠k):idx k b=b.length:=
 Nat.le_antisymm (zk0 k b) (znh (Nat.le_refl _) fun j c _ e=>f j c e)
theorem zi4 (a b:B):natOf (a++b)=b.foldl (fun n c=>10 * n + (c - 48)) (natOf a):=by
 unfold natOf;rw [List.foldl_append]
theorem zk1:∀(b:B) (n:Nat),n * 10 ^ b.length≤b.foldl (fun n c=>10 * n + (c - 48)) n
 | [],n=>by simp
 | c::r,n=>by
  rw [List.foldl_cons,List.length_cons]
  have:=zk1 r (10 * n + (c - 48))
  refine Nat.le_trans ?_ this
  rw [Nat.pow_succ]
  have h:n * (10 ^ r.length * 10)=(10 * n) * 10 ^ r.length:=by rw [Nat.mul_comm (10 ^ r.length) 10,← Nat.mul_assoc,Nat.mul_comm n 10]
  rw [h]
  exact Nat.mul_le_mul_right _ (by omega)
theorem zos {b:B} (hd:b.all digit=true) (h0:b.head?≠some 48) (hl:4≤b.length):1000≤natOf b:=by
 cases b with
 | nil=>simp at hl
 | cons c r=>
  have hc:digit c=true:=by simp at hd;exact hd.1
  have h1:1≤c - 48:=by
   unfold digit at hc;simp at hc;simp at h0;omega
  have:=zk1 r (10 * 0 + (c - 48))
  have e:natOf (c::r)=r.foldl (fun n c=>10 * n + (c - 48)) (10 * 0 + (c - 48)):=rfl
  rw [e]
  refine Nat.le_trans ?_ this
  have h3:10 ^ 3≤10 ^ r.length:=Nat.pow_le_pow_right (by decide) (by simpa using hl)
  calc 1000=1 * 10 ^ 3:=by decide
   _≤(10 * 0 + (c - 48)) * 10 ^ r.length:=Nat.mul_le_mul (by omega) h3
theorem z8 {b:B} {m:Nat}:zG b m=true↔1≤b.length∧b.length≤m∧b.all digit=true:=by
 unfold zG;simp only [Bool.and_eq_true,decide_eq_true_eq]
theorem yM {b:B}:b≠[]↔1≤b.length:=by cases b <;> simp
theorem zaH (m:Nat) (b:B):digits m b=if zG b m=true then some (natOf b) else none:=by
 unfold digits
 by_cases h:zG b m=true
 ·rw [if_pos h];rw [z8] at h;rw [if_pos ⟨yM.mpr h.1,h.2⟩]
 ·rw [if_neg h];rw [z8] at h;rw [if_neg fun q=>h ⟨yM.mp q.1,q.2⟩]
theorem ZN {b:B} {m:Nat}:y8 b m=true↔(1≤b.length∧b.length≤m∧b.all digit=true)∧(b.length=1∨b.head?≠some 48):=by
 unfold y8;rw [Bool.and_eq_true,z8];simp
theorem zgz (most:Nat) (b:B):number most b=if y8 b 5=true∧natOf b≤most then some (natOf b) else none:=by
 unfold number
 by_cases h:y8 b 5=true∧natOf b≤most
 ·rw [if_pos h];rw [ZN] at h;rw [if_pos ⟨yM.mpr h.1.1.1,h.1.1.2.1,h.1.1.2.2,h.1.2,h.2⟩]
 ·rw [if_neg h];rw [ZN] at h;rw [if_neg fun q=>h ⟨⟨⟨yM.mp q.1,q.2.1,q.2.2.1⟩,q.2.2.2.1⟩,q.2.2.2.2⟩]
theorem zlQ (b:B):number 255 b=if y8 b 3=true∧natOf b≤255 then some (natOf b) else none:=by
 rw [zgz]
 by_cases h:y8 b 5=true∧natOf b≤255
 ·rw [if_pos h]
  have h5:=ZN.mp h.1
  have h3:b.length≤3:=by
   refine Nat.le_of_not_lt fun q=>?_
   have:=zos h5.1.2.2 (by rcases h5.2 with e | e <;> first | exact e | omega) q
   omega
  rw [if_pos ⟨ZN.mpr ⟨⟨h5.1.1,h3,h5.1.2.2⟩,h5.2⟩,h.2⟩]
 ·rw [if_neg h,if_neg]
  intro q
  have h3:=ZN.mp q.1
  exact h ⟨ZN.mpr ⟨⟨h3.1.1,by omega,h3.1.2.2⟩,h3.2⟩,q.2⟩
noncomputable def zqb:List B→Nat→Option Nat
 | [],acc=>some acc
 | p::r,acc=>if y8 p 3=true∧natOf p≤255 then zqb r (acc * 256 + natOf p) else none
theorem zaV {α β:Type} (f:α→Option β) (x:α) (r:List α):(x::r).mapM f=(f x).bind fun y=>(r.mapM f).bind fun ys=>some (y::ys):=by
 rw [List.mapM_cons];rfl
theorem zhE {α β:Type} (f:α→Option β):∀(l:List α) (m:List β),l.mapM f=some m→m.length=l.length
 | [],m,h=>by simp at h;subst h;rfl
 | x::r,m,h=>by
  rw [zaV] at h
  cases e:f x with
  | none=>rw [e] at h;cases h
  | some y=>
   rw [e] at h
   cases e2:r.mapM f with
   | none=>rw [e2] at h;cases h
   | some ys=>rw [e2] at h;cases h;simp [zhE f r ys e2]
theorem zdQ (b:B):addressOf b=if (splitBy 46 b []).length=4 then zqb (splitBy 46 b []) 0 else none:=by
 unfold addressOf
 generalize splitBy 46 b []=ps
 by_cases h:ps.length=4
 ·rw [if_pos h]
  match ps,h with
  | [p,q,r,s],_=>
   simp only [zaV,zlQ,List.mapM_nil,zqb]
   by_cases h1:y8 p 3=true∧natOf p≤255
   ·by_cases h2:y8 q 3=true∧natOf q≤255
    ·by_cases h3:y8 r 3=true∧natOf r≤255
     ·by_cases h4:y8 s 3=true∧natOf s≤255
      ·simp [h1,h2,h3,h4]
      ·simp [h1,h2,h3,h4]
     ·simp [h1,h2,h3]
    ·simp [h1,h2]
   ·simp [h1]
 ·rw [if_neg h]
  cases e:ps.mapM (number 255) with
  | none=>rfl
  | some l=>
   have hl:=zhE _ _ _ e
   match l with
   | []=>rfl
   | [_]=>rfl
   | [_,_]=>rfl
   | [_,_,_]=>rfl
   | [_,_,_,_]=>simp at hl;omega
   | _::_::_::_::_::_=>rfl
theorem zcH (b:B):trimmed (b++[32])=trimmed b:=by
 unfold trimmed;simp
theorem zjU (b:B) (c:Nat) (h:c≠32):trimmed (b++[c])=b++[c]:=by
 unfold trimmed;simp [h]
theorem zin {b:B} {e:Nat} (he:e≤b.length) (hb:∀(j c:Nat),e≤j→b[j]?=some c→c=32) (hx:e=0∨b[e - 1]?≠some 32):trimmed b=b.take e:=by
 have key:∀(n:Nat) (b:B),b.length=e + n→(∀(j c:Nat),e≤j→b[j]?=some c→c=32)→(e=0∨b[e - 1]?≠some 32)→trimmed b=b.take e:=by
  intro n
  induction n with
  | zero=>
   intro b hl _ hx
   rw [List.take_of_length_le (by omega)]
   rcases hx with h | h
   ·have:b=[]:=List.eq_nil_of_length_eq_zero (by omega)
    subst this;rfl
   ·rcases List.eq_nil_or_concat b with rfl | ⟨b',c,rfl⟩
    ·rfl
    ·rw [List.concat_eq_append] at h ⊢
     refine zjU b' c fun q=>h ?_
     subst q
     have hl':(b'.concat 32).length=e + 0:=by simpa using hl
     have:e - 1=b'.length:=by simp at hl';omega
     rw [this];simp
  | succ n ih=>
   intro b hl hb hx
   rcases List.eq_nil_or_concat b with rfl | ⟨b',c,rfl⟩
   ·simp at hl
   ·rw [List.concat_eq_append] at hl hb hx ⊢
    have hl':b'.length=e + n:=by simp at hl;omega
    have hc:c=32:=hb b'.length c (by omega) (by simp)
    subst hc
    rw [zcH,ih b' hl' (fun j d hj hd=>hb j d hj (by rw [List.getElem?_append_left (List.getElem?_eq_some_iff.mp hd).1];exact hd)) ?_]
    ·rw [List.take_append_of_le_length (by omega)]
    ·rcases hx with h | h
     ·exact .inl h
     ·by_cases h0:e=0
      ·exact .inl h0
      ·refine .inr fun q=>h ?_
       rw [List.getElem?_append_left (by omega)];exact q
 exact key (b.length - e) b (by omega) hb hx
theorem zl4 {b:B} {s:Nat} (hs:s≤b.length) (hb:∀(j c:Nat),j < s→b[j]?=some c→c=32) (hx:s=b.length∨b[s]?≠some 32):(b.dropWhile fun c=>c == 32)=b.drop s:=by
 induction b generalizing s with
 | nil=>simp
 | cons c r ih=>
  cases s with
  | zero=>
   rcases hx with h | h
   ·simp at h
   ·have:c≠32:=fun q=>h (by subst q;rfl)
    rw [List.dropWhile_cons,if_neg (by simpa using this)];rfl
  | succ s=>
   have hc:c=32:=hb 0 c (Nat.succ_pos _) rfl
   subst hc
   rw [List.dropWhile_cons,if_pos (by decide),List.drop_succ_cons]
   refine ih (by simpa using hs) (fun j d hj hd=>hb (j + 1) d (by omega) (by simpa using hd)) ?_
   rcases hx with h | h
   ·exact .inl (by simpa using h)
   ·exact .inr (by simpa using h)
theorem Yd (k:Nat) (r w:B):splitBy k (k::r) w=w::splitBy k r []:=by rw [splitBy,if_pos rfl]
theorem ZP (k:Nat) {c:Nat} (r w:B) (h:c≠k):splitBy k (c::r) w=splitBy k r (w++[c]):=by rw [splitBy,if_neg h]
end CH
namespace CH
open Sa39
theorem zi9:∀(n f g:Nat) (w b:B),b.length≤n→b.length + 1≤f→b.length + 1≤g→linesOf f w b=linesOf g w b:=by
 intro n
 induction n with
 | zero=>
  intro f g w b hn hf hg
  have:b=[]:=List.eq_nil_of_length_eq_zero (by omega)
  subst this
  cases f with
  | zero=>simp at hf
  | succ f=>cases g with
   | zero=>simp at hg
   | succ g=>rfl
 | succ n ih=>
  intro f g w b hn hf hg
  cases f with
  | zero=>simp at hf
  | succ f=>cases g with
   | zero=>simp at hg
   | succ g=>
    match b with
    | []=>rfl
    | [c]=>
     simp only [linesOf]
     rw [ih f g (w++[c]) [] (by simp) (by simpa using hf) (by simpa using hg)]
    | c::d::r=>
     by_cases h:c=13∧d=10
     ·obtain ⟨rfl,rfl⟩:=h
      simp only [linesOf]
      simp only [List.length_cons] at hn hf hg
      rw [ih f g [] r (by omega) (by omega) (by omega)]
     ·have e:∀k,linesOf (k + 1) w (c::d::r)=if 32≤c∧c≤126 then linesOf k (w++[c]) (d::r) else none:=by
       intro k
       rw [linesOf]
       intro r' q1 q2
       injection q2 with q2 q3
       exact h ⟨q1,q2⟩
      rw [e f,e g]
      simp only [List.length_cons] at hn hf hg
      rw [ih f g (w++[c]) (d::r) (by simp;omega) (by simp;omega) (by simp;omega)]
noncomputable def L (w b:B):Option (List B × B):=linesOf (b.length + 1) w b
theorem zs4 (w:B):L w []=none:=rfl
theorem zsg (w r:B):L w (13::10::r)=if w=[] then some ([],r) else (L [] r).map fun x=>(w::x.1,x.2):=by
 have e:∀k,linesOf (k + 1) w (13::10::r)=if w=[] then some ([],r) else (linesOf k [] r).map fun x=>(w::x.1,x.2):=fun k=>rfl
 unfold L
 rw [e]
 simp only [List.length_cons]
 rw [zi9 r.length (r.length + 1 + 1) (r.length + 1) [] r (Nat.le_refl _) (by omega) (by omega)]
theorem zrt (w r:B) (c:Nat) (h:z7 c=true):L w (c::r)=L (w++[c]) r:=by
 unfold z7 at h
 simp only [Bool.and_eq_true,decide_eq_true_eq] at h
 unfold L
 rw [List.length_cons,linesOf]
 ·rw [if_pos h]
 ·intro r' q1 q2
  omega
theorem zsh (w r:B) (c:Nat) (h:z7 c=false) (hn:∀r',c::r=13::10::r'→False):L w (c::r)=none:=by
 unfold L
 rw [List.length_cons,linesOf]
 ·rw [if_neg]
  intro q
  unfold z7 at h
  simp only [Bool.and_eq_false_iff,decide_eq_false_iff_not] at h
  omega
 ·exact fun r' q1 q2=>hn r' (by rw [q1,q2])
theorem zkJ (w:B):∀b:B,L w b=L (w++b.takeWhile z7) (b.drop (b.takeWhile z7).length)
 | []=>by simp
 | c::r=>by
  by_cases h:z7 c=true
  ·rw [zrt w r c h,zkJ (w++[c]) r,List.takeWhile_cons,if_pos h,List.length_cons,List.drop_succ_cons,List.append_assoc]
   rfl
  ·rw [List.takeWhile_cons,if_neg h];simp
noncomputable def ZD (b:B) (s:Nat):Int:=
 let n:=s + ((b.drop s).takeWhile z7).length
 if (b.drop n).take 2=[13,10] then (n:Int) else -1
theorem zdG:∀(b:B) (c:Nat) (r:B),b.drop (b.takeWhile z7).length=c::r→z7 c=false
 | [],c,r,h=>by simp at h
 | x::b,c,r,h=>by
  rw [List.takeWhile_cons] at h
  split at h
  ·exact zdG b c r (by simpa using h)
  ·rename_i hx
   simp only [List.length_nil,List.drop_zero] at h
   injection h with h1 h2
   subst h1
   simpa using hx
theorem zru {b:B} (h:¬ (b.drop (b.takeWhile z7).length).take 2=[13,10]):L [] b=none:=by
 rw [zkJ]
 generalize e:b.drop (b.takeWhile z7).length=d at h ⊢
 cases d with
 | nil=>rfl
 | cons c r=>
  refine zsh _ r c (zdG b c r e) fun r' q=>h ?_
  rw [q];rfl
theorem zrJ {d:B} (h:d.take 2=[13,10]):d=13::10::d.drop 2:=by
 match d,h with
 | [],h=>simp at h
 | [_],h=>simp at h
 | x::y::r,h=>
  simp only [List.take_succ_cons,List.take_zero] at h
  injection h with h1 h2
  injection h2 with h2 _
  subst h1;subst h2
  rfl
theorem zpn {b:B} (h:(b.drop (b.takeWhile z7).length).take 2=[13,10]):
  L [] b=if b.takeWhile z7=[] then some ([],b.drop 2) else (L [] (b.drop ((b.takeWhile z7).length + 2))).map fun x=>(b.takeWhile z7::x.1,x.2):=by
 rw [zkJ,zrJ h,zsg,List.nil_append,List.drop_drop]
 split
 ·rename_i q
  rw [q];rfl
 ·rfl
structure zed (b:B) (ls:List B) (s:Nat):Prop where
 le:s≤b.length
 sz:(ls.map fun l=>l.length + 2).sum=s
 eq:L [] b=(L [] (b.drop s)).map fun x=>(ls++x.1,x.2)
 sg:∀l ∈ ls,l.all z7=true∧l≠[]
theorem zed.start (b:B):zed b [] 0:=⟨Nat.zero_le _,rfl,by simp,by simp⟩
theorem zh9 (p:Nat→Bool):∀b:B,(b.takeWhile p).all p=true
 | []=>rfl
 | c::r=>by
  rw [List.takeWhile_cons];split
  ·rename_i h;simp [h]
  ·rfl
theorem zed.turn {b:B} {ls:List B} {s:Nat} (h:zed b ls s) {n:Nat} (e:ZD b s=(n:Int)) (hn:s < n):
  zed b (ls++[(b.drop s).take (n - s)]) (n + 2):=by
 unfold ZD at e
 simp only at e
 split at e
 ·rename_i h2
  have en:s + ((b.drop s).takeWhile z7).length=n:=by omega
  have hd:b.drop n=(b.drop s).drop ((b.drop s).takeWhile z7).length:=by rw [List.drop_drop,en]
  rw [en,hd] at h2
  have hne:(b.drop s).takeWhile z7≠[]:=by
   intro q;rw [q] at en;simp at en;omega
  have hl:=congrArg List.length h2
  simp only [List.length_take,List.length_drop,List.length_cons,List.length_nil] at hl
  have et:(b.drop s).take (n - s)=(b.drop s).takeWhile z7:=by
   rw [Yv z7 (b.drop s)];congr 1;omega
  refine ⟨by omega,?_,?_,?_⟩
  ·rw [et,List.map_append,List.sum_append,h.sz];simp;omega
  ·rw [h.eq,zpn h2,if_neg hne,et,List.drop_drop]
   have e3:s + (((b.drop s).takeWhile z7).length + 2)=n + 2:=by omega
   rw [e3,Option.map_map]
   congr 1
   funext x
   simp
  ·intro l hl
   rcases List.mem_append.mp hl with q | q
   ·exact h.sg l q
   ·have:l=(b.drop s).takeWhile z7:=by rw [← et];simpa using q
    subst this
    exact ⟨zh9 _ _,hne⟩
 ·omega
theorem zed.stop {b:B} {ls:List B} {s:Nat} (h:zed b ls s) (e:ZD b s=(s:Int)):L [] b=some (ls,b.drop (s + 2)):=by
 unfold ZD at e
 simp only at e
 split at e
 ·rename_i h2
  have e0:(b.drop s).takeWhile z7=[]:=List.eq_nil_of_length_eq_zero (by omega)
  have h3:((b.drop s).drop ((b.drop s).takeWhile z7).length).take 2=[13,10]:=by rw [List.drop_drop];exact h2
  rw [h.eq,zpn h3,if_pos e0,List.drop_drop]
  simp
 ·omega
theorem zed.none {b:B} {ls:List B} {s:Nat} (h:zed b ls s) (e:ZD b s=-1):L [] b=none:=by
 unfold ZD at e
 simp only at e
 split at e
 ·omega
 ·rename_i h2
  have h3:¬ ((b.drop s).drop ((b.drop s).takeWhile z7).length).take 2=[13,10]:=by rw [List.drop_drop];exact h2
  rw [h.eq,zru h3];rfl
theorem zcs (b:B) (s:Nat):ZD b s=-1∨∃n:Nat,ZD b s=(n:Int)∧s≤n:=by
 unfold ZD
 simp only
 split
 ·exact .inr ⟨_,rfl,by omega⟩
 ·exact .inl rfl
end CH
namespace CH
open Sa39
noncomputable def YK (b:B):Bool:=decide (1≤b.length∧b.length≤64)&&(decide (addressOf b=none)&&((b.head?.any alnum)&&((b.getLast?.any alnum)&&b.all (fun c=>alnum c||(c == 45||c == 46)))))
theorem Je (b:B):hostOf b=match addressOf b with
  | some n=>some (.address n)
  | none=>if YK b=true then some (.name (low b)) else none:=by
 unfold hostOf
 cases e:addressOf b with
 | some n=>rfl
 | none=>
  simp only
  by_cases h:YK b=true
  ·rw [if_pos h]
   unfold YK at h
   simp only [Bool.and_eq_true,decide_eq_true_eq] at h
   rw [if_pos ⟨yM.mpr h.1.1,h.1.2,h.2.2.2.2,h.2.2.1,h.2.2.2.1⟩]
  ·rw [if_neg h,if_neg]
   intro q
   refine h ?_
   unfold YK
   simp only [Bool.and_eq_true,decide_eq_true_eq]
   exact ⟨⟨yM.mp q.1,q.2.1⟩,e,q.2.2.2.1,q.2.2.2.2,q.2.2.1⟩
noncomputable def zdn (b:B):B:=if idx 58 b < b.length then b.take (idx 58 b) else b
noncomputable def ziQ (b:B):Nat:=if y8 b 5=true then natOf b else 0
noncomputable def zbz (b:B):Nat:=if idx 58 b < b.length then ziQ (b.drop (idx 58 b + 1)) else 5060
theorem ziK (b:B):sentBy b=if 1≤zbz b∧zbz b≤65535 then (hostOf (zdn b)).map fun h=>(h,zbz b) else none:=by
 unfold sentBy zdn zbz
 rw [JL]
 by_cases h:idx 58 b < b.length
 ·simp only [if_pos h]
  rw [zgz]
  unfold ziQ
  cases e:hostOf (b.take (idx 58 b)) with
  | none=>simp
  | some x=>
   by_cases h1:y8 (b.drop (idx 58 b + 1)) 5=true
   ·simp only [h1,true_and,if_true]
    by_cases h2:natOf (b.drop (idx 58 b + 1))≤65535
    ·by_cases h3:natOf (b.drop (idx 58 b + 1))=0
     ·simp [h3]
     ·have h4:1≤natOf (b.drop (idx 58 b + 1)):=by omega
      simp [h2,h3,h4]
    ·simp [h2]
   ·simp [h1]
 ·simp only [if_neg h]
  simp
noncomputable def zfM (r:B):Option B:=if idx 64 r < r.length then some (r.take (idx 64 r)) else none
noncomputable def Qy (r:B):B:=if idx 64 r < r.length then r.drop (idx 64 r + 1) else r
theorem Jj (b:B):targetOf b=if (ascii "sip:").isPrefixOf b=true∧(∀w,zfM (b.drop 4)=some w→wordOk w=true) then (sentBy (Qy (b.drop 4))).map fun x=>⟨zfM (b.drop 4),x.1,x.2⟩ else none:=by
 unfold targetOf
 by_cases h:(ascii "sip:").isPrefixOf b=true
 ·rw [if_neg (by rw [h];decide)]
  simp only [JL]
  unfold zfM Qy
  by_cases h1:idx 64 (b.drop 4) < (b.drop 4).length
  ·simp only [if_pos h1]
   by_cases h2:wordOk ((b.drop 4).take (idx 64 (b.drop 4)))=true
   ·simp [h,h2]
   ·simp [h,h2]
  ·simp only [if_neg h1]
   simp [h]
 ·rw [if_pos (Bool.eq_false_iff.mpr h),if_neg (fun q=>h q.1)]
noncomputable def znW (b:B):Bool:=decide (1≤b.length∧b.length≤128)&&b.all fun c=>!([59,44,60,62,34,32]:List Nat).contains c
theorem zla {b:B} (h:b.all z7=true):valueOk b=znW b:=by
 unfold valueOk znW
 have e:(b.all fun c=>decide (33≤c)&&(decide (c≤126)&&!([59,44,60,62,34]:List Nat).contains c))=b.all fun c=>!([59,44,60,62,34,32]:List Nat).contains c:=by
  induction b with
  | nil=>rfl
  | cons c r ih=>
   simp only [List.all_cons,Bool.and_eq_true] at h
   rw [List.all_cons,List.all_cons,ih h.2]
   congr 1
   have hc:=h.1
   unfold z7 at hc
   simp only [Bool.and_eq_true,decide_eq_true_eq] at hc
   rw [Bool.eq_iff_iff]
   simp
   omega
 rw [e]
 cases b with
 | nil=>rfl
 | cons c r=>
  rw [Bool.eq_iff_iff]
  simp
theorem zrG {p:Nat→Bool} {b:B} (h:b.all p=true) (n:Nat):(b.take n).all p=true:=by
 rw [List.all_eq_true] at h ⊢
 exact fun x hx=>h x (List.mem_of_mem_take hx)
theorem zcE {p:Nat→Bool} {b:B} (h:b.all p=true) (n:Nat):(b.drop n).all p=true:=by
 rw [List.all_eq_true] at h ⊢
 exact fun x hx=>h x (List.mem_of_mem_drop hx)
noncomputable def zf2 (b:B):B:=if idx 61 b < b.length then b.take (idx 61 b) else b
noncomputable def zmn (b:B):Option B:=if idx 61 b < b.length then some (b.drop (idx 61 b + 1)) else none
theorem zgu {b:B} (hs:b.all z7=true):paramOf b=if wordOk (zf2 b)=true∧(∀v,zmn b=some v→znW v=true) then some (low (zf2 b),zmn b) else none:=by
 unfold paramOf zf2 zmn
 rw [JL]
 by_cases h:idx 61 b < b.length
 ·simp only [if_pos h]
  rw [zla (zcE hs _)]
  simp
 ·simp only [if_neg h]
  simp
theorem YA (k:Nat):∀(b w:B),∃s r,splitBy k b w=(w++s)::r
 | [],w=>⟨[],[],by simp [splitBy]⟩
 | c::b,w=>by
  by_cases h:c=k
  ·subst h
   exact ⟨[],splitBy c b [],by rw [Yd];simp⟩
  ·obtain ⟨s,r,e⟩:=YA k b (w++[c])
   exact ⟨c::s,r,by rw [ZP k b w h,e];simp⟩
theorem zbA (b:B):paramsOf b=if (splitBy 59 b []).head?=some [] then (splitBy 59 b []).tail.mapM paramOf else none:=by
 cases b with
 | nil=>rfl
 | cons c r=>
  by_cases h:c=59
  ·subst h
   rw [Yd]
   rfl
  ·rw [ZP 59 r [] h]
   obtain ⟨s,t,e⟩:=YA 59 r ([]++[c])
   rw [e]
   have hp:paramsOf (c::r)=none:=by
    unfold paramsOf
    split
    ·rename_i q;cases q
    ·rename_i q
     injection q with q1 q2
     exact absurd q1 h
    ·rfl
   rw [hp,if_neg]
   intro q
   simp at q
theorem zbd {p:Nat→Bool} (k:Nat):∀(b w:B),b.all p=true→w.all p=true→∀x ∈ splitBy k b w,x.all p=true
 | [],w,_,hw=>by intro x hx;simp [splitBy] at hx;subst hx;exact hw
 | c::b,w,hb,hw=>by
  simp only [List.all_cons,Bool.and_eq_true] at hb
  intro x hx
  by_cases h:c=k
  ·subst h
   rw [Yd] at hx
   rcases List.mem_cons.mp hx with rfl | hx
   ·exact hw
   ·exact zbd c b [] hb.2 rfl x hx
  ·rw [ZP k b w h] at hx
   exact zbd k b (w++[c]) hb.2 (by simp [List.all_append] at hw ⊢;exact ⟨hw,hb.1⟩) x hx
noncomputable def zim (p:B × Option B):B:=p.2.getD []
noncomputable def Q3 (p:Params) (n:B):List B:=(p.filter fun y=>y.1 == n).map zim
theorem zoz {α β:Type} {f:α→Option β}:∀{l:List α} {m:List β},l.mapM f=some m→∀y ∈ m,∃x ∈ l,f x=some y
 | [],m,h,y,hy=>by simp at h;subst h;cases hy
 | x::r,m,h,y,hy=>by
  rw [zaV] at h
  cases e:f x with
  | none=>rw [e] at h;cases h
  | some z=>
   rw [e] at h
   cases e2:r.mapM f with
   | none=>rw [e2] at h;cases h
   | some zs=>
    rw [e2] at h;cases h
    rcases List.mem_cons.mp hy with rfl | hy
    ·exact ⟨x,List.mem_cons_self,e⟩
    ·obtain ⟨x',h1,h2⟩:=zoz e2 y hy
     exact ⟨x',List.mem_cons_of_mem _ h1,h2⟩
theorem zkH (b:B):atParams b=(b.take (idx 59 b),b.drop (idx 59 b)):=by
 unfold atParams idx
 rw [← Yv,za8]
theorem zgH (b:B):viaOf b=if (ascii "SIP/2.0/UDP ").isPrefixOf b=true∧idx 59 (b.drop 12) < (b.drop 12).length then
  (sentBy ((b.drop 12).take (idx 59 (b.drop 12)))).bind fun h=>(paramsOf ((b.drop 12).drop (idx 59 (b.drop 12)))).bind fun p=>
   if (Q3 p (ascii "branch")).length=1∧(ascii "z9hG4bK").isPrefixOf ((Q3 p (ascii "branch")).headD [])=true then some ⟨h.1,h.2,p,(Q3 p (ascii "branch")).headD []⟩ else none else none:=by
 unfold viaOf
 by_cases h:(ascii "SIP/2.0/UDP ").isPrefixOf b=true
 ·rw [if_neg (by rw [h];decide)]
  simp only [zkH]
  by_cases h1:idx 59 (b.drop 12) < (b.drop 12).length
  ·rw [if_pos ⟨h,h1⟩]
   congr 1
   funext x
   congr 1
   funext p
   unfold Q3
   cases e:p.filter fun y=>y.1 == ascii "branch" with
   | nil=>rfl
   | cons y r=>
    cases r with
    | nil=>
     obtain ⟨n,v⟩:=y
     cases v with
     | none=>rfl
     | some v=>simp [zim]
    | cons _ _=>simp
  ·rw [if_neg (fun q=>h1 q.2)]
   have e:(b.drop 12).drop (idx 59 (b.drop 12))=[]:=List.drop_eq_nil_of_le (by omega)
   rw [e]
   cases sentBy ((b.drop 12).take (idx 59 (b.drop 12))) with
   | none=>rfl
   | some x=>rfl
 ·rw [if_pos (Bool.eq_false_iff.mpr h),if_neg (fun q=>h q.1)]
theorem Jd {k:Nat} {b:B}:idx k b < b.length↔b[idx k b]?=some k:=by
 constructor
 ·intro h
  have:∀b:B,idx k b < b.length→b[idx k b]?=some k:=by
   intro b
   induction b with
   | nil=>intro h;simp at h
   | cons c r ih=>
    intro h
    unfold idx at h ⊢
    rw [List.takeWhile_cons] at h ⊢
    split at h
    ·rename_i hc
     rw [if_pos hc]
     simp only [List.length_cons] at h ⊢
     rw [List.getElem?_cons_succ]
     exact ih (by unfold idx;omega)
    ·rename_i hc
     rw [if_neg hc]
     simp at hc
     simp [hc]
  exact this b h
 ·intro h
  exact (List.getElem?_eq_some_iff.mp h).1
theorem zfd {k:Nat}:∀{b:B} {j c:Nat},j < idx k b→b[j]?=some c→c≠k
 | [],_,_,h,_=>by simp [idx] at h
 | x::b,j,c,h,e=>by
  unfold idx at h
  rw [List.takeWhile_cons] at h
  split at h
  ·rename_i hx
   cases j with
   | zero=>simp at e;subst e;simpa using hx
   | succ j=>
    simp only [List.length_cons] at h
    exact zfd (b:=b) (j:=j) (by unfold idx;omega) (by simpa using e)
  ·simp at h
theorem zpU {k n:Nat} {b:B} (h:n≤idx k b):idx k (b.take n)=(b.take n).length:=by
 refine zhJ fun j c e=>?_
 have hj:j < n:=by
  have:=(List.getElem?_eq_some_iff.mp e).1
  rw [List.length_take] at this;omega
 rw [List.getElem?_take_of_lt hj] at e
 exact zfd (by omega) e
theorem zhL {k n:Nat} {b:B}:(b.take n).contains k=decide (idx k b < n∧idx k b < b.length):=by
 rw [Bool.eq_iff_iff,List.contains_iff_mem,decide_eq_true_eq]
 constructor
 ·intro h
  obtain ⟨j,hj⟩:=List.mem_iff_getElem?.mp h
  have hn:j < n:=by
   have:=(List.getElem?_eq_some_iff.mp hj).1
   rw [List.length_take] at this;omega
  rw [List.getElem?_take_of_lt hn] at hj
  have hb:=(List.getElem?_eq_some_iff.mp hj).1
  have hle:idx k b≤j:=by
   refine Nat.le_of_not_lt fun q=>?_
   exact zfd q hj rfl
  omega
 ·rintro ⟨h1,h2⟩
  have:=Jd.mp h2
  exact List.mem_iff_getElem?.mpr ⟨idx k b,by rw [List.getElem?_take_of_lt h1];exact this⟩
theorem zoI {k n:Nat} {b:B} (h:n≤idx k b):idx k (b.drop n)=idx k b - n:=by
 induction n generalizing b with
 | zero=>rfl
 | succ n ih=>
  cases b with
  | nil=>simp [idx]
  | cons c r=>
   unfold idx at h
   rw [List.takeWhile_cons] at h
   split at h
   ·rename_i hc
    simp only [List.length_cons] at h
    rw [List.drop_succ_cons,ih (by unfold idx;omega)]
    unfold idx
    rw [List.takeWhile_cons,if_pos hc,List.length_cons]
    omega
   ·simp at h
theorem zdO {n:Nat} {b:B} (h0:0 < n) (h:n≤b.length):(b.take n).getLast?=b[n - 1]?:=by
 rw [List.getLast?_eq_getElem?,List.length_take,Nat.min_eq_left h,List.getElem?_take_of_lt (by omega)]
noncomputable abbrev zc4 (b:B):Prop:=idx 60 b < b.length∧idx 60 b < idx 62 b∧idx 62 b < b.length∧(idx 60 b=0∨b[idx 60 b - 1]?=some 32)
theorem zgB (b:B):namedOf b=if zc4 b then (targetOf ((b.drop (idx 60 b + 1)).take (idx 62 b - (idx 60 b + 1)))).bind fun t=>(paramsOf (b.drop (idx 62 b + 1))).map fun p=>⟨t,p⟩ else none:=by
 unfold namedOf
 rw [JL]
 by_cases h:idx 60 b < b.length
 ·rw [if_pos h]
  simp only [Option.bind_some]
  have c1:(b.take (idx 60 b)).contains 62=decide (idx 62 b < idx 60 b∧idx 62 b < b.length):=zhL
  have hne:b.take (idx 60 b)≠[]↔0 < idx 60 b:=by
   rw [yM,List.length_take];omega
  by_cases h2:idx 62 b < idx 60 b∧idx 62 b < b.length
  ·rw [if_pos (.inl (by rw [c1];exact decide_eq_true h2)),if_neg (by omega)]
  ·have n60:idx 62 b≠idx 60 b:=by
    intro q
    have e1:=Jd.mp h
    rw [← q] at e1
    have e2:=Jd.mp (show idx 62 b < b.length by omega)
    rw [e1] at e2
    simp at e2
   have hlt:idx 60 b < idx 62 b:=by
    have:=zk0 62 b
    omega
   by_cases h3:0 < idx 60 b∧b[idx 60 b - 1]?≠some 32
   ·rw [if_pos (.inr ⟨hne.mpr h3.1,by rw [zdO h3.1 (by omega)];exact h3.2⟩),if_neg]
    rintro ⟨_,_,_,q | q⟩
    ·omega
    ·exact h3.2 q
   ·rw [if_neg]
    ·rw [JL,zoI (by omega:idx 60 b + 1≤idx 62 b),List.length_drop]
     by_cases h4:idx 62 b < b.length
     ·have h6:idx 60 b=0∨b[idx 60 b - 1]?=some 32:=by
       by_cases h5:idx 60 b=0
       ·exact .inl h5
       ·exact .inr (Decidable.byContradiction fun q=>h3 ⟨by omega,q⟩)
      rw [if_pos (by omega),if_pos ⟨h,hlt,h4,h6⟩]
      show (targetOf _).bind _=_
      rw [List.drop_drop,show idx 60 b + 1 + (idx 62 b - (idx 60 b + 1) + 1)=idx 62 b + 1 by omega]
     ·rw [if_neg (by omega),if_neg (fun q=>h4 q.2.2.1)]
      rfl
    ·rintro (q | ⟨q1,q2⟩)
     ·rw [c1] at q
      exact h2 (of_decide_eq_true q)
     ·have h0:=hne.mp q1
      rw [zdO h0 (by omega)] at q2
      exact h3 ⟨h0,q2⟩
 ·rw [if_neg h,if_neg (fun q=>h q.1)]
  rfl
end CH
namespace CH
open Sa39
noncomputable def YZ (n:B):B:=(shorts.lookup n).getD n
noncomputable abbrev zpi (b:B):Prop:=(1≤idx 58 b∧idx 58 b≤32∧idx 58 b < b.length)∧(b.take (idx 58 b)).all (fun c=>alnum c||c == 45)=true
noncomputable def zfp (b:B):B:=trimmed ((b.drop (idx 58 b + 1)).dropWhile fun c=>c == 32)
theorem zfn (b:B):headerOf b=if zpi b then some ⟨YZ (low (b.take (idx 58 b))),zfp b,b⟩ else none:=by
 unfold headerOf
 rw [JL]
 by_cases h:idx 58 b < b.length
 ·rw [if_pos h]
  show (if b.take (idx 58 b)=[]∨32 < (b.take (idx 58 b)).length∨(b.take (idx 58 b)).all (fun c=>alnum c||c == 45)=false then none else _)=_
  have hl:(b.take (idx 58 b)).length=idx 58 b:=by rw [List.length_take];omega
  by_cases h2:zpi b
  ·rw [if_pos h2,if_neg]
   ·rfl
   ·rintro (q | q | q)
    ·have:=congrArg List.length q
     rw [hl] at this
     have:=h2.1.1
     simp at *
     omega
    ·rw [hl] at q;have:=h2.1.2.1;omega
    ·rw [h2.2] at q;cases q
  ·rw [if_neg h2,if_pos]
   by_cases h3:1≤idx 58 b
   ·by_cases h4:idx 58 b≤32
    ·exact .inr (.inr (Bool.eq_false_iff.mpr fun q=>h2 ⟨⟨h3,h4,h⟩,q⟩))
    ·exact .inr (.inl (by rw [hl];omega))
   ·exact .inl (List.eq_nil_of_length_eq_zero (by rw [hl];omega))
 ·rw [if_neg h,if_neg (fun q=>h q.1.2.2)]
  rfl
noncomputable def kinds:List (B × B):=[(ascii "via",ascii "v"),(ascii "from",ascii "f"),(ascii "to",ascii "t"),(ascii "call-id",ascii "i"),(ascii "contact",ascii "m"),(ascii "content-length",ascii "l"),(ascii "cseq",ascii "cseq"),(ascii "max-forwards",ascii "max-forwards"),(ascii "expires",ascii "expires")]
noncomputable def zlX (n:B):B:=match kinds.find? fun k=>n == k.1||n == k.2 with
 | some k=>k.1
 | none=>[]
theorem zkm (n:B):YZ n=if n=ascii "v" then ascii "via" else if n=ascii "f" then ascii "from" else if n=ascii "t" then ascii "to" else if n=ascii "i" then ascii "call-id" else if n=ascii "m" then ascii "contact" else if n=ascii "l" then ascii "content-length" else n:=by
 unfold YZ shorts
 simp only [List.lookup_cons]
 by_cases h1:n=ascii "v"
 ·subst h1;rfl
 ·rw [if_neg h1,show (n == ascii "v")=false from beq_eq_false_iff_ne.mpr h1]
  by_cases h2:n=ascii "f"
  ·subst h2;rfl
  ·rw [if_neg h2,show (n == ascii "f")=false from beq_eq_false_iff_ne.mpr h2]
   by_cases h3:n=ascii "t"
   ·subst h3;rfl
   ·rw [if_neg h3,show (n == ascii "t")=false from beq_eq_false_iff_ne.mpr h3]
    by_cases h4:n=ascii "i"
    ·subst h4;rfl
    ·rw [if_neg h4,show (n == ascii "i")=false from beq_eq_false_iff_ne.mpr h4]
     by_cases h5:n=ascii "m"
     ·subst h5;rfl
     ·rw [if_neg h5,show (n == ascii "m")=false from beq_eq_false_iff_ne.mpr h5]
      by_cases h6:n=ascii "l"
      ·subst h6;rfl
      ·rw [if_neg h6,show (n == ascii "l")=false from beq_eq_false_iff_ne.mpr h6]
       rfl
theorem znl {n:B} {k:B × B} (hk:k ∈ kinds):zlX n=k.1↔YZ n=k.1:=by
 have all:∀k ∈ kinds,∀n,(n=k.1∨n=k.2)→zlX n=k.1∧YZ n=k.1:=by
  intro k hk n h
  simp only [kinds,List.mem_cons,List.not_mem_nil,or_false] at hk
  rcases hk with rfl | rfl | rfl | rfl | rfl | rfl | rfl | rfl | rfl <;> rcases h with rfl | rfl <;> exact ⟨by decide +kernel,by decide +kernel⟩
 have inj:∀j ∈ kinds,∀k ∈ kinds,j.1=k.1→j=k:=by decide +kernel
 have nn:∀k ∈ kinds,k.1≠[]:=by decide +kernel
 by_cases h:∃j ∈ kinds,n=j.1∨n=j.2
 ·obtain ⟨j,hj,e⟩:=h
  obtain ⟨e1,e2⟩:=all j hj n e
  rw [e1,e2]
 ·have e1:zlX n=[]:=by
   unfold zlX
   rw [List.find?_eq_none.mpr]
   intro j hj q
   simp only [Bool.or_eq_true,beq_iff_eq] at q
   exact h ⟨j,hj,q⟩
  have e2:YZ n=n:=by
   rw [zkm]
   have h':∀j ∈ kinds,n≠j.2:=fun j hj q=>h ⟨j,hj,.inr q⟩
   rw [if_neg (h' (ascii "via",ascii "v") (by decide +kernel)),if_neg (h' (ascii "from",ascii "f") (by decide +kernel)),if_neg (h' (ascii "to",ascii "t") (by decide +kernel)),
    if_neg (h' (ascii "call-id",ascii "i") (by decide +kernel)),if_neg (h' (ascii "contact",ascii "m") (by decide +kernel)),if_neg (h' (ascii "content-length",ascii "l") (by decide +kernel))]
  rw [e1,e2]
  constructor
  ·intro q;exact absurd q.symm (nn k hk)
  ·intro q;exact absurd ⟨k,hk,.inl q⟩ h
noncomputable def zdM (first:First) (cseq:Nat × Bytes) (l:List Header):Option Nat:=match first with
 | .request m _ _=>if cseq.2=m then (oneOf l "max-forwards" (digits 3)).bind fun n=>if n≤255 then some n else none else none
 | .answer=>some 0
structure zif (b:B) (f:B) (hs:List B) (r:B) (m:Msg):Prop where
 first:firstOf f=some m.first
 line:m.line=f
 headers:hs.mapM headerOf=some m.headers
 body:m.body=r
 vias:(valuesOf m.headers "via").mapM viaOf=some m.vias
 from_:oneOf m.headers "from" namedOf=some m.from_
 to:oneOf m.headers "to" namedOf=some m.to
 id:oneOf m.headers "call-id" (fun v=>if idOk v=true then some v else none)=some m.id
 cseq:oneOf m.headers "cseq" cseqOf=some m.cseq
 contacts:(valuesOf m.headers "contact").mapM contactOf=some m.contacts
 expires:atMost m.headers "expires" (digits 9)=some m.expires
 hops:zdM m.first m.cseq m.headers=some m.hops
 novia:m.vias≠[]
 length:∃n,atMost m.headers "content-length" (digits 9)=some n∧(n.any fun k=>k !=r.length)=false
theorem zl6 {α β:Type} {o:Option α} {f:α→Option β} {y:β}:o.bind f=some y↔∃x,o=some x∧f x=some y:=by
 cases o <;> simp
theorem zgC {b:B} (h:16384 < b.length):msgOf b=none:=by unfold msgOf;rw [if_pos h]
theorem zcr {b:B} (h:L [] b=none):msgOf b=none:=by
 unfold msgOf
 unfold L at h
 rw [h]
 split <;> rfl
theorem zdI {b:B} {r:B} (h:L [] b=some ([],r)):msgOf b=none:=by
 unfold msgOf
 unfold L at h
 rw [h]
 split <;> rfl
theorem zi7 {b:B} {f:B} {hs:List B} {r:B} (hl:¬ 16384 < b.length) (h:L [] b=some (f::hs,r)) (m:Msg):msgOf b=some m↔zif b f hs r m:=by
 unfold L at h
 unfold msgOf
 rw [if_neg hl,h]
 show (do
  let first ← firstOf f
  let l ← hs.mapM headerOf
  let vias ← (valuesOf l "via").mapM viaOf
  let from_ ← oneOf l "from" namedOf
  let to ← oneOf l "to" namedOf
  let id ← oneOf l "call-id" fun v=>if idOk v=true then some v else none
  let cseq ← oneOf l "cseq" cseqOf
  let contacts ← (valuesOf l "contact").mapM contactOf
  let expires ← atMost l "expires" (digits 9)
  let length ← atMost l "content-length" (digits 9)
  let hops ← zdM first cseq l
  if vias=[]∨(length.any fun n=>n !=r.length)=true then none
  else some ⟨first,f,l,r,vias,from_,to,id,cseq,hops,contacts,expires⟩:Option Msg)=some m↔_
 simp only [Option.bind_eq_bind,zl6]
 constructor
 ·rintro ⟨first,e1,l,e2,vias,e3,from_,e4,to,e5,id,e6,cseq,e7,contacts,e8,expires,e9,length,e10,hops,e11,e⟩
  split at e
  ·cases e
  ·rename_i q
   cases e
   exact ⟨e1,rfl,e2,rfl,e3,e4,e5,e6,e7,e8,e9,e11,fun z=>q (.inl z),length,e10,Bool.eq_false_iff.mpr fun z=>q (.inr z)⟩
 ·rintro ⟨e1,e2,e3,e4,e5,e6,e7,e8,e9,e10,e11,e12,e13,n,e14,e15⟩
  refine ⟨m.first,e1,m.headers,e3,m.vias,e5,m.from_,e6,m.to,e7,m.id,e8,m.cseq,e9,m.contacts,e10,m.expires,e11,n,e14,m.hops,e12,?_⟩
  rw [if_neg (by rintro (q | q);exact e13 q;rw [e15] at q;cases q)]
  cases m
  simp only at e2 e4
  subst e2 e4
  rfl
end CH
namespace CH
open Sa39
theorem Jm (k:Nat):∀b w:B,splitBy k b w=if idx k b < b.length then (w++b.take (idx k b))::splitBy k (b.drop (idx k b + 1)) [] else [w++b]
 | [],w=>by simp [splitBy]
 | c::b,w=>by
  by_cases h:c=k
  ·subst h
   have e:idx c (c::b)=0:=by unfold idx;simp
   rw [Yd,e,if_pos (by simp)]
   simp
  ·have e:idx k (c::b)=idx k b + 1:=by unfold idx;simp [h]
   rw [ZP k b w h,Jm k b (w++[c]),e]
   by_cases h2:idx k b < b.length
   ·rw [if_pos h2,if_pos (by simp;omega)];simp
   ·rw [if_neg h2,if_neg (by simp;omega)];simp
theorem zpV {k:Nat} {p:Nat→Bool} (hp:p k=false) {b:B} (h:b.all p=true):idx k b=b.length:=
 zhJ fun j c e q=>by
  subst q
  rw [List.all_eq_true] at h
  rw [h c (List.mem_of_getElem? e)] at hp
  cases hp
theorem zi8 {m:B} (h:methodOk m=true):m.all great=true:=by
 unfold methodOk at h
 simp only [Bool.and_eq_true] at h
 exact h.2.2
theorem zjo (b:B):cseqOf b=match splitBy 32 b [] with
  | [d,m]=>if zG d 9=true∧methodOk m=true then some (natOf d,m) else none
  | _=>none:=by
 unfold cseqOf
 rw [JL,Jm]
 by_cases h:idx 32 b < b.length
 ·rw [if_pos h,if_pos h]
  simp only [Option.bind_some,List.nil_append]
  generalize b.take (idx 32 b)=d
  generalize b.drop (idx 32 b + 1)=m
  by_cases hm:methodOk m=true
  ·have e:splitBy 32 m []=[m]:=by
    rw [Jm,if_neg (by rw [zpV (p:=great) (by decide) (zi8 hm)];omega)]
    simp
   rw [e]
   simp only
   by_cases hd:zG d 9=true
   ·have hd':=z8.mp hd
    rw [if_pos (show zG d 9=true∧methodOk m=true from ⟨hd,hm⟩),if_pos (show d≠[]∧d.length≤9∧d.all digit=true∧methodOk m=true from ⟨yM.mpr hd'.1,hd'.2.1,hd'.2.2,hm⟩)]
   ·rw [if_neg (show ¬ (zG d 9=true∧methodOk m=true) from fun q=>hd q.1),if_neg (show ¬ (d≠[]∧d.length≤9∧d.all digit=true∧methodOk m=true) from fun q=>hd (z8.mpr ⟨yM.mp q.1,q.2.1,q.2.2.1⟩))]
  ·rw [if_neg (fun q=>hm q.2.2.2)]
   split
   ·rename_i d' m' e
    rw [if_neg]
    intro q
    injection e with e1 e2
    obtain ⟨s,r,e3⟩:=YA 32 m []
    rw [Jm] at e2
    split at e2
    ·rename_i h2
     injection e2 with e4 e5
     obtain ⟨s',r',e6⟩:=YA 32 (m.drop (idx 32 m + 1)) []
     rw [e6] at e5
     cases e5
    ·injection e2 with e4 e5
     simp at e4
     subst e4
     exact hm q.2
   ·rfl
 ·rw [if_neg h,if_neg h]
  rfl
noncomputable def zaW (b:B):Bool:=zG ((b.drop 8).take 3) 3&&(decide ((b.drop 11).take 1=[32])&&(decide (100≤natOf ((b.drop 8).take 3))&&decide (natOf ((b.drop 8).take 3)≤699)))
theorem za7 {b:B} (h:(ascii "SIP/2.0 ").isPrefixOf b=true):firstOf b=if zaW b=true then some .answer else none:=by
 unfold firstOf
 rw [if_pos h]
 simp only
 have e11:b.drop 11=(b.drop 8).drop 3:=by rw [List.drop_drop]
 unfold zaW
 rw [e11]
 generalize b.drop 8=r
 by_cases hq:4≤r.length∧(r.take 3).all digit=true∧100≤natOf (r.take 3)∧natOf (r.take 3)≤699∧r.getD 3 0=32
 ·rw [if_pos hq,if_pos]
  simp only [Bool.and_eq_true,decide_eq_true_eq]
  refine ⟨z8.mpr ⟨by rw [List.length_take];omega,by rw [List.length_take];omega,hq.2.1⟩,?_,hq.2.2.1,hq.2.2.2.1⟩
  match r,hq with
  | a::b::c::d::t,hq=>
   have:d=32:=hq.2.2.2.2
   subst this
   rfl
 ·rw [if_neg hq,if_neg]
  intro q
  simp only [Bool.and_eq_true,decide_eq_true_eq] at q
  obtain ⟨q1,q2,q3,q4⟩:=q
  have q1:=z8.mp q1
  match r,q2 with
  | a::b::c::d::t,q2=>
   have:d=32:=by simpa using q2
   exact hq ⟨by simp,q1.2.2,q3,q4,this⟩
theorem zfq {b:B} (h:(ascii "SIP/2.0 ").isPrefixOf b=false):firstOf b=match splitBy 32 b [] with
  | [m,t,v]=>if methodOk m=true∧v=ascii "SIP/2.0" then (targetOf t).map fun x=>.request m x t else none
  | _=>none:=by
 unfold firstOf
 rw [if_neg (by rw [h];decide)]
 rfl
noncomputable def zZ (l:List Header) (n:String):B:=match valuesOf l n with
 | [v]=>v
 | _=>[]
theorem Zg {α:Type} (l:List Header) (n:String) (f:B→Option α) (h:f []=none):oneOf l n f=f (zZ l n):=by
 unfold oneOf zZ
 split
 ·rename_i e;rw [e]
 ·rename_i e
  split
  ·rename_i v e2;exact absurd e2 (e v)
  ·exact h.symm
theorem Zh {α β:Type} {f:α→Option β}:∀{l:List α} {m:List β},l.mapM f=some m↔l.map f=m.map some
 | [],m=>by cases m <;> simp
 | x::r,m=>by
  rw [zaV]
  cases e:f x with
  | none=>cases m <;> simp [e]
  | some y=>
   cases m with
   | nil=>
    simp [e]
    cases r.mapM f <;> simp
   | cons z zs=>
    have ih:=Zh (f:=f) (l:=r) (m:=zs)
    cases e2:r.mapM f with
    | none=>
     rw [e2] at ih
     simp [e] at ih ⊢
     exact fun _=>ih
    | some ys=>
     rw [e2] at ih
     simp only [Option.some.injEq] at ih
     simp [e,ih]
theorem YJ {α β:Type} {f:α→Option β} {l:List α}:l.mapM f=none↔none ∈ l.map f:=by
 cases e:l.mapM f with
 | some m=>
  rw [Zh] at e
  rw [e]
  simp
 | none=>
  refine ⟨fun _=>?_,fun _=>rfl⟩
  refine Classical.byContradiction fun q=>?_
  have:∃m:List β,l.map f=m.map some:=by
   clear e
   induction l with
   | nil=>exact ⟨[],rfl⟩
   | cons x r ih=>
    rw [List.map_cons,List.mem_cons,not_or] at q
    obtain ⟨m,hm⟩:=ih q.2
    cases e:f x with
    | none=>exact absurd e.symm q.1
    | some y=>exact ⟨y::m,by rw [List.map_cons,hm,e];rfl⟩
  obtain ⟨m,hm⟩:=this
  rw [← Zh,e] at hm
  cases hm
theorem Qu:namedOf []=none:=rfl
theorem zdq:cseqOf []=none:=rfl
theorem zdp (n:Nat):digits n []=none:=by unfold digits;rw [if_neg (by simp)]
structure Fit (first:First) (l:List Header) (r:B):Prop where
 novia:valuesOf l "via"≠[]
 vias:none ∉ (valuesOf l "via").map viaOf
 contacts:none ∉ (valuesOf l "contact").map contactOf
 from_:(namedOf (zZ l "from")).isSome=true
 to:(namedOf (zZ l "to")).isSome=true
 id:idOk (zZ l "call-id")=true
 cseq:∃q,cseqOf (zZ l "cseq")=some q∧∀m t x,first=.request m t x→q.2=m
 hops:∀m t x,first=.request m t x→zG (zZ l "max-forwards") 3=true∧natOf (zZ l "max-forwards")≤255
 length:valuesOf l "content-length"=[]∨∃v,valuesOf l "content-length"=[v]∧zG v 9=true∧natOf v=r.length
 expires:valuesOf l "expires"=[]∨∃v,valuesOf l "expires"=[v]∧zG v 9=true
theorem QA {l:List Header} {n:String} {k:Nat} {o:Option Nat}:atMost l n (digits k)=some o↔(valuesOf l n=[]∧o=none)∨∃v,valuesOf l n=[v]∧zG v k=true∧o=some (natOf v):=by
 unfold atMost
 cases e:valuesOf l n with
 | nil=>simp;exact eq_comm
 | cons v r=>
  cases r with
  | nil=>
   simp only [zaH]
   by_cases h:zG v k=true
   ·simp [h];exact eq_comm
   ·simp [h]
  | cons _ _=>simp
theorem zrf {b f:B} {hs:List B} {r:B} {m:Msg} (h:zif b f hs r m):Fit m.first m.headers r:=by
 obtain ⟨h1,h2,h3,h4,h5,h6,h7,h8,h9,h10,h11,h12,h13,n,h14,h15⟩:=h
 rw [Zg _ _ _ Qu] at h6 h7
 rw [Zg _ _ _ zdq] at h9
 rw [Zg _ _ _ (by rfl)] at h8
 refine ⟨?_,?_,?_,by rw [h6];rfl,by rw [h7];rfl,?_,⟨m.cseq,h9,?_⟩,?_,?_,?_⟩
 ·intro q
  rw [q] at h5
  simp at h5
  exact h13 (by first | exact h5 | exact h5.symm)
 ·rw [← YJ,h5];simp
 ·rw [← YJ,h10];simp
 ·by_cases q:idOk (zZ m.headers "call-id")=true
  ·exact q
  ·rw [if_neg q] at h8;cases h8
 ·intro mm t x e
  rw [e] at h12
  unfold zdM at h12
  simp only at h12
  split at h12
  ·assumption
  ·cases h12
 ·intro mm t x e
  rw [e] at h12
  unfold zdM at h12
  simp only at h12
  split at h12
  ·rw [Zg _ _ _ (zdp 3),zaH] at h12
   by_cases q:zG (zZ m.headers "max-forwards") 3=true
   ·rw [if_pos q] at h12
    simp only [Option.bind_some] at h12
    split at h12
    ·exact ⟨q,by assumption⟩
    ·cases h12
   ·rw [if_neg q] at h12;cases h12
  ·cases h12
 ·rcases QA.mp h14 with ⟨e,_⟩ | ⟨v,e1,e2,e3⟩
  ·exact .inl e
  ·refine .inr ⟨v,e1,e2,?_⟩
   rw [e3] at h15
   simpa using h15
 ·rcases QA.mp h11 with ⟨e,_⟩ | ⟨v,e1,e2,e3⟩
  ·exact .inl e
  ·exact .inr ⟨v,e1,e2⟩
theorem zq0 {b f:B} {hs:List B} {r:B} {first:First} {l:List Header} (hf:firstOf f=some first) (hl:hs.mapM headerOf=some l) (h:Fit first l r):∃m,zif b f hs r m∧m.first=first∧m.headers=l:=by
 obtain ⟨h1,h2,h3,h4,h5,h6,⟨q,h7,h7'⟩,h8,h9,h10⟩:=h
 obtain ⟨vias,ev⟩:∃vias,(valuesOf l "via").mapM viaOf=some vias:=by
  cases e:(valuesOf l "via").mapM viaOf with
  | none=>exact absurd (YJ.mp e) h2
  | some x=>exact ⟨x,rfl⟩
 obtain ⟨contacts,ec⟩:∃x,(valuesOf l "contact").mapM contactOf=some x:=by
  cases e:(valuesOf l "contact").mapM contactOf with
  | none=>exact absurd (YJ.mp e) h3
  | some x=>exact ⟨x,rfl⟩
 obtain ⟨fr,ef⟩:=Option.isSome_iff_exists.mp h4
 obtain ⟨to,et⟩:=Option.isSome_iff_exists.mp h5
 obtain ⟨ex,ee⟩:∃x,atMost l "expires" (digits 9)=some x:=by
  rcases h10 with e | ⟨v,e1,e2⟩
  ·exact ⟨none,QA.mpr (.inl ⟨e,rfl⟩)⟩
  ·exact ⟨_,QA.mpr (.inr ⟨v,e1,e2,rfl⟩)⟩
 obtain ⟨n,en,en2⟩:∃x,atMost l "content-length" (digits 9)=some x∧(x.any fun k=>k !=r.length)=false:=by
  rcases h9 with e | ⟨v,e1,e2,e3⟩
  ·exact ⟨none,QA.mpr (.inl ⟨e,rfl⟩),rfl⟩
  ·exact ⟨_,QA.mpr (.inr ⟨v,e1,e2,rfl⟩),by simp [e3]⟩
 obtain ⟨hp,eh⟩:∃x,zdM first q l=some x:=by
  unfold zdM
  cases first with
  | answer=>exact ⟨0,rfl⟩
  | request m t x=>
   obtain ⟨a1,a2⟩:=h8 m t x rfl
   simp only
   rw [if_pos (h7' m t x rfl),Zg _ _ _ (zdp 3),zaH,if_pos a1]
   simp only [Option.bind_some]
   rw [if_pos a2]
   exact ⟨_,rfl⟩
 refine ⟨⟨first,f,l,r,vias,fr,to,zZ l "call-id",q,hp,contacts,ex⟩,⟨hf,rfl,hl,rfl,ev,?_,?_,?_,?_,ec,ee,eh,?_,n,en,en2⟩,rfl,rfl⟩
 ·rw [Zg _ _ _ Qu];exact ef
 ·rw [Zg _ _ _ Qu];exact et
 ·rw [Zg _ _ _ (by rfl),if_pos h6]
 ·rw [Zg _ _ _ zdq];exact h7
 ·intro e
  simp only at e
  subst e
  have:=zhE _ _ _ ev
  exact h1 (List.eq_nil_of_length_eq_zero this.symm)
end CH
namespace CH
open Sa39
noncomputable def zrC (d:Nat):Nat:=if d < 10 then 48 + d else 87 + d
theorem zpC:∀i:Nat,i < 16→2 ^ (60 - 4 * i)=16 ^ (15 - i):=by decide +kernel
theorem zoN (n:Nat):hex16 n=(List.range 16).map fun i=>zrC (n / 2 ^ (60 - 4 * i) % 16):=by
 unfold hex16
 refine List.map_congr_left fun i hi=>?_
 rw [zpC i (List.mem_range.mp hi)]
 rfl
theorem QK (n:Nat):(hex16 n).length=16:=by unfold hex16;simp
theorem znw {M:Nat} {f:Nat→Nat→Nat} (hf:∀n c,f n c < M):∀(b:B) (n:Nat),n < M→b.foldl f n < M
 | [],_,h=>h
 | _::b,n,_=>znw hf b _ (hf _ _)
theorem zqw (b:B):Sa39.sum b < 2 ^ 64:=
 znw (fun n c=>Nat.mod_lt _ (Nat.two_pow_pos 64)) b 0xCBF29CE484222325 (by omega)
noncomputable def zV (ls:List B):B:=ls.flatMap fun l=>l++[13,10]
theorem yN:zV []=[]:=rfl
theorem zH (l:B) (ls:List B):zV (l::ls)=l++([13,10]++zV ls):=by unfold zV;simp
theorem Zu (a b:List B):zV (a++b)=zV a++zV b:=by unfold zV;simp
theorem zhG (ls:List B):(zV ls).length=(ls.map fun l=>l.length + 2).sum:=by
 induction ls with
 | nil=>rfl
 | cons l ls ih=>rw [zH];simp [ih];omega
theorem zp3 {n:Nat} (h:n < 10 ^ 10):(decimal n).length≤10:=by
 unfold decimal
 rw [List.length_map]
 exact (Nat.length_toDigits_le_iff (by decide) (by decide)).mpr h
end CH
namespace CH
open Sa39
theorem p64:(2:Nat) ^ 64=18446744073709551616:=by decide +kernel
theorem zkt {α β:Type} (f:α→β→α) (a:α) (b:List β) (n:β):(b++[n]).foldl f a=f (b.foldl f a) n:=by rw [List.foldl_append,List.foldl_cons,List.foldl_nil]
theorem zn3 (b:B) (n:Nat):Sa39.sum (b++[n])=(Sa39.sum b ^^^ n) * 1099511628211 % 18446744073709551616:=by
 rw [← p64]
 unfold Sa39.sum
 exact zkt _ _ _ _
theorem sum_nil:Sa39.sum []=14695981039346656037:=by
 unfold Sa39.sum
 rw [List.foldl_nil]
theorem zn2 (x n:Nat):((x ^^^ n:Nat):Int) * 1099511628211 % 18446744073709551616=(((x ^^^ n) * 1099511628211 % 18446744073709551616:Nat):Int):=by
 rw [Int.natCast_emod,Int.natCast_mul]
 generalize ((x ^^^ n:Nat):Int)=y
 congr 1
end CH
namespace L2
open PySem PySem.Spec PyProof.Rows
theorem zrD {i:Nat} {v:V} {σ:St} {H:Hp} {Q:St→Hp→Prop} (h:Q (σ.set i (some v)) H):Jf i v σ H Q:=h
theorem tnx {D:zk9} {σ:St} {H:Hp} (h:D.nx σ H):zqt D σ H:=h
theorem zf1 {te:TE} {D:zk9} {σ:St} {H:Hp} (h:te σ H D.rt):zqs te D σ H:=h
noncomputable def zrw (t:TE):TE:=fun σ H Q=>∃P:VK,t σ H P∧∀v H',P v H'→Q v H'
theorem yX {X:Cx} {e:Expr} {t:TE} (h:PE X e t):PE X e (zrw t):=by
 intro pins s σ H Q I q
 obtain ⟨P,q1,q2⟩:=q
 exact thn (h pins s σ H P I q1) fun v s1 ⟨x,H1,I1,r1,p⟩=>⟨x,H1,I1,r1,q2 x H1 p⟩
noncomputable def zsL (t:TS):TS:=fun D σ H=>∃P:St→Hp→Prop,t {D with nx:=P} σ H∧∀σ' H',P σ' H'→D.nx σ' H'
theorem zsu {X:Cx} {st:Stmt} {t:TS} (h:PS X st t):PS X st (zsL t):=by
 intro pins s σ H D I q
 obtain ⟨P,q1,q2⟩:=q
 refine thn (h pins s σ H _ I q1) fun f s1 hf=>?_
 cases f with
 | next=>
  obtain ⟨σ',H',I',p⟩:=hf
  exact ⟨σ',H',I',q2 σ' H' p⟩
 | brk=>exact hf
 | cont=>exact hf
 | ret u=>exact hf
noncomputable def zrN (t:TT):TT:=fun σ H Q=>∃P:Bool→Hp→Prop,t σ H P∧∀b H',P b H'→Q b H'
theorem Za {X:Cx} {e:Expr} {t:TT} (h:PT X e t):PT X e (zrN t):=by
 intro pins s σ H Q I q
 obtain ⟨P,q1,q2⟩:=q
 exact thn (h pins s σ H P I q1) fun b s1 ⟨H1,I1,p⟩=>⟨H1,I1,q2 b H1 p⟩
theorem zom {X:Cx} {K:PySem.W.Frag} {o e:Expr} {to te:TE} {apos pos:Pos} (ho:PE X o to) (he:PE X e te) (hn:ZM e=true:=by rfl) (hK:X.K=K:=by rfl) (hbase:attributeBase o "join" X.env (eval o X.env)=eval o X.env:=by rfl) (hline:(apos.endLine == pos.line)=true:=by rfl):
  PE X (.Call (.Attribute o "join" apos) [e] [] pos) (tM1 (fun x xs H Q=>∃a p,∃ys:List Str,x=.str a∧xs=[.ref p]∧(SqL K H p (ys.map V.str)∨SqT K H p (ys.map V.str))∧
   (ys.map (·.length)).sum + ys.length * a.length≤16777216∧Q (.str (Txt.join a ys)) H) to te):=by
 subst hK
 exact zpF ho he (by rw [zcI hn,starEach]) hbase hline
end L2
namespace L2
open PySem PySem.Spec PyProof.Rows
theorem zC.seqT {K:PySem.W.Frag} {H H':Hp} {a:Addr} {xs:List V} (e:zC H H') (h:SqT K H a xs):SqT K H' a xs:=by
 rcases h with (h | ⟨o,h⟩) | h
 ·exact .inl (.inl (e _ _ h))
 ·exact .inl (.inr ⟨o,e _ _ h⟩)
 ·exact .inr h
theorem zoC {K:PySem.W.Frag} {a:Addr} {xs:List V} {te:TE} {j:Nat} {σ:St} {H1:Hp} {Q:VK} (f:V→V) (hl:SqT K H1 a xs) (hz:xs.length≤sizeLine)
  (hs:∀x H2 Q',x ∈ xs→zC H1 H2→(∀H3,zC H2 H3→Q' (f x) H3)→te ((ZO σ [j]).set j (some x)) H2 Q')
  (hq:∀p H2,zC H1 H2→H1 p=none→H2 p=some (.lst (xs.map f))→Q (.ref p) H2):
  ∀D,H1 D=none→∃W:Nat→Nat→Hp→Prop,(∃m,W 0 m (upd H1 D (.lst [])))∧∀i m H,W i m H→
   ((Itt K a).stop i H∧Q (.ref D) H)∨((Itt K a).go i H∧∃Nx:Hp→Prop,(∀H',Nx H'→∃m',m' < m∧W (i + 1) m' H')∧∀x H',(Itt K a).yld i H x H'→Jf j x (ZO σ [j]) H' fun σ2 H2=>ZO σ2 [j]=ZO σ [j]∧ziq σ2 H2 fun b H3=>
    if b=true then te σ2 H3 fun y H4=>∃acc,H4 D=some (.lst acc)∧acc.length < sizeLine∧Nx (upd H4 D (.lst (acc++[y]))) else Nx H3):=by
 intro D hD
 refine zq1 (K:=K) (a:=a) (xs:=xs) (vs:=[j]) (fun i H=>zC H1 H∧H D=some (.lst ((xs.take i).map f))) ⟨zd hD,za⟩ (fun i H _ h=>h.1.seqT hl) ?_ (fun H h=>hq D H h.1 hD (by rw [h.2,List.take_length]))
 intro i x H hx ⟨hs1,hD1⟩
 refine ⟨zmq σ j (some x),?_⟩
 unfold ziq
 refine zdL ?_
 refine hs x H _ (List.mem_of_getElem? hx) hs1 fun H3 s3=>⟨_,s3 _ _ hD1,?_,?_,?_⟩
 ·rw [List.length_map,List.length_take]
  have:=(List.getElem?_eq_some_iff.mp hx).1
  omega
 ·intro b o e
  have hb:=zy e hD
  rw [zv hb]
  exact s3 b o (hs1 b o e)
 ·rw [za,List.take_add_one,hx,List.map_append]
  rfl
theorem zpx {K:PySem.W.Frag} {ta:TA} {te:TE} {j:Nat} {σ:St} {H:Hp} {Q:VK} {xs:List V} (f:V→V) (hz:xs.length≤sizeLine)
  (hs:∀x H2 Q',x ∈ xs→zC H H2→(∀H3,zC H2 H3→Q' (f x) H3)→te ((ZO σ [j]).set j (some x)) H2 Q')
  (hq:∀p H2,zC H H2→H p=none→H2 p=some (.lst (xs.map f))→Q (.ref p) H2) (hv:∀Q':List V→Hp→Prop,Q' xs H→ta σ H Q'):tLc (zr4 K (zsl ta)) (Jf j) ziq te [j] σ H Q:=
 hv _ ⟨hz,fun t ht=>⟨t,rfl,⟨xs,SqT.of za⟩,zoC (Q:=Q) f (SqT.of za) hz (fun x H2 Q' hx s2=>hs x H2 Q' hx ((zd ht).trans s2)) fun p H2 s2 hp e=>hq p H2 ((zd ht).trans s2) ((zd ht).free hp) e⟩⟩
theorem zaC {n:Nat} (h:n < 2 ^ 64):n.log2 < 1920:=by
 by_cases h0:n=0
 ·subst h0;decide
 ·exact Nat.lt_trans ((Nat.log2_lt h0).mpr h) (by decide)
end L2
namespace L2
open PySem PySem.Spec PyProof.Rows
section
open PySem.W
variable {prog:Program} {w:World} {A:Around} {E:Value→Shared→Prop} {K:PySem.W.Frag} {x C:Addr} {ox:Obj} {od:Option Obj} {s:Shared}
theorem zft {Q:Value→Shared→Prop} (X:K.In s.heap) (I:InstAt s.heap x ox C od) (e:zn1 K C) (hq:Q .notImplemented s):
  wpAny (model prog w) A (call (.builtin "object.__eq__") [.ref x,.none]) Q E s:=by
 have L0:=I.type (M:=model prog w)
 have L1:=looks_mroIn (M:=model prog w) X e.mro
 refine wpAny_call (codeAny_call_builtin F.cmp_object.eq.plain F.cmpEntry_eq ?_)
 simp only [checkBuiltinCall,F.cmpKind_eq,F.cmpSplit_eq]
 refine wpAny_bind ?_
 unfold isInstance
 repeat lk
 exact hq
theorem zfN {Q:Option Value→Shared→Prop} (X:K.In s.heap) (I:InstAt s.heap x ox C od) (e:zn1 K C) (hq:Q Option.none s):
  wpAny (model prog w) A (tryCompare (.ref x) "__eq__" .none) Q E s:=by
 unfold tryCompare
 simp only [callSpecialIfBound?,bindSpecialIfBound?]
 refine wpAny_bind (wpAny_holding (wpAny_bind (wpAny_bind (wpAny_bind (I.type.here ((looks_findIn X e.eq).here ?_))))))
 simp only [F.cmp_object.eq.bind]
 refine wpAny_bind (wpAny_askSetting (wpAny_ite ?_))
 have fin:wpAny (model prog w) A (call (.builtin "object.__eq__") ([.ref x]++[.none]) >>=fun v=>pure (some v)) (fun v s'=>v=some .notImplemented∧s'=s) E s:=
  wpAny_bind (zft X I e (wpAny_pure ⟨rfl,rfl⟩))
 have fin2:wpAny (model prog w) A (call (.builtin "object.__eq__") ([.ref x]++[.none]) >>=fun v=>pure (some v)) (fun v s'=>wpAny (model prog w) A (match v with
  | some .notImplemented | Option.none=>pure Option.none
  | some v=>pure (some v)) Q E s') E s:=wpAny_mono fin (fun v s' h=>by
   obtain ⟨rfl,rfl⟩:=h
   exact wpAny_pure hq) fun _ _ e=>e
 split
 ·exact wpAny_bind (wpAny_pure (wpAny_pure fin2))
 ·exact wpAny_tryCatch (wpAny_bind (wpAny_pure (wpAny_pure fin2)))
theorem RcAt.ins_none (X:K.In s.heap) (I:InstAt s.heap x ox C od) (e:zn1 K C) (hu:A.units < cLine):SeqAt.RcAt A s (.ref x) .none false:=fun prog w E Q h=>by
 unfold richCompare
 simp only [oneThing_ref]
 refine wpAny_holding (wpAny_bind (wpAny_cRoomFor hu ?_))
 refine wpAny_bind (I.type.here (wpAny_bind (wpAny_typeOf (s:=s) (v:=.none) (T:="NoneType") rfl ?_)))
 have hne:(Value.ref C !=Value.type "NoneType")=true:=by rfl
 simp only [hne,if_true]
 have hs:subIn K (.type "NoneType") (.ref C)=some false:=rfl
 refine wpAny_bind ((looks_subIn X hs).here ?_)
 simp only [Bool.false_eq_true,if_false,Bool.not_false,if_true]
 refine wpAny_bind (m:=tryCompare (.ref x) _ .none) (zfN X I e ?_)
 refine wpAny_bind (m:=tryCompare .none _ (.ref x)) (wpAny_tryCompare_declines (T:="NoneType") rfl F.slot_NoneType_eq_refl (call_gives F.slot_NoneType_eq_refl rfl F.entry_NoneType_eq (F.args_NoneType_eq_2 _ _) (SeqAt.NoneType___eq___none_ref_0 x) ⟨rfl,?_⟩))
 exact wpAny_bind (wpAny_rule (wpAny_bind (wpAny_of_eq (rfl:isSame (.ref x) .none=pure false) (wpAny_pure h))))
theorem EqAt.ins_none (X:K.In s.heap) (I:InstAt s.heap x ox C od) (e:zn1 K C) (hu:A.units < cLine):SeqAt.EqAt A s (.ref x) .none false:=fun prog w E Q h=>by
 unfold eqBool
 refine wpAny_holding ?_
 refine wpAny_ite_split (fun hab=>absurd (eq_of_beq hab) nofun) (fun _=>?_)
 exact wpAny_bind (RcAt.ins_none X I e hu prog w E _ (wpAny_truthy_bool h))
end
noncomputable def zpz (K:PySem.W.Frag) (C:Addr):R2:=fun x y H Q=>x=.non∧∃p xs,y=.ref p∧SqL K H p xs∧(∀v ∈ xs,v=.non∨∃a dx fs,v=.ref a∧H a=some (.ins C dx fs))∧zn1 K C∧Q (.bl (decide (V.non ∈ xs))) H
noncomputable def zfk:Value→Bool
 | .none=>true
 | _=>false
theorem zik:∀{xs:List V} {us:List Value},yU xs us→(∀v ∈ xs,v=.non∨∃a,v=V.ref a)→us.any zfk=decide (V.non ∈ xs)
 | _,_,.nil,_=>rfl
 | _,_,.cons (a:=a) (b:=u) r t,h=>by
  rw [List.any_cons,zik t fun v hv=>h v (List.mem_cons_of_mem _ hv)]
  rcases h a List.mem_cons_self with rfl | ⟨b,rfl⟩
  ·cases r;simp [zfk]
  ·cases r;simp [zfk]
theorem Paired.mem_right {α β:Type} {F:α→β→Prop}:∀{l:List α} {m:List β} {y:β},Paired F l m→y ∈ m→∃x,x ∈ l∧F x y
 | _,_,_,.cons r t,h=>by
  rcases List.mem_cons.mp h with rfl | h
  ·exact ⟨_,List.mem_cons_self,r⟩
  ·obtain ⟨x,h1,h2⟩:=Paired.mem_right t h
   exact ⟨x,List.mem_cons_of_mem _ h1,h2⟩
theorem zcd {X:Cx} {K:PySem.W.Frag} {C:Addr} (hu:X.A.units + 64 < cLine) (hK:X.K=K:=by rfl):OpR X (compareOp .In) (zpz K C):=by
 subst hK
 intro pins s σ H x y v u Q I rx ry h
 obtain ⟨rfl,p,xs,rfl,hl,hx,he,q⟩:=h
 cases rx;cases ry
 obtain ⟨its,r1,p1,_⟩:=I.list hl
 refine SeqAt.in_listAt zfk p1.isList (fun y hy=>?_) ⟨.bl _,H,I,rfl,?_⟩
 ·have hy:y ∈ its:=by simpa using hy
  obtain ⟨z,hz,rz⟩:=Paired.mem_right r1 hy
  rcases hx z hz with rfl | ⟨a,dx,fs,rfl,ha⟩
  ·cases rz;exact SeqAt.EqAt.same _
  ·cases rz
   obtain ⟨mA,ob,_⟩:=zhI I.hok ha
   obtain ⟨od,i,_⟩:=ob.look
   exact EqAt.ins_none I.kIn i he (by show X.A.units + 1 < cLine;omega)
 ·have e:its.toArray.any zfk=decide (V.non ∈ xs):=by
   rw [List.any_toArray]
   exact zik r1 fun v hv=>(hx v hv).imp id fun ⟨a,_,_,e,_⟩=>⟨a,e⟩
  rw [e]
  exact q
namespace LR
theorem zqY:typeLookup (.type "list_reverseiterator") "__len__"=pure Option.none:=by rw [typeLookup_type,builtinLookup_eq_fast];kernel_rfl
theorem zsU:typeLookup (.type "list_reverseiterator") "__length_hint__"=pure (some (.builtin "list_reverseiterator.__length_hint__")):=by rw [typeLookup_type,builtinLookup_eq_fast];kernel_rfl
section
variable {prog:Program} {w:World} {A:Around} {E:Value→Shared→Prop} {s:Shared}
theorem zoK {r l:Addr} {i:Int} {Q:Bool→Shared→Prop} (hr:s.heap.IsRevIter r l i) (h:Q false s):wpAny (model prog w) A (Builtin.List.listLengthHint (.ref r)) Q E s:=by
 unfold Builtin.List.listLengthHint
 refine wpAny_bind (wpAny_specialOf hr.typeIs zqY ?_)
 show wpAny _ A (specialOf (Value.ref r) (Str.ofString "__length_hint__") >>=_) _ _ _
 refine wpAny_bind (wpAny_specialOf hr.typeIs zsU ?_)
 generalize hid:("list_reverseiterator.__length_hint__":String)=id0
 wp_delta
 rw [show splitId id0=some ("list_reverseiterator","__length_hint__") from by subst hid;decide +kernel]
 subst hid
 refine wpAny_bind (wpAny_isInstance (T:="list_reverseiterator") (b:=true) hr.typeIs (by rw [isSubtype_type];kernel_rfl) ?_)
 refine wpAny_ite_split (fun hab=>absurd hab (by decide)) (fun _=>?_)
 refine wpAny_ite_split (fun _=>?_) (fun hab=>absurd (by decide +kernel) hab)
 refine wpAny_ite_split (fun hab=>absurd hab (by decide +kernel)) (fun _=>?_)
 exact wpAny_pure h
theorem zl3 {R:Result→Shared→Prop} {r l:Addr} {items:Array Value} (hh:A.handled=none) (hne:l≠r) (hr:s.heap.IsRevIter r l ((items.size:Int) - 1)) (hl:s.heap.IsList l items) (hn:items.size≤sizeLine) (S:Addr) (res:Value) (c₀:Nat)
  (hSr:S≠r) (hSl:S≠l) (hS:s.heap.get? S=some {cls:=.type "list",data:=.seq #[] c₀})
  (hR:∀h' tk acc' c',(∀b o,b≠S→b≠r→s.heap.get? b=some o→h'.get? b=some o)→h'.get? S=some {cls:=.type "list",dict:=none,data:=.seq acc' c',slots:=#[]}→
   ItemsOf (fun i v=>items[items.size - 1 - i]?=some v) acc' items.size→R (.ok (.ret res)) {s with heap:=h',toks:=tk}):
  wpAny (model prog w) A.in1 (Builtin.List.listExtendWith (.ref S) (.ref r) res)
   (fun fin s'=>match fin with | .done f=>R (.ok f) s' | .again c'=>c'.quiet=true∧codeAny (model prog w) A c' R s') (fun e s'=>R (.error e) s') s:=by
 have W:=(Walks.listRev (prog:=prog) (w:=w) (A:=A.in1) hh r l hne items).toS
 unfold Builtin.List.listExtendWith
 refine wpAny_bind (wpAny_typeOf hr.typeIs ?_)
 have h1:Builtin.List.listSameRef (.ref S) (.ref r)=false:=by simp [Builtin.List.listSameRef,hSr]
 have h2:(Value.type "list_reverseiterator" == Value.type "list")=false:=by decide
 have h3:(Value.type "list_reverseiterator" == Value.type "tuple")=false:=by decide
 simp only [h1,h2,h3,Bool.or_false,Bool.false_eq_true,if_false]
 refine wpAny_bind (wpAny_pyIter_revIter hr ?_)
 refine wpAny_bind (wpAny_holding (zoK hr ?_))
 rw [if_neg (by decide)]
 have e0:(items.size:Int) - 1 - ((0:Nat):Int)=(items.size:Int) - 1:=by omega
 refine wpAny_pure ⟨plainId_quiet F.plain_extend_loop _,codeAny_extend_loopS W hn _ (by simp [hSr,hSl]) _ items.size 0 _ _ _ rfl (Nat.zero_le _) ⟨Nat.zero_le _,by rw [e0];exact hr,hl⟩ hS (ItemsOf.nil _) fun s' acc' c' hm hS' hacc=>?_⟩
 rw [Moved.eq_with hm]
 refine hR s'.heap s'.toks acc' c' (fun b ob hb hb2 e=>hm.heap b ob (fun hmem=>?_) e) hS' hacc
 rcases List.mem_cons.mp hmem with e' | hmem
 ·exact hb e'
 ·exact hb2 (List.mem_singleton.mp hmem)
theorem call_list_rev {Q:Value→Shared→Prop} {r l:Addr} {items:Array Value} (hh:A.handled=none) (hne:l≠r) (hr:s.heap.IsRevIter r l ((items.size:Int) - 1)) (hl:s.heap.IsList l items) (hn:items.size≤sizeLine)
  (hQ:∀h' tk acc' c',(∀b o,b≠r→s.heap.get? b=some o→h'.get? b=some o)→
   h'.get? s.heap.objs.size=some {cls:=.type "list",dict:=none,data:=.seq acc' c',slots:=#[]}→ItemsOf (fun i v=>items[items.size - 1 - i]?=some v) acc' items.size→Q (.ref s.heap.objs.size) {s with heap:=h',toks:=tk}):
  wpAny (model prog w) A (call (.type "list") [.ref r]) Q E s:=by
 refine callType_codes (Q₁:=fun obj s₁=>obj=.ref s.heap.objs.size∧s₁={s with heap:=s.heap.push {cls:=.type "list",data:=.seq #[]}}) F.called_list (F.typeCall_list_1 _) F.entry_list_init
  (code_list_new _ ⟨rfl,rfl⟩) fun obj s₁ h₁=>?_
 obtain ⟨rfl,rfl⟩:=h₁
 have hS:(s.heap.push {cls:=.type "list",data:=.seq #[]}).get? s.heap.objs.size=some {cls:=.type "list",data:=.seq #[]}:=Heap.get?_push_size _ rfl
 have hSr:s.heap.objs.size≠r:=by obtain ⟨o,ho,_⟩:=hr;exact (Nat.ne_of_lt (Heap.lt_size ho)).symm
 have hSl:s.heap.objs.size≠l:=by obtain ⟨o,ho,_⟩:=hl;exact (Nat.ne_of_lt (Heap.lt_size ho)).symm
 refine ⟨⟨_,hS,rfl⟩,F.args_list_init_2 _ _,?_⟩
 show wpAny _ _ (do let old ← Builtin.List.listItems (.ref s.heap.objs.size);Builtin.List.listUpdate (.ref s.heap.objs.size) (fun _=>#[]);letGo old.toList.reverse;Builtin.List.listExtendWith (.ref s.heap.objs.size) (.ref r) .none) _ _ _
 refine wpAny_bind ?_
 unfold Builtin.List.listItems
 refine wpAny_bind (wpAny_seqItems hS rfl (wpAny_pure ?_))
 show wpAny _ _ (updateSeq s.heap.objs.size (fun _=>#[]) >>=fun _=>letGo (#[]:Array Value).toList.reverse >>=fun _=>Builtin.List.listExtendWith (.ref s.heap.objs.size) (.ref r) .none) _ _ _
 refine wpAny_bind (wpAny_updateSeq hS rfl ?_)
 have hS₂:=Heap.get?_update_self (Obj.mapSeq (fun _=>(#[]:Array Value))) hS rfl
 have oth:∀b o,s.heap.get? b=some o→((s.heap.push {cls:=.type "list",data:=.seq #[]}).update s.heap.objs.size (Obj.mapSeq (fun _=>(#[]:Array Value)))).get? b=some o:=
  fun b o e=>(Heap.get?_update_other _ _ (Nat.ne_of_gt (Heap.lt_size e))).trans (Heap.get?_push_of_some _ e)
 refine wpAny_bind (wpAny_letGo ?_)
 refine zl3 (A:=A.in1) hh hne (hr.at fun o e=>oth r o e) (hl.at fun o e=>oth l o e) hn _ .none _ hSr hSl hS₂ fun h' tk acc' c' hk hS' hacc=>?_
 exact ⟨rfl,hQ h' tk acc' c' (fun b o hb e=>hk b o (Nat.ne_of_lt (Heap.lt_size e)) hb (oth b o e)) hS' hacc⟩
end
end LR
theorem zlG {X:Cx} {K:PySem.W.Frag} {e:Expr} {te:TE} {p1 p2 p3 p4:Pos} (hg:Gl X "list") (hg2:Gl X "reversed") (hm:X.mg "list"=none) (hm2:X.mg "reversed"=none) (he:PE X e te) (hc:X.calm=true:=by rfl) (hK:X.K=K:=by rfl) (hn:ZM e=true:=by rfl):
  PE X (.Call (.Name "list" p1) [.Call (.Name "reversed" p2) [e] [] p3] [] p4) (fun σ H Q=>te σ H fun x H1=>∃a xs,x=.ref a∧SqL K H1 a xs∧∀l,H1 l=none→Q (.ref l) (upd H1 l (.lst xs.reverse))):=by
 subst hK
 intro pins s σ H Q I h
 refine wpAny_Call_Name_kw (zgF I hg hm znP ?_)
 have hs:=zcI (e:=Expr.Call (.Name "reversed" p2) [e] [] p3) (es:=[]) (env:=X.env) rfl
 refine PyProof.Rows.callWith_type1 ?_ hs (by rw [starEach];rfl)
 rw [hs,starEach]
 show wpAny _ _ (spliced ((false,eval (Expr.Call (.Name "reversed" p2) [e] [] p3) X.env)::backTo p4 [])) _ _ s
 refine Calls.spliced_cons ?_
 refine Call_ (zgF I hg2 hm2 zge (PyProof.Rows.callWith_type1 (thn (zl he zb hn p3 pins s σ H (fun vs H1=>match vs with
  | [x]=>∃a xs,x=V.ref a∧SqL X.K H1 a xs∧∀l,H1 l=none→Q (.ref l) (upd H1 l (.lst xs.reverse))
  | _=>False) I h) fun us s1 ⟨vs,H1,I1,r1,q1⟩=>?_) (zcI hn) (by rw [starEach];rfl)))
 cases vs with
 | nil=>exact q1.elim
 | cons x vs=>
 cases vs with
 | cons _ _=>exact q1.elim
 | nil=>
 obtain ⟨a,xs,rfl,hl,q⟩:=q1
 obtain ⟨u,rfl,ru⟩:=r1.one
 cases ru
 obtain ⟨its,rv,p,hz⟩:=I1.list hl
 have hlen:=rv.length
 refine call_reversed_list p.isList ?_
 refine Calls.spliced_nil ?_
 have ha:=p.isList
 have hlt:a < s1.heap.objs.size:=by obtain ⟨o,ho,_⟩:=id ha;exact Heap.lt_size ho
 have kp:∀b o,s1.heap.get? b=some o→(s1.heap.push (revObj a ((its.toArray.size:Int) - 1))).get? b=some o:=fun b o e=>Heap.get?_push_of_some _ e
 refine LR.call_list_rev (r:=s1.heap.objs.size) (l:=a) (items:=its.toArray) (I.ok.hd hc) (Nat.ne_of_lt hlt) ⟨_,Heap.get?_push_size _ rfl,rfl,rfl⟩ (ha.at fun o e=>kp a o e) (by rw [List.size_toArray];omega) fun h' tk acc c k e hi=>?_
 have hD:(s1.heap.push (revObj a ((its.toArray.size:Int) - 1))).objs.size=s1.heap.objs.size + 1:=by simp [Heap.push]
 rw [hD] at e ⊢
 have hacc:acc.toList=its.reverse:=by
  obtain ⟨h1,h2⟩:=hi
  refine List.ext_getElem? fun j=>?_
  rw [Array.getElem?_toList]
  by_cases hj:j < its.length
  ·have hj':j < acc.size:=by rw [h1,List.size_toArray];exact hj
   have:=h2 j acc[j] (Array.getElem?_eq_getElem hj')
   rw [Array.getElem?_eq_getElem hj',List.getElem?_reverse hj]
   rw [List.size_toArray] at this
   rw [← this]
   simp
  ·rw [Array.getElem?_eq_none (by rw [h1,List.size_toArray];omega),List.getElem?_eq_none (by rw [List.length_reverse];omega)]
 refine ⟨.ref _,_,I1.laid (a:=s1.heap.objs.size + 1) (o:=.lst xs.reverse) (fun b o eb=>k b o (Nat.ne_of_lt (Heap.lt_size eb)) (kp b o eb)) (Nat.le_succ _) (show za0 X.prog X.w _ h' _ (.lst xs.reverse) from ⟨by rw [List.length_reverse];exact hz,its.reverse,c,rv.reverse,?_⟩),rfl,q _ (I1.hok.fresh (Nat.le_succ _))⟩
 rw [e,← hacc]
theorem Qn {K:PySem.W.Frag} {tl0 te:TE} {tt:TT} {j:Nat} {σ:St} {H:Hp} {Q:VK} {β:Type} (R:Hp→V→β→Prop) (mono:∀G G' v y,zC G G'→R G v y→R G' v y) (P:VK) (h1:tl0 σ H P)
  (h2:∀v H1,P v H1→∃(a:Addr) (xs:List V) (G1:Hp) (out:Nat→Option β),v=.ref a∧SqL K H1 a xs∧zC G1 H1∧
   (∀i x G2 H2 (P:Option V→Hp→Prop),xs[i]?=some x→zJ G1 H1 G2 H2→(match out i with
    | none=>∀G3 H3,zJ G2 H2 G3 H3→P none H3
    | some y=>∀v G3 H3,zJ G2 H2 G3 H3→R G3 v y→P (some v) H3)→tt ((ZO σ [j]).set j (some x)) H2 fun b H3=>if b=true then te ((ZO σ [j]).set j (some x)) H3 fun v H4=>P (some v) H4 else P none H3)∧
   (∀p vs G2 H2,zJ G1 H1 G2 H2→H1 p=none→G2 p=none→H2 p=some (.lst vs)→Paired (R G2) vs ((List.range xs.length).filterMap out)→Q (.ref p) H2)):
  tLc (zfm K (zrw tl0)) (Jf j) tt te [j] σ H Q:=by
 refine ⟨P,h1,fun v H1 hP=>?_⟩
 obtain ⟨a,xs,G1,out,e,hl,sg,hs,hq⟩:=h2 v H1 hP
 exact ⟨a,xs,e,hl,fun hz=>zq4 (Q:=Q) R mono out hl hz sg hs hq⟩
theorem zfH {te:TE} {i:Nat} {D:zk9} {σ:St} {H:Hp} (h:te σ H fun x H1=>D.nx (σ.set i (some x)) H1):zrx te (Jf i) D σ H:=h
theorem zJ.grab {G H H1:Hp} (sg:zC G H) (s:zC H H1) (S:List Addr) (hS:∀b ∈ S,H b=none):∃G',zJ G H G' H1∧∀b ∈ S,G' b=H1 b:=by
 refine ⟨fun b=>if b ∈ S then H1 b else G b,⟨fun b o e=>?_,s,fun b o e=>?_,fun b h1 h2=>?_⟩,fun b hb=>if_pos hb⟩
 ·have:b ∉ S:=fun hb=>by rw [sg.free (hS b hb)] at e;cases e
  show (if b ∈ S then H1 b else G b)=some o
  rw [if_neg this];exact e
 ·have e':(if b ∈ S then H1 b else G b)=some o:=e
  split at e'
  ·exact e'
  ·exact s _ _ (sg _ _ e')
 ·have:b ∉ S:=fun hb=>h2 (hS b hb)
  show (if b ∈ S then H1 b else G b)=none
  rw [if_neg this];exact h1
theorem zJ.pub {G H G' H':Hp} {p:Addr} {o:HO} (g:zJ G H G' H') (hp:H p=none) (hG:G' p=none) (e:H' p=some o):zJ G H (upd G' p o) H':=by
 refine ⟨g.gg.trans (zd hG),g.hh,fun b u q=>?_,fun b h1 h2=>?_⟩
 ·by_cases hb:b=p
  ·subst hb;rw [za] at q;cases q;exact e
  ·rw [zv hb] at q;exact g.gh b u q
 ·by_cases hb:b=p
  ·subst hb;exact absurd hp h2
  ·rw [zv hb];exact g.sep b h1 h2
theorem pr1 {α β:Type} {G:α→β→Prop} {vs:List α} {us:List β} (h:Paired G vs us) (e:vs.length=1):∃u b,vs=[u]∧us=[b]∧G u b:=by
 cases h with
 | nil=>cases e
 | cons r t=>cases t with
  | nil=>exact ⟨_,_,rfl,rfl,r⟩
  | cons r t=>cases e
theorem pq2 {α β:Type} {G:α→β→Prop} {vs:List α} {a b:β} (h:Paired G vs [a,b]):∃u v,vs=[u,v]∧G u a∧G v b:=by
 cases h with
 | cons r t=>cases t with
  | cons q t=>cases t;exact ⟨_,_,rfl,r,q⟩
theorem pq3 {α β:Type} {G:α→β→Prop} {vs:List α} {a b c:β} (h:Paired G vs [a,b,c]):∃u v w,vs=[u,v,w]∧G u a∧G v b∧G w c:=by
 cases h with
 | cons r t=>cases t with
  | cons q t=>cases t with
   | cons p t=>cases t;exact ⟨_,_,_,rfl,r,q,p⟩
theorem pr2 {α β:Type} {G:α→β→Prop} {vs:List α} {us:List β} (h:Paired G vs us) (e:vs.length=2):∃u v a b,vs=[u,v]∧us=[a,b]∧G u a∧G v b:=by
 cases h with
 | nil=>cases e
 | cons r t=>obtain ⟨v,b,rfl,rfl,q⟩:=pr1 t (by simpa using e);exact ⟨_,_,_,_,rfl,rfl,r,q⟩
theorem pr3 {α β:Type} {G:α→β→Prop} {vs:List α} {us:List β} (h:Paired G vs us) (e:us.length=3):∃u v w a b c,vs=[u,v,w]∧us=[a,b,c]∧G u a∧G v b∧G w c:=by
 cases h with
 | nil=>cases e
 | cons r t=>obtain ⟨v,w,a,b,rfl,rfl,q⟩:=pr2 t (by have:=Paired.length t;simp at e;omega);exact ⟨_,_,_,_,_,_,rfl,rfl,r,q⟩
theorem zsv {α β:Type} {G:α→β→Prop} {vs:List α} {us:List β} (h:Paired G vs us) (e:us.length=1):∃u b,vs=[u]∧us=[b]∧G u b:=pr1 h ((Paired.length h).trans e)
end L2
namespace CH
open PySem L2 Sa39
open TL (tl)
local macro_rules | `(tactic| walk_at "hp") => `(tactic| first
 | (with_reducible assumption)
 | exact za
 | (refine zC.at (by with_reducible assumption) ?_;walk_at "hp")
 | (refine (zv ?_).trans ?_;(walk_at "ne");(walk_at "hp")))
local macro_rules | `(tactic| walk_at "ne") => `(tactic| first
 | (with_reducible assumption)
 | (refine zy (o:=?_) ?_ (by with_reducible assumption);(rotate_left);(walk_at "hp")))
local macro_rules | `(tactic| walk_at "nx") => `(tactic| (refine tnx ?_; dsimp only))
local macro_rules | `(tactic| walk_at "nm") => `(tactic| (refine zrD ?_; dsimp only))
section
variable {P:Program} {w:World} {K:PySem.W.Frag} {mg:Str→Option Value} {base:Heap} {c:Cl} {le ln:Addr} (T:Txt K mg c le ln) (Fs:YM K mg c)
noncomputable def zgL (f:Nat→Bool):Sp:=fun vs H Q _=>∃n:Nat,vs=[.int n]∧Q (.bl (f n)) H
noncomputable abbrev zll:Sp:=zgL z7
noncomputable abbrev zj1:Sp:=zgL digit
noncomputable abbrev zj0:Sp:=zgL great
noncomputable abbrev J0:Sp:=zgL alnum
noncomputable abbrev zn7:Sp:=fun vs H Q _=>∃x:Str,vs=[.str x]∧x.cps.size≤1000∧∀p H',zC H H'→H p=none→zD H' p (tl x)→Q (.ref p) H'
noncomputable abbrev zn6:Sp:=fun vs H Q _=>∃a b,vs=[.ref a]∧zD H a b∧∀p H',zC H H'→H p=none→zD H' p (low b)→Q (.ref p) H'
noncomputable abbrev zmE:Sp:=fun vs H Q _=>∃a b x,vs=[.ref a,.str x]∧zD H a b∧x.cps.size≤1000∧∀H',zC H H'→Q (.bl ((tl x).isPrefixOf b)) H'
noncomputable abbrev ziD:Sp:=fun vs H Q _=>∃a b m,vs=[.ref a,.int (m:Nat)]∧zD H a b∧∀H',zC H H'→Q (.bl (zG b m)) H'
noncomputable abbrev zbV:Sp:=fun vs H Q _=>∃a b m,vs=[.ref a,.int (m:Nat)]∧zD H a b∧∀H',zC H H'→Q (.bl (y8 b m)) H'
noncomputable abbrev ziz:Sp:=fun vs H Q _=>∃a b,vs=[.ref a]∧zD H a b∧b.all digit=true∧Q (.int (natOf b:Nat)) H
noncomputable abbrev zlk:Sp:=fun vs H Q _=>∃a b,vs=[.ref a]∧zD H a b∧∀H',zC H H'→Q (.bl (wordOk b)) H'
noncomputable abbrev ziC:Sp:=fun vs H Q _=>∃a b,vs=[.ref a]∧zD H a b∧∀H',zC H H'→Q (.bl (methodOk b)) H'
noncomputable abbrev zjX:Sp:=fun vs H Q _=>∃a b c,vs=[.ref a,.int (c:Nat)]∧zD H a b∧Q (.int (yL c b)) H
include T Fs
theorem zlN:yG P w K mg base 1 "is_sign" ["code"] zll:=by
 refine Fs.d_is_sign.ok zlv zmd (fun vs H Q E h=>?_) (fun f cdv A outer s H vs Q E hr h=>?_)
 ·obtain ⟨n,rfl,_⟩:=h;rfl
 ·obtain ⟨n,rfl,k⟩:=h
  refine ⟨_,(zg (zm (ZZ ZG ZG zu (pv 0) zu))),fun hL=>?_⟩
  refine ⟨_,rfl,_,_,rfl,rfl,_,rfl,zR (fun h1=>⟨_,_,rfl,rfl,qb ?_ k⟩) (fun h1=>qb ?_ k)⟩ <;> rw [Bool.eq_iff_iff] <;> simp [z7] at h1 ⊢ <;> omega
theorem ze4:yG P w K mg base 1 "is_digit" ["code"] zj1:=by
 refine Fs.d_is_digit.ok zj7 zkD (fun vs H Q E h=>?_) (fun f cdv A outer s H vs Q E hr h=>?_)
 ·obtain ⟨n,rfl,_⟩:=h;rfl
 ·obtain ⟨n,rfl,k⟩:=h
  refine ⟨_,(zg (zm (ZZ ZG ZG zu (pv 0) zu))),fun hL=>?_⟩
  refine ⟨_,rfl,_,_,rfl,rfl,_,rfl,zR (fun h1=>⟨_,_,rfl,rfl,qb ?_ k⟩) (fun h1=>qb ?_ k)⟩ <;> rw [Bool.eq_iff_iff] <;> simp [digit] at h1 ⊢ <;> omega
theorem zbE:yG P w K mg base 1 "is_great" ["code"] zj0:=by
 refine Fs.d_is_great.ok zj6 zkC (fun vs H Q E h=>?_) (fun f cdv A outer s H vs Q E hr h=>?_)
 ·obtain ⟨n,rfl,_⟩:=h;rfl
 ·obtain ⟨n,rfl,k⟩:=h
  refine ⟨_,(zg (zm (ZZ ZG ZG zu (pv 0) zu))),fun hL=>?_⟩
  refine ⟨_,rfl,_,_,rfl,rfl,_,rfl,zR (fun h1=>⟨_,_,rfl,rfl,qb ?_ k⟩) (fun h1=>qb ?_ k)⟩ <;> rw [Bool.eq_iff_iff] <;> simp [great] at h1 ⊢ <;> omega
theorem yn:yG P w K mg base 2 "is_letter_or_digit" ["code"] J0:=by
 refine Fs.d_is_letter_or_digit.ok J8 zaN (fun vs H Q E h=>?_) (fun f cdv A outer s H vs Q E hr h=>?_)
 ·obtain ⟨n,rfl,_⟩:=h;rfl
 ·obtain ⟨n,rfl,k⟩:=h
  refine ⟨_,(zg (zm (zf3 (zq (ze4 T Fs) (hr.mono (by decide)) rfl (zl (pv 0) zb)) (zf3 (zq (zbE T Fs) (hr.mono (by decide)) rfl (zl (pv 0) zb)) (Zn (ZZ ZG ZG zu (pv 0) zu)))))),fun hL=>?_⟩
  refine ⟨_,rfl,n,rfl,_,rfl,zR (fun h1=>qb ?_ k) (fun h1=>⟨_,rfl,n,rfl,_,rfl,zR (fun h2=>qb ?_ k) (fun h2=>⟨_,rfl,_,_,rfl,rfl,_,rfl,zR (fun h3=>⟨_,_,rfl,rfl,qb ?_ k⟩) (fun h3=>qb ?_ k)⟩)⟩)⟩
  ·simp [alnum,h1]
  ·simp [alnum,h1,h2]
  ·rw [Bool.eq_iff_iff];simp [alnum,small,h1,h2] at h3 ⊢;omega
  ·rw [Bool.eq_iff_iff];simp [alnum,small,h1,h2] at h3 ⊢;omega
omit T Fs in
theorem zkn {n:Nat} (h:n≤1000):n≤sizeLine:=by rw [sizeLine_eq];omega
theorem zQ:yG P w K mg base 1 "codes" ["text"] zn7:=by
 refine Fs.d_codes.ok zhd zoU (fun vs H Q E h=>?_) (fun f cdv A outer s H vs Q E hr h=>?_)
 ·obtain ⟨n,rfl,_⟩:=h;rfl
 ·obtain ⟨x,rfl,hx,k⟩:=h
  refine ⟨_,(zg (zm (Q2 rfl zhd.nd (zqM (pv 0)) (z3 (own:=[("sign",1)]) (by exact rfl)) (fun _ _ _ _ _=>zX (i:=1) zhd.nd rfl (Or.inl rfl)) (fun _ _ _ _ _=>yK) (fun _ _ _ _ _=>(yo zk7 rfl T.b_ord zpk (zl (pv 1) zb)))))),fun hL=>?_⟩
  exact zqG (x:=x) (fun n=>.int (n:Int)) (zkn hx) (fun n H2 Q' s2 kk=>⟨_,rfl,⟨#[n]⟩,rfl,rfl,kk H2 (zC.refl _)⟩) (fun p H2 s2 hp e=>k p H2 s2 hp e)
theorem zei:yG P w K mg base 2 "small" ["row"] zn6:=by
 refine Fs.d_small.ok zg7 zoS (fun vs H Q E h=>?_) (fun f cdv A outer s H vs Q E hr h=>?_)
 ·obtain ⟨a,b,rfl,_⟩:=h;rfl
 ·obtain ⟨a,b,rfl,hb,k⟩:=h
  refine ⟨_,(zg (zm (Q2 rfl zg7.nd (zK (K:=K) (pv 0)) (z3 (own:=[("code",1)]) (by exact rfl)) (fun _ _ _ _ _=>zX (i:=1) zg7.nd rfl (Or.inl rfl)) (fun _ _ _ _ _=>yK) (fun _ _ _ _ _=>(yI (yi (zq (zbE T Fs) (hr.mono (by decide)) rfl (zl (pv 1) zb))) (zU yY (pv 1) zu) (pv 1)))))),fun hL=>?_⟩
  refine zo8 (fun n=>.int ((if great n=true then n + 32 else n:Nat):Int)) (SqL.of hb) (fun n H2 Q' hn s2 kk=>?_) (fun p H2 s2 hp e=>k p H2 s2 hp ?_)
  ·refine ⟨_,rfl,n,rfl,_,rfl,zR (fun h1=>⟨_,rfl,_,_,rfl,rfl,qi ?_ (kk H2 (zC.refl _))⟩) (fun h1=>⟨_,rfl,qi ?_ (kk H2 (zC.refl _))⟩)⟩
   ·rw [if_pos h1];rfl
   ·rw [if_neg h1]
  ·refine e.trans ?_
   unfold low rv
   rw [List.map_map]
   rfl
omit T Fs in
theorem QC (x:Str):x.length=(tl x).length:=TL.len_tl x
theorem zco:yG P w K mg base 2 "begins" ["row","text"] zmE:=by
 refine Fs.d_begins.ok zmG znO (fun vs H Q E h=>?_) (fun f cdv A outer s H vs Q E hr h=>?_)
 ·obtain ⟨a,b,x,rfl,_⟩:=h;rfl
 ·obtain ⟨a,b,x,rfl,hb,hx,k⟩:=h
  refine ⟨_,(zg (zm (yj (yd (K:=K) hr.units) (ya (z9 (K:=K)) (pv 0) yR (yb (yo QM rfl T.b_len PySem.boot_len (zl (pv 1) zb)))) (zq (zQ T Fs) (hr.mono (by decide)) rfl (zl (pv 1) zb)) (zz _)))),fun hL=>?_⟩
  have hx2:x.length≤sizeLine:=zkn hx
  refine ⟨_,rfl,_,rfl,x,rfl,hx2,_,rfl,a,_,rfl,SqL.of hb,fun p hp=>?_⟩
  rw [zeV x.length rfl]
  refine ⟨_,rfl,x,rfl,hx,fun q H2 s2 hq e=>⟨p,q,_,_,rfl,rfl,SqL.of (s2 _ _ za),SqL.of e,qb ?_ (k H2 ((zd hp).trans s2))⟩⟩
  rw [QC,← zjw]
theorem Zo:yG P w K mg base 2 "is_digits" ["row","most"] ziD:=by
 refine Fs.d_is_digits.ok J9 zjG (fun vs H Q E h=>?_) (fun f cdv A outer s H vs Q E hr h=>?_)
 ·obtain ⟨a,b,m,rfl,_⟩:=h;rfl
 ·obtain ⟨a,b,m,rfl,hb,k⟩:=h
  refine ⟨_,(zg (zm (Yb (ZZ ZG ZG zu (yo (zx (K:=K)) rfl T.b_len PySem.boot_len (zl (pv 0) zb)) (pv 1)) (Zn (yo (zbJ (K:=K) rfl) rfl T.b_all zfG (zl (Q2 rfl J9.nd (zK (K:=K) (pv 0)) (z3 (own:=[("code",2)]) (by exact rfl)) (fun _ _ _ _ _=>zX (i:=2) J9.nd rfl (Or.inl rfl)) (fun _ _ _ _ _=>yK) (fun _ _ _ _ _=>(zq (ze4 T Fs) (hr.mono (by decide)) rfl (zl (pv 2) zb)))) zb)))))),fun hL=>?_⟩
  refine ⟨_,rfl,a,_,rfl,.inl (SqL.of hb),_,_,rfl,rfl,_,rfl,zR (fun h1=>⟨_,rfl,_,_,rfl,rfl,_,rfl,zR (fun h2=>?_) (fun h2=>qb ?_ (k H (zC.refl _)))⟩) (fun h1=>⟨_,rfl,zkp (qb ?_ (k H (zC.refl _)))⟩)⟩
  all_goals rw [zi] at h1
  ·refine zgt digit hb (fun n H2 Q' hn s2 kk=>⟨_,rfl,n,rfl,kk H2 (zC.refl _)⟩) fun H2 s2=>qb ?_ (k H2 s2)
   rw [zi] at h2
   simp at h1 h2
   unfold zG
   rw [decide_eq_true (show 1≤b.length by omega),decide_eq_true (show b.length≤m by omega)];rfl
  ·rw [zi] at h2
   simp at h1 h2
   unfold zG
   rw [decide_eq_false (show ¬ b.length≤m by omega)];simp
  ·simp at h1
   unfold zG
   rw [decide_eq_false (show ¬ 1≤b.length by omega)];rfl
theorem QG:yG P w K mg base 3 "is_plain_number" ["row","most_digits"] zbV:=by
 refine Fs.d_is_plain_number.ok zb4 zcB (fun vs H Q E h=>?_) (fun f cdv A outer s H vs Q E hr h=>?_)
 ·obtain ⟨a,b,m,rfl,_⟩:=h;rfl
 ·obtain ⟨a,b,m,rfl,hb,k⟩:=h
  refine ⟨_,(zg (zm (Yb (zq (Zo T Fs) (hr.mono (by decide)) rfl (zl (pv 0) (zl (pv 1) zb))) (Zn (zf3 (yj Z0 (yo (zx (K:=K)) rfl T.b_len PySem.boot_len (zl (pv 0) zb)) zu (zz _)) (Zn (yj ziW (yE (zI (K:=K)) (pv 0) zu (fun _ _=>rfl)) zu (zz _)))))))),fun hL=>?_⟩
  refine ⟨_,rfl,_,rfl,a,b,m,rfl,hb,fun H1 s1=>⟨_,rfl,zR (fun h1=>?_) (fun h1=>qb ?_ (k H1 s1))⟩⟩
  ·have hb1:=s1 _ _ hb
   refine ⟨_,rfl,a,_,rfl,.inl (SqL.of hb1),rfl,_,rfl,zR (fun h2=>qb ?_ (k H1 s1)) (fun h2=>?_)⟩
   all_goals rw [zi] at h2
   ·simp at h2
    unfold y8
    rw [h1,decide_eq_true (show b.length=1 by omega)];rfl
   ·have hd:=z8.mp h1
    obtain ⟨n,r,rfl⟩:∃n r,b=n::r:=by
     cases b with
     | nil=>simp at hd
     | cons n r=>exact ⟨n,r,rfl⟩
    refine ⟨_,rfl,a,_,_,_,rfl,rfl,SqL.of hb1,zdC (j:=0) rfl rfl,rfl,qb ?_ (k H1 s1)⟩
    have hr:¬ (n::r).length=1:=fun q=>h2 (decide_eq_true (by rw [q];rfl))
    unfold y8
    rw [h1,decide_eq_false hr]
    rw [Bool.eq_iff_iff];simp
    omega
  ·unfold y8
   rw [Bool.eq_false_iff.mpr h1];rfl
theorem yz:yG P w K mg base 1 "number_of" ["row"] ziz:=by
 refine Fs.d_number_of.ok QD zjC (fun vs H Q E h=>?_) (fun f cdv A outer s H vs Q E hr h=>?_)
 ·obtain ⟨a,b,rfl,_⟩:=h;rfl
 ·obtain ⟨a,b,rfl,hb,hd,k⟩:=h
  refine ⟨_,(zc (zE (i:=1) QD.nd rfl (Or.inl rfl) zu) (zc (JP PassesOwn.never rfl (zK (K:=K) (pv 0)) (zX (i:=2) QD.nd rfl (Or.inl rfl)) (zg (zE (i:=1) QD.nd rfl (Or.inl rfl) (zU zdD (zU yY (zU zm3 (pv 1) zu) (pv 2)) zu)))) (zg (zm (pv 1))))),fun hL=>?_⟩
  refine ⟨_,rfl,a,_,rfl,SqL.of hb,fun hz=>Yy (K:=K) (a:=a) (xs:=rv b) (fun i σ H2=>∃v,σ=[some (.ref a),some (.int (natOf (b.take i):Nat)),v]∧H2=H) ⟨none,rfl,rfl⟩ (fun i σ H2 _ ⟨_,_,e⟩=>by rw [e];exact SqL.of hb) ?_ ?_⟩
  ·rintro i x σ H2 hi ⟨v,rfl,rfl⟩
   rw [zmL] at hi
   cases e:b[i]? with
   | none=>rw [e] at hi;cases hi
   | some n=>
    rw [e] at hi
    cases hi
    refine ⟨_,rfl,_,_,rfl,rfl,.inr ⟨by decide,by decide⟩,_,rfl,_,_,rfl,rfl,_,_,rfl,rfl,some (.int (n:Int)),?_,rfl⟩
    have hn:digit n=true:=List.all_eq_true.mp hd n (List.mem_of_getElem? e)
    unfold digit at hn
    simp at hn
    have e2:((natOf (b.take i):Nat):Int) * 10 + (n:Int) - 48=(natOf (b.take (i + 1)):Nat):=by
     rw [List.take_add_one,e,zi4]
     simp
     omega
    rw [← e2]
    rfl
  ·rintro σ H2 ⟨v,rfl,rfl⟩
   refine ⟨_,rfl,qi ?_ k⟩
   rw [zi,List.take_length]
theorem zdF:yG P w K mg base 2 "is_method" ["row"] ziC:=by
 refine Fs.d_is_method.ok J7 zjF (fun vs H Q E h=>?_) (fun f cdv A outer s H vs Q E hr h=>?_)
 ·obtain ⟨a,b,rfl,_⟩:=h;rfl
 ·obtain ⟨a,b,rfl,hb,k⟩:=h
  refine ⟨_,(zg (zm (Yb (ZZ ZG ZG zu (yo (zx (K:=K)) rfl T.b_len PySem.boot_len (zl (pv 0) zb)) zu) (Zn (yo (zbJ (K:=K) rfl) rfl T.b_all zfG (zl (Q2 rfl J7.nd (zK (K:=K) (pv 0)) (z3 (own:=[("code",1)]) (by exact rfl)) (fun _ _ _ _ _=>zX (i:=1) J7.nd rfl (Or.inl rfl)) (fun _ _ _ _ _=>yK) (fun _ _ _ _ _=>(zq (zbE T Fs) (hr.mono (by decide)) rfl (zl (pv 1) zb)))) zb)))))),fun hL=>?_⟩
  refine ⟨_,rfl,a,_,rfl,.inl (SqL.of hb),_,_,rfl,rfl,_,rfl,zR (fun h1=>⟨_,_,rfl,rfl,_,rfl,zR (fun h2=>?_) (fun h2=>qb ?_ (k H (zC.refl _)))⟩) (fun h1=>⟨_,rfl,zkp (qb ?_ (k H (zC.refl _)))⟩)⟩
  all_goals rw [zi] at h1
  ·refine zgt great hb (fun n H2 Q' hn s2 kk=>⟨_,rfl,n,rfl,kk H2 (zC.refl _)⟩) fun H2 s2=>qb ?_ (k H2 s2)
   rw [zi] at h2
   simp at h1 h2
   unfold methodOk
   rw [decide_eq_true (show b.length≤16 by omega),bne_iff_ne.mpr (yM.mpr (by omega))];rfl
  ·rw [zi] at h2
   simp at h1 h2
   unfold methodOk
   rw [decide_eq_false (show ¬ b.length≤16 by omega)];simp
  ·simp at h1
   unfold methodOk
   have:b=[]:=List.eq_nil_of_length_eq_zero (by omega)
   rw [this];rfl
theorem zgw:yG P w K mg base 3 "is_word" ["row"] zlk:=by
 refine Fs.d_is_word.ok zcQ zmc (fun vs H Q E h=>?_) (fun f cdv A outer s H vs Q E hr h=>?_)
 ·obtain ⟨a,b,rfl,_⟩:=h;rfl
 ·obtain ⟨a,b,rfl,hb,k⟩:=h
  refine ⟨_,(zg (zm (Yb (ZZ ZG ZG zu (yo (zx (K:=K)) rfl T.b_len PySem.boot_len (zl (pv 0) zb)) zu) (Zn (yo (zbJ (K:=K) rfl) rfl T.b_all zfG (zl (Q2 rfl zcQ.nd (zK (K:=K) (pv 0)) (z3 (own:=[("code",1)]) (by exact rfl)) (fun _ _ _ _ _=>zX (i:=1) zcQ.nd rfl (Or.inl rfl)) (fun _ _ _ _ _=>yK) (fun _ _ _ _ _=>(zf3 (zq (yn T Fs) (hr.mono (by decide)) rfl (zl (pv 1) zb)) (Zn (yj (zlJ (K:=K)) (pv 1) (zq (zQ T Fs) (hr.mono (by decide)) rfl (zl yt zb)) rfl))))) zb)))))),fun hL=>?_⟩
  refine ⟨_,rfl,a,_,rfl,.inl (SqL.of hb),_,_,rfl,rfl,_,rfl,zR (fun h1=>⟨_,_,rfl,rfl,_,rfl,zR (fun h2=>?_) (fun h2=>qb ?_ (k H (zC.refl _)))⟩) (fun h1=>⟨_,rfl,zkp (qb ?_ (k H (zC.refl _)))⟩)⟩
  all_goals rw [zi] at h1
  ·refine zgt (fun c=>alnum c||(c == 46||(c == 95||(c == 45||c == 43)))) hb (fun n H2 Q' hn s2 kk=>?_) fun H2 s2=>qb ?_ (k H2 s2)
   ·refine ⟨_,rfl,n,rfl,_,rfl,zR (fun h3=>qb ?_ (kk H2 (zC.refl _))) (fun h3=>⟨_,rfl,"._-+",rfl,by decide +kernel,fun p H3 s3 hp e=>⟨p,_,rfl,.inl (SqL.of e),rfl,by decide +kernel,qb ?_ (kk H3 s3)⟩⟩)⟩
    ·rw [h3];rfl
    ·rw [Bool.eq_false_iff.mpr h3]
     show _=inV (V.int n) (rv [46,95,45,43])
     rw [Bool.eq_iff_iff]
     simp [inV,rv,eqV]
     omega
   ·rw [zi] at h2
    simp at h1 h2
    unfold wordOk
    rw [decide_eq_true (show b.length≤64 by omega),bne_iff_ne.mpr (yM.mpr (by omega))];rfl
  ·rw [zi] at h2
   simp at h1 h2
   unfold wordOk
   rw [decide_eq_false (show ¬ b.length≤64 by omega)];simp
  ·simp at h1
   unfold wordOk
   have:b=[]:=List.eq_nil_of_length_eq_zero (by omega)
   rw [this];rfl
theorem ZL:yG P w K mg base 1 "place_of" ["row","code"] zjX:=by
 refine Fs.d_place_of.ok zeF zkz (fun vs H Q E h=>?_) (fun f cdv A outer s H vs Q E hr h=>?_)
 ·obtain ⟨a,b,m,rfl,_⟩:=h;rfl
 ·obtain ⟨a,b,m,rfl,hb,k⟩:=h
  refine ⟨_,(zc (JP PassesOwn.never rfl (zmW rfl T.b_range (zl (yo (zx (K:=K)) rfl T.b_len PySem.boot_len (zl (pv 0) zb)) zb)) (zX (i:=2) zeF.nd rfl (Or.inl rfl)) (zg (z4 (zw Z0 (yE (zI (K:=K)) (pv 0) (pv 2) (fun _ _=>rfl)) (pv 1) (zz _)) (zg (zm (pv 2))) zF))) (zg (zm (zoj zkN zu)))),fun hL=>?_⟩
  have hz:=hL _ _ hb
  rw [zi] at hz
  have hz2:b.length < 2 ^ 62:=Nat.lt_of_le_of_lt hz (by rw [sizeLine_eq];decide)
  refine ⟨_,rfl,a,_,rfl,.inl (SqL.of hb),_,rfl,?_,?_,znv (lo:=0) (fun i σ H2=>∃v,σ=[some (.ref a),some (.int (m:Nat)),v]∧H2=H∧i≤b.length∧∀(j c:Nat),j < i→b[j]?=some c→c≠m) ⟨none,rfl,rfl,Nat.zero_le _,fun j c h=>absurd h (Nat.not_lt_zero _)⟩ ?_ ?_⟩
  ·rw [zi];omega
  ·rw [zi];omega
  ·rintro i σ H2 hi ⟨v,rfl,rfl,hle,hn⟩
   rw [zi] at hi
   have hi':i < b.length:=by omega
   refine ⟨_,rfl,_,rfl,a,_,_,_,rfl,rfl,SqL.of hb,zdC (j:=i) (n:=b[i]) (by omega) (List.getElem?_eq_getElem hi'),_,rfl,rfl,_,rfl,zR (fun h1=>?_) (fun h1=>?_)⟩
   ·refine ⟨_,rfl,qi ?_ k⟩
    simp at h1
    have h1':b[i]=m:=by omega
    have e:idx m b=i:=zrd (znh (by omega) hn) (by rw [List.getElem?_eq_getElem hi',h1'])
    unfold yL
    rw [e,if_pos hi'];omega
   ·refine ⟨_,rfl,rfl,by omega,fun j c hj hc=>?_⟩
    rcases Nat.lt_succ_iff_lt_or_eq.mp hj with q | q
    ·exact hn j c q hc
    ·subst q
     rw [List.getElem?_eq_getElem hi'] at hc
     cases hc
     intro q
     apply h1
     simp [q]
  ·rintro σ H2 ⟨v,rfl,rfl,hle,hn⟩
   refine ⟨_,rfl,qi ?_ k⟩
   rw [zi] at hn
   have e:idx m b=b.length:=zhJ fun j c h=>hn j c (by have:=(List.getElem?_eq_some_iff.mp h).1;omega) h
   unfold yL
   rw [e,if_neg (by omega)]
end
section
variable {P:Program} {w:World} {K:PySem.W.Frag} {mg:Str→Option Value} {base:Heap} {c:Cl} {le ln:Addr} (T:Txt K mg c le ln) (Fs:YM K mg c)
noncomputable abbrev zjW:Sp:=fun vs H Q _=>∃a b c,vs=[.ref a,.int (c:Nat)]∧zD H a b∧b.length≤100000∧∀p ps H',zC H H'→H p=none→H' p=some (.lst (ps.map V.ref))→(∀q ∈ ps,H q=none)→Paired (fun q x=>zD H' q x) ps (splitBy c b [])→Q (.ref p) H'
noncomputable abbrev YB:Sp:=fun vs H Q _=>∃a b,vs=[.ref a]∧zD H a b∧∀p H',zC H H'→H p=none→zD H' p (trimmed b)→Q (.ref p) H'
noncomputable abbrev zcJ:Sp:=fun vs H Q _=>∃a b,vs=[.ref a]∧zD H a b∧∀p H',zC H H'→H p=none→zD H' p (trimmed (b.dropWhile fun c=>c == 32))→Q (.ref p) H'
noncomputable abbrev zmB:Sp:=fun vs H Q _=>∃a b,vs=[.ref a]∧zD H a b∧Q (.int (Sa39.sum b:Nat)) H
noncomputable abbrev zlh:Sp:=fun vs H Q _=>∃a b,vs=[.ref a]∧zD H a b∧∀p H',zC H H'→H p=none→zD H' p (hex16 (Sa39.sum b))→Q (.ref p) H'
theorem zaR {H:Hp} {D:Addr} {o:HO} {ps:List Addr} {ls:List B} (h:Paired (fun q x=>zD H q x) ps ls) (hD:∀q ∈ ps,q≠D):Paired (fun q x=>zD (upd H D o) q x) ps ls:=by
 induction h with
 | nil=>exact .nil
 | cons r t ih=>
  refine .cons ?_ (ih fun q hq=>hD q (List.mem_cons_of_mem _ hq))
  show upd H D o _=_
  rw [zv (hD _ List.mem_cons_self)]
  exact r
theorem zmK {b:B} {i:Nat} {x:V} (h:(rv b)[i]?=some x):∃n,b[i]?=some n∧x=.int (n:Int):=by
 rw [zmL] at h
 cases e:b[i]? with
 | none=>rw [e] at h;cases h
 | some n=>rw [e] at h;cases h;exact ⟨n,rfl,rfl⟩
theorem znz {b:B} {i n:Nat} (h:b[i]?=some n):b.drop i=n::b.drop (i + 1):=by
 obtain ⟨h1,h2⟩:=List.getElem?_eq_some_iff.mp h
 rw [List.drop_eq_getElem_cons h1,h2]
include T Fs
theorem Qs:yG P w K mg base 1 "split_at" ["row","divider"] zjW:=by
 refine Fs.d_split_at.ok Qb zky (fun vs H Q E h=>?_) (fun f cdv A outer s H vs Q E hr h=>?_)
 ·obtain ⟨a,b,m,rfl,_⟩:=h;rfl
 ·obtain ⟨a,b,m,rfl,hb,hz,k⟩:=h
  refine ⟨_,(zc (zE (i:=2) Qb.nd rfl (Or.inl rfl) (zO zb)) (zc (zE (i:=3) Qb.nd rfl (Or.inl rfl) (zO zb)) (zc (JP PassesOwn.never rfl (zK (K:=K) (pv 0)) (zX (i:=4) Qb.nd rfl (Or.inl rfl)) (zg (z4 (zw Z0 (pv 4) (pv 1) (zz _)) (zc (yx (Zb PySem.F.plainAttrs_list PySem.F.slot_list_append PySem.F.type_list_append yu (pv 2) (zl (pv 3) zb))) (zg (zE (i:=3) Qb.nd rfl (Or.inl rfl) (zO zb)))) (zg (yx (Zb PySem.F.plainAttrs_list PySem.F.slot_list_append PySem.F.type_list_append yu (pv 3) (zl (pv 4) zb))))))) (zc (yx (Zb PySem.F.plainAttrs_list PySem.F.slot_list_append PySem.F.type_list_append yu (pv 2) (zl (pv 3) zb))) (zg (zm (pv 2))))))),fun hL=>?_⟩
  refine ⟨Nat.zero_le _,fun p hp=>⟨Nat.zero_le _,fun q hq=>?_⟩⟩
  have qp:q≠p:=fun e=>by rw [e,za] at hq;cases hq
  have hq0:H q=none:=by rw [zv qp] at hq;exact hq
  have s0:zC H (upd (upd H p (.lst [])) q (.lst [])):=(zd hp).trans (zd hq)
  refine ⟨_,rfl,a,_,rfl,SqL.of (s0 _ _ hb),fun _=>Yy (K:=K) (a:=a) (xs:=rv b) (fun i σ H'=>∃q ps w v done,σ=[some (.ref a),some (.int (m:Nat)),some (.ref p),some (.ref q),v]∧zC H H'∧H' p=some (.lst (ps.map V.ref))∧zD H' q w∧H q=none∧q≠p∧(∀x ∈ ps,H x=none∧x≠p∧x≠q)∧Paired (fun q x=>zD H' q x) ps done∧splitBy m b []=done++splitBy m (b.drop i) w∧ps.length≤i∧w.length≤i)
   ⟨q,[],[],none,[],rfl,s0,by rw [zv (Ne.symm qp)];exact za,za,hq0,qp,fun x hx=>(by cases hx),.nil,rfl,Nat.le_refl _,Nat.le_refl _⟩ (fun i σ H' _ ⟨_,_,_,_,_,_,s1,_⟩=>SqL.of (s1 _ _ hb)) ?_ ?_⟩
  ·rintro i x σ H' hi ⟨q,ps,w,v,done,rfl,s1,e1,e2,hq,qp,hps,hR,hS,l1,l2⟩
   obtain ⟨n,hn,rfl⟩:=zmK hi
   have hi':=(List.getElem?_eq_some_iff.mp hn).1
   rw [znz hn] at hS
   refine ⟨_,rfl,_,rfl,rfl,_,rfl,zR (fun h1=>?_) (fun h1=>?_)⟩
   ·have h1':n=m:=by simp at h1;omega
    subst h1'
    rw [Yd] at hS
    refine ⟨_,rfl,.inl ⟨rfl,_,SqL.of e1⟩,_,rfl,p,_,_,rfl,rfl,e1,?_,Nat.zero_le _,fun q2 hq2=>?_⟩
    ·rw [List.length_map,sizeLine_eq];omega
    ·have q2p:q2≠p:=fun e=>by rw [e,za] at hq2;cases hq2
     have hq2':H' q2=none:=by rw [zv q2p] at hq2;exact hq2
     refine ⟨q2,ps++[q],[],some (.int (n:Int)),done++[w],rfl,?_,?_,za,s1.free hq2',q2p,?_,?_,?_,?_,Nat.zero_le _⟩
     ·exact fun b o e=>by
       rw [zv (zy (s1 b o e) hq2'),zv (zy e hp)];exact s1 b o e
     ·rw [zv (Ne.symm q2p),za,List.map_append];rfl
     ·intro x hx
      rcases List.mem_append.mp hx with hx | hx
      ·refine ⟨(hps x hx).1,(hps x hx).2.1,?_⟩
       obtain ⟨y,_,hy⟩:=Paired.mem_left hR hx
       exact zy hy hq2'
      ·have:x=q:=by simpa using hx
       subst this
       exact ⟨hq,qp,zy e2 hq2'⟩
     ·refine L2.Paired.snoc (zaR (zaR hR fun x hx=>(hps x hx).2.1) fun x hx=>?_) ?_
      ·obtain ⟨y,_,hy⟩:=Paired.mem_left hR hx
       exact zy hy hq2'
      ·show upd (upd H' p _) q2 _ q=_
       rw [zv (zy e2 hq2'),zv qp];exact e2
     ·rw [hS];simp
     ·rw [List.length_append];simp;omega
   ·have h1':n≠m:=fun e=>h1 (by rw [e];simp)
    rw [ZP m _ _ h1'] at hS
    refine ⟨_,rfl,.inl ⟨rfl,_,SqL.of e2⟩,_,rfl,q,_,_,rfl,rfl,e2,?_,?_⟩
    ·rw [zi,sizeLine_eq];omega
    ·refine ⟨q,ps,w++[n],some (.int (n:Int)),done,rfl,?_,?_,?_,hq,qp,hps,?_,hS,by omega,?_⟩
     ·exact fun b o e=>by rw [zv (zy e hq)];exact s1 b o e
     ·rw [zv (Ne.symm qp)];exact e1
     ·show upd H' q _ q=_
      rw [za,zb7];rfl
     ·exact zaR hR fun x hx=>(hps x hx).2.2
     ·rw [List.length_append];simp;omega
  ·rintro σ H' ⟨q,ps,w,v,done,rfl,s1,e1,e2,hq,qp,hps,hR,hS,l1,l2⟩
   rw [zi] at l1 l2 hS
   rw [List.drop_length] at hS
   refine ⟨_,rfl,.inl ⟨rfl,_,SqL.of e1⟩,_,rfl,p,_,_,rfl,rfl,e1,?_,_,rfl,?_⟩
   ·rw [List.length_map,sizeLine_eq];omega
   ·refine k p (ps++[q]) _ (fun b o e=>?_) hp ?_ ?_ ?_
    ·rw [zv (zy e hp)];exact s1 b o e
    ·rw [za,List.map_append];rfl
    ·intro x hx
     rcases List.mem_append.mp hx with hx | hx
     ·exact (hps x hx).1
     ·have:x=q:=by simpa using hx
      subst this;exact hq
    ·rw [hS]
     refine L2.Paired.snoc (zaR hR fun x hx=>(hps x hx).2.1) ?_
     show upd H' p _ q=_
     rw [zv qp];exact e2
theorem YH:yG P w K mg base 1 "without_end_blanks" ["row"] YB:=by
 refine Fs.d_without_end_blanks.ok Zj zaL (fun vs H Q E h=>?_) (fun f cdv A outer s H vs Q E hr h=>?_)
 ·obtain ⟨a,b,rfl,_⟩:=h;rfl
 ·obtain ⟨a,b,rfl,hb,k⟩:=h
  refine ⟨_,(zc (zE (i:=1) Zj.nd rfl (Or.inl rfl) (yo (zx (K:=K)) rfl T.b_len PySem.boot_len (zl (pv 0) zb))) (zc (zca PassesOwn.never (PW.pt (za2 (zw zhs (pv 1) zu (zz _)) (Q1 (zw Z0 (yE (zI (K:=K)) (pv 0) (zU zdD (pv 1) zu) (fun _ _=>rfl)) (zN T.c_BLANK rfl) (zz _))))) (zg (zE (i:=1) Zj.nd rfl (Or.inl rfl) (zU zdD (pv 1) zu)))) (zg (zm (ya (z9 (K:=K)) (pv 0) yR (yb (pv 1))))))),fun hL=>?_⟩
  refine ⟨_,rfl,a,_,rfl,.inl (SqL.of hb),zem (fun σ H'=>∃e:Nat,σ=[some (.ref a),some (.int (e:Int))]∧H'=H∧e≤b.length∧∀(j c:Nat),e≤j→b[j]?=some c→c=32)
   (fun σ _=>match σ with | [_,some (.int e)]=>e.toNat | _=>0) ⟨b.length,by rw [zi];rfl,rfl,Nat.le_refl _,fun j c h1 h2=>absurd (List.getElem?_eq_some_iff.mp h2).1 (by omega)⟩ ?_⟩
  rintro σ H' ⟨e,rfl,rfl,he,hbl⟩
  have fin:∀x:e=0∨b[e - 1]?≠some 32,zqs (tSl (zqH K) (zmv 0) zjV (zmw (zmv 1))) {nx:=fun _ H'=>Q .non H',rt:=Q} [some (.ref a),some (.int (e:Int))] H':=by
   intro x
   refine ⟨_,rfl,_,rfl,_,rfl,a,_,rfl,SqL.of hb,fun p hp=>?_⟩
   rw [zeV e rfl,← zin he hbl x]
   exact k p _ (zd hp) hp za
  refine ⟨_,rfl,_,_,rfl,rfl,_,rfl,zR (fun h1=>?_) (fun h1=>?_)⟩
  ·simp at h1
   have hlt:e - 1 < b.length:=by omega
   refine ⟨_,rfl,_,rfl,_,_,rfl,rfl,a,_,_,_,rfl,rfl,SqL.of hb,zdC (j:=e - 1) (n:=b[e - 1]) (by omega) (List.getElem?_eq_getElem hlt),rfl,_,rfl,zR (fun h2=>?_) (fun h2=>?_)⟩
   ·simp at h2
    refine ⟨fun σ' H2=>σ'=[some (.ref a),some (.int ((e - 1:Nat):Int))]∧H2=H',?_,_,rfl,_,_,rfl,rfl,?_,rfl⟩
    ·rintro σ' H2 ⟨rfl,rfl⟩
     refine ⟨_,?_,rfl,e - 1,rfl,rfl,by omega,fun j c h3 h4=>?_⟩
     ·show ((e - 1:Nat):Int).toNat < ((e:Nat):Int).toNat
      omega
     ·by_cases q:j=e - 1
      ·subst q
       rw [List.getElem?_eq_getElem hlt] at h4
       cases h4
       omega
      ·exact hbl j c (by omega) h4
    ·show [some (V.ref a),some (V.int ((e:Int) - 1))]=_
     rw [show ((e:Int) - 1)=((e - 1:Nat):Int) by omega]
   ·refine fin (.inr fun q=>h2 ?_)
    rw [List.getElem?_eq_getElem hlt] at q
    rw [Option.some.inj q]
    rfl
  ·refine fin (.inl ?_)
   simp at h1
   omega
theorem zc5:yG P w K mg base 2 "without_blanks" ["row"] zcJ:=by
 refine Fs.d_without_blanks.ok Ye zdr (fun vs H Q E h=>?_) (fun f cdv A outer s H vs Q E hr h=>?_)
 ·obtain ⟨a,b,rfl,_⟩:=h;rfl
 ·obtain ⟨a,b,rfl,hb,k⟩:=h
  refine ⟨_,(zc (zE (i:=1) Ye.nd rfl (Or.inl rfl) zu) (zc (zca PassesOwn.never (PW.pt (za2 (zw zd0 (pv 1) (yo (zx (K:=K)) rfl T.b_len PySem.boot_len (zl (pv 0) zb)) (zz _)) (Q1 (zw Z0 (yE (zI (K:=K)) (pv 0) (pv 1) (fun _ _=>rfl)) (zN T.c_BLANK rfl) (zz _))))) (zg (zE (i:=1) Ye.nd rfl (Or.inl rfl) (zU yY (pv 1) zu)))) (zg (zm (zq (YH T Fs) (hr.mono (by decide)) rfl (zl (ya (z9 (K:=K)) (pv 0) (yb (pv 1)) yR) zb)))))),fun hL=>?_⟩
  refine zem (fun σ H'=>∃e:Nat,σ=[some (.ref a),some (.int (e:Int))]∧H'=H∧e≤b.length∧∀(j c:Nat),j < e→b[j]?=some c→c=32)
   (fun σ _=>match σ with | [_,some (.int e)]=>b.length - e.toNat | _=>0) ⟨0,rfl,rfl,Nat.zero_le _,fun j c h1=>absurd h1 (Nat.not_lt_zero _)⟩ ?_
  rintro σ H' ⟨e,rfl,rfl,he,hbl⟩
  have fin:∀x:e=b.length∨b[e]?≠some 32,zqs (tFn YB (zgJ (tSl (zqH K) (zmv 0) (zmw (zmv 1)) zjV) znV)) {nx:=fun _ H'=>Q .non H',rt:=Q} [some (.ref a),some (.int (e:Int))] H':=by
   intro x
   refine ⟨_,rfl,_,rfl,_,rfl,a,_,rfl,SqL.of hb,fun p hp=>?_⟩
   rw [Yx e rfl,← zl4 he hbl x]
   exact ⟨p,_,rfl,za,fun q H2 s2 hq e2=>k q H2 ((zd hp).trans s2) ((zd hp).free hq) e2⟩
  refine ⟨_,rfl,_,rfl,a,_,rfl,.inl (SqL.of hb),_,_,rfl,rfl,_,rfl,zR (fun h1=>?_) (fun h1=>?_)⟩
  ·rw [zi] at h1
   simp at h1
   have hlt:e < b.length:=by omega
   refine ⟨_,rfl,_,rfl,a,_,_,_,rfl,rfl,SqL.of hb,zdC (j:=e) (n:=b[e]) (by omega) (List.getElem?_eq_getElem hlt),rfl,_,rfl,zR (fun h2=>?_) (fun h2=>?_)⟩
   ·simp at h2
    refine ⟨fun σ' H2=>σ'=[some (.ref a),some (.int ((e + 1:Nat):Int))]∧H2=H',?_,_,rfl,_,_,rfl,rfl,rfl,rfl⟩
    rintro σ' H2 ⟨rfl,rfl⟩
    refine ⟨_,?_,rfl,e + 1,rfl,rfl,by omega,fun j c h3 h4=>?_⟩
    ·show b.length - ((e + 1:Nat):Int).toNat < b.length - ((e:Nat):Int).toNat
     omega
    ·by_cases q:j=e
     ·subst q
      rw [List.getElem?_eq_getElem hlt] at h4
      cases h4
      omega
     ·exact hbl j c (by omega) h4
   ·refine fin (.inr fun q=>h2 ?_)
    rw [List.getElem?_eq_getElem hlt] at q
    rw [Option.some.inj q]
    rfl
  ·refine fin (.inl ?_)
   rw [zi] at h1
   simp at h1
   omega
end
section
variable {P:Program} {w:World} {K:PySem.W.Frag} {mg:Str→Option Value} {base:Heap} {c:Cl} {le ln:Addr} (T:Txt K mg c le ln) (Fs:YM K mg c)
theorem zoR {x:Int} (h:0≤x):Builtin.bitAnd x 15=x % 16:=Bits.bitAnd_mask 4 h
theorem znI {x:Int} (h:0≤x):Builtin.bitAnd x 255=x % 256:=Bits.bitAnd_mask 8 h
theorem zr6:∀d:Nat,d < 16→(tl "0123456789abcdef")[d]?=some (zrC d):=by decide +kernel
include T Fs
theorem zm6:yG P w K mg base 1 "sum_of" ["row"] zmB:=by
 refine Fs.d_sum_of.ok zbZ znL (fun vs H Q E h=>?_) (fun f cdv A outer s H vs Q E hr h=>?_)
 ·obtain ⟨a,b,rfl,_⟩:=h;rfl
 ·obtain ⟨a,b,rfl,hb,k⟩:=h
  refine ⟨_,(zc (zE (i:=1) zbZ.nd rfl (Or.inl rfl) (zN T.c_SUM_START rfl)) (zc (JP PassesOwn.never rfl (zK (K:=K) (pv 0)) (zX (i:=2) zbZ.nd rfl (Or.inl rfl)) (zg (zE (i:=1) zbZ.nd rfl (Or.inl rfl) (zU zqX (zU zm3 (zU zqV (pv 1) (pv 2)) (zN T.c_SUM_TIMES rfl)) (zN T.c_SUM_MODULO rfl))))) (zg (zm (pv 1))))),fun hL=>?_⟩
  refine ⟨_,rfl,a,_,rfl,SqL.of hb,fun hz=>Yy (K:=K) (a:=a) (xs:=rv b) (fun i σ H2=>∃v,σ=[some (.ref a),some (.int (Sa39.sum (b.take i):Nat)),v]∧H2=H) ⟨none,by rw [List.take_zero,sum_nil];rfl,rfl⟩ (fun i σ H2 _ ⟨_,_,e⟩=>by rw [e];exact SqL.of hb) ?_ ?_⟩
  ·rintro i x σ H2 hi ⟨v,rfl,rfl⟩
   obtain ⟨n,hn,rfl⟩:=zmK hi
   generalize hS:Sa39.sum (b.take i)=S
   have e2:Builtin.bitXor (S:Int) (n:Int) * 1099511628211 % 18446744073709551616=((Sa39.sum (b.take (i + 1)):Nat):Int):=by
    rw [Bits.bitXor_pp (by omega) (by omega),List.take_add_one,hn]
    show ((S ^^^ n:Nat):Int) * _ % _=((Sa39.sum (b.take i++[n]):Nat):Int)
    rw [zn2,zn3,hS]
   refine ⟨_,rfl,_,rfl,_,_,rfl,rfl,_,_,rfl,rfl,.inr ⟨by decide,by decide⟩,_,_,rfl,rfl,(show (0:Int) < 18446744073709551616 by decide),some (.int (n:Int)),?_,rfl⟩
   rw [← e2]
   rfl
  ·rintro σ H2 ⟨v,rfl,rfl⟩
   refine ⟨_,rfl,qi ?_ k⟩
   rw [zi,List.take_length]
theorem zgv:yG P w K mg base 2 "sum_row" ["row"] zlh:=by
 refine Fs.d_sum_row.ok zaQ zl9 (fun vs H Q E h=>?_) (fun f cdv A outer s H vs Q E hr h=>?_)
 ·obtain ⟨a,b,rfl,_⟩:=h;rfl
 ·obtain ⟨a,b,rfl,hb,k⟩:=h
  refine ⟨_,(zc (zE (i:=1) zaQ.nd rfl (Or.inr rfl) (zq (zm6 T Fs) (hr.mono (by decide)) rfl (zl (pv 0) zb))) (zg (zm (Q2 rfl zaQ.nd (zmV rfl T.b_range (zl zu (zl (zoj zkN zu) (zl (zoj zkN zu) zb)))) (z3 (own:=[("shift",2)]) (by exact rfl)) (fun _ _ _ _ _=>zX (i:=2) zaQ.nd rfl (Or.inl rfl)) (fun _ _ _ _ _=>yK) (fun _ _ _ _ _=>(yo zk7 rfl T.b_ord zpk (zl (yE zra (zN T.c_HEX_DIGITS rfl) (zU zpf (zU zpe (pv 1) (pv 2)) zu) (fun _ _=>rfl)) zb))))))),fun hL=>?_⟩
  refine ⟨_,rfl,a,b,rfl,hb,?_⟩
  have hlt:=zqw b
  generalize hS:Sa39.sum b=S at hlt
  refine zrD ?_
  dsimp only
  refine zf1 ?_
  refine zpy (lo:=60) (hi:=-1) (c:=-4) (n:=16) (fun i=>.int ((zrC (S / 2 ^ (60 - 4 * i) % 16):Nat):Int)) ⟨by decide,by decide,by decide,by decide⟩ (by decide) (fun i H2 Q' hi s2 kk=>?_) (fun p H2 s2 hp e=>k p H2 s2 hp ?_) (fun Q' q=>⟨_,rfl,_,rfl,q⟩)
  ·have e0:(60 + (i:Int) * -4).toNat=60 - 4 * i:=by omega
   have e1:Builtin.bitAnd ((S:Int) / 2 ^ (60 + (i:Int) * -4).toNat) 15=((S / 2 ^ (60 - 4 * i) % 16:Nat):Int):=by
    rw [e0,zoR (Int.ediv_nonneg (by omega) (by exact Int.le_of_lt (Int.pow_pos (by decide)))),Int.natCast_emod,Int.natCast_ediv,Int.natCast_pow]
    rfl
   refine ⟨_,rfl,_,rfl,_,_,rfl,rfl,(by show (0:Int)≤60 + (i:Int) * -4;omega),_,_,rfl,rfl,_,_,_,rfl,rfl,(by decide),?_,⟨#[zrC (S / 2 ^ (60 - 4 * i) % 16)]⟩,rfl,rfl,kk H2 (zC.refl _)⟩
   show atI (tl "0123456789abcdef") (Builtin.bitAnd ((S:Int) / 2 ^ (60 + (i:Int) * -4).toNat) 15)=_
   rw [e1]
   exact yk (zr6 _ (Nat.mod_lt _ (by decide)))
  ·rw [zoN,hS]
   refine e.trans ?_
   unfold rv
   rw [List.map_map]
   rfl
noncomputable def Zw (H:Hp) (a:Addr) (ls:List B):Prop:=∃ps:List Addr,H a=some (.lst (ps.map V.ref))∧Paired (fun q x=>zD H q x) ps ls
noncomputable abbrev ziB:Sp:=fun vs H Q _=>∃a ls,vs=[.ref a]∧Zw H a ls∧(zV ls).length≤1000000∧∀p H',zC H H'→H p=none→zD H' p (zV ls)→Q (.ref p) H'
omit T Fs in
theorem Paired.at_ {α β:Type} {F:α→β→Prop}:∀{l:List α} {m:List β} {i:Nat} {x:α},Paired F l m→l[i]?=some x→∃y,m[i]?=some y∧F x y
 | _,_,0,_,.cons r t,h=>by simp at h;subst h;exact ⟨_,rfl,r⟩
 | _,_,i + 1,_,.cons r t,h=>by
  obtain ⟨y,h1,h2⟩:=Paired.at_ (i:=i) t (by simpa using h)
  exact ⟨y,by simpa using h1,h2⟩
omit T Fs in
theorem zb9 {ps:List Addr} {i:Nat} {x:V} (h:(ps.map V.ref)[i]?=some x):∃q,ps[i]?=some q∧x=.ref q:=by
 rw [List.getElem?_map] at h
 cases e:ps[i]? with
 | none=>rw [e] at h;cases h
 | some n=>rw [e] at h;cases h;exact ⟨n,rfl,rfl⟩
theorem zaz:yG P w K mg base 1 "lines_row" ["lines"] ziB:=by
 refine Fs.d_lines_row.ok J6 zjE (fun vs H Q E h=>?_) (fun f cdv A outer s H vs Q E hr h=>?_)
 ·obtain ⟨a,b,rfl,_⟩:=h;rfl
 ·obtain ⟨a,ls,rfl,⟨ps,ha,hR⟩,hz,k⟩:=h
  refine ⟨_,(zc (zE (i:=1) J6.nd rfl (Or.inl rfl) (zO zb)) (zc (JP PassesOwn.never rfl (zK (K:=K) (pv 0)) (zX (i:=2) J6.nd rfl (Or.inl rfl)) (zc (yx (Zb PySem.F.plainAttrs_list PySem.F.slot_list_extend PySem.F.type_list_extend Jc (pv 1) (zl (pv 2) zb))) (zg (yx (Zb PySem.F.plainAttrs_list PySem.F.slot_list_extend PySem.F.type_list_extend (zlR (K:=K)) (pv 1) (zl (zN T.c_LINE_END rfl) zb)))))) (zg (zm (pv 1))))),fun hL=>?_⟩
  refine ⟨Nat.zero_le _,fun p hp=>?_⟩
  refine zrD ?_
  dsimp only
  have s0:zC H (upd H p (.lst [])):=zd hp
  refine ⟨_,rfl,a,_,rfl,SqL.of (s0 _ _ ha),fun _=>Yy (K:=K) (a:=a) (xs:=ps.map V.ref) (fun i σ H'=>∃v,σ=[some (.ref a),some (.ref p),v]∧zC H H'∧zD H' p (zV (ls.take i))) ⟨none,rfl,s0,za⟩ (fun i σ H' _ ⟨_,_,s1,_⟩=>SqL.of (s1 _ _ ha)) ?_ ?_⟩
  ·rintro i x σ H' hi ⟨v,rfl,s1,e1⟩
   obtain ⟨q,hq,rfl⟩:=zb9 hi
   obtain ⟨l,hl,hrow⟩:=Paired.at_ hR hq
   have hqp:q≠p:=zy hrow hp
   have e3:zV (ls.take (i + 1))=zV (ls.take i)++l++[13,10]:=by
    rw [List.take_add_one,hl,Zu,List.append_assoc]
    show _++zV [l]=_
    rw [zH,yN,List.append_nil]
   have hlen:(zV (ls.take (i + 1))).length≤1000000:=by
    have:zV ls=zV (ls.take (i + 1))++zV (ls.drop (i + 1)):=by rw [← Zu,List.take_append_drop]
    rw [this,List.length_append] at hz
    omega
   rw [e3] at hlen
   simp only [List.length_append,List.length_cons,List.length_nil] at hlen
   refine ⟨_,rfl,.inl ⟨rfl,_,SqL.of e1⟩,_,rfl,p,q,_,_,rfl,rfl,e1,s1 _ _ hrow,?_,_,rfl,.inl ⟨rfl,_,SqL.of za⟩,p,le,_,_,rfl,rfl,za,T.le,?_,some (.ref q),rfl,?_,?_⟩
   ·rw [zi,zi,sizeLine_eq];omega
   ·rw [List.length_append,zi,zi,sizeLine_eq];simp;omega
   ·exact fun b o e=>by rw [zv (zy e hp),zv (zy e hp)];exact s1 b o e
   ·show upd (upd H' p _) p _ p=_
    rw [za,e3,zb7,zb7]
    rfl
  ·rintro σ H' ⟨v,rfl,s1,e1⟩
   rw [List.length_map,Paired.length hR,List.take_length] at e1
   exact ⟨_,rfl,k p H' s1 hp e1⟩
end
section
variable {P:Program} {w:World} {K:PySem.W.Frag} {mg:Str→Option Value} {base:Heap} {c:Cl} {le ln:Addr} (T:Txt K mg c le ln) (Fs:YM K mg c)
theorem zfb {C:Addr} {fs:List (Str × V)} {H1:Hp} {Q:VK} (k:∀x H',zC H1 H'→H1 x=none→(∃dx,H' x=some (.ins C dx fs))→Q (.ref x) H') {x dx:Addr} {H':Hp} (nx:H1 x=none) (ndx:H1 dx=none)
  (h1:∀b o,(upd (upd H1 dx (.own x)) x (.ins C dx [])) b=some o→b≠x→H' b=some o) (h2:H' x=some (.ins C dx fs)):V.non=V.non∧Q (.ref x) H':=
 ⟨rfl,k x H' (fun b o e=>h1 b o (by rw [zv (zy e nx),zv (zy e ndx)];exact e) (zy e nx)) nx ⟨dx,h2⟩⟩
theorem pl_ {f:Str} {v:V} {fs:List (Str × V)} {n:Nat} (h:fs.length≤n):(yH f v fs).length≤n + 1:=Nat.le_trans (zbH f v fs) (Nat.succ_le_succ h)
include T Fs
noncomputable abbrev zfU (c:Cl):Sp:=fun vs H Q _=>∃p dx v0 v1 v2,vs=[.ref p,v0,v1,v2]∧H p=some (.ins c.Target dx [])∧∀H',(∀b o,H b=some o→b≠p→H' b=some o)→H' p=some (.ins c.Target dx (JJ v0 v1 v2))→Q .non H'
omit T Fs in
theorem zmY (v0 v1 v2:V):(yH "endpoint" v2 (yH "word" v1 (yH "row" v0 [])))=JJ v0 v1 v2:=by rfl
theorem zf6:JV P w K mg base 1 "Target" c.Target ["self","row","word","endpoint"] (zfU c):=by
 refine Fs.d_Target_init.ok zfZ zgk (fun vs H Q E h=>?_) (fun f cdv A outer s H vs Q E hr h=>?_)
 ·obtain ⟨p,dx,v0,v1,v2,rfl,_⟩:=h;rfl
 ·obtain ⟨p,dx,v0,v1,v2,rfl,hp,k⟩:=h
  refine ⟨_,(zc (zM (K:=K) (pv 0) (pv 1) rfl) (zc (zM (K:=K) (pv 0) (pv 2) rfl) (zg (zM (K:=K) (pv 0) (pv 3) rfl)))),fun hL=>?_⟩
  refine ⟨_,rfl,_,rfl,p,_,dx,_,rfl,hp,T.k_Target,T.n_Target_row,(Nat.lt_of_le_of_lt (Nat.zero_le 0) (by decide)),_,rfl,_,rfl,p,_,dx,_,rfl,za,T.k_Target,T.n_Target_word,(Nat.lt_of_le_of_lt (pl_ (Nat.zero_le 0)) (by decide)),_,rfl,_,rfl,p,_,dx,_,rfl,za,T.k_Target,T.n_Target_endpoint,(Nat.lt_of_le_of_lt (pl_ (pl_ (Nat.zero_le 0))) (by decide)),?_⟩
  refine k _ (fun b o e hb=>?_) ?_
  ·rw [zv hb,zv hb,zv hb];exact e
  ·rw [za,zmY]
noncomputable abbrev zcP (c:Cl):Sp:=fun vs H Q _=>∃p dx v0 v1,vs=[.ref p,v0,v1]∧H p=some (.ins c.Parameter dx [])∧∀H',(∀b o,H b=some o→b≠p→H' b=some o)→H' p=some (.ins c.Parameter dx (Yr v0 v1))→Q .non H'
omit T Fs in
theorem ziS (v0 v1:V):(yH "value" v1 (yH "name" v0 []))=Yr v0 v1:=by rfl
theorem zdc:JV P w K mg base 1 "Parameter" c.Parameter ["self","name","value"] (zcP c):=by
 refine Fs.d_Parameter_init.ok zcS zdy (fun vs H Q E h=>?_) (fun f cdv A outer s H vs Q E hr h=>?_)
 ·obtain ⟨p,dx,v0,v1,rfl,_⟩:=h;rfl
 ·obtain ⟨p,dx,v0,v1,rfl,hp,k⟩:=h
  refine ⟨_,(zc (zM (K:=K) (pv 0) (pv 1) rfl) (zg (zM (K:=K) (pv 0) (pv 2) rfl))),fun hL=>?_⟩
  refine ⟨_,rfl,_,rfl,p,_,dx,_,rfl,hp,T.k_Parameter,T.n_Parameter_name,(Nat.lt_of_le_of_lt (Nat.zero_le 0) (by decide)),_,rfl,_,rfl,p,_,dx,_,rfl,za,T.k_Parameter,T.n_Parameter_value,(Nat.lt_of_le_of_lt (pl_ (Nat.zero_le 0)) (by decide)),?_⟩
  refine k _ (fun b o e hb=>?_) ?_
  ·rw [zv hb,zv hb];exact e
  ·rw [za,ziS]
noncomputable abbrev zj4 (c:Cl):Sp:=fun vs H Q _=>∃p dx v0 v1 v2,vs=[.ref p,v0,v1,v2]∧H p=some (.ins c.Via dx [])∧∀H',(∀b o,H b=some o→b≠p→H' b=some o)→H' p=some (.ins c.Via dx (zku v0 v1 v2))→Q .non H'
omit T Fs in
theorem zqO (v0 v1 v2:V):(yH "branch" v2 (yH "parameters" v1 (yH "endpoint" v0 [])))=zku v0 v1 v2:=by rfl
theorem zki:JV P w K mg base 1 "Via" c.Via ["self","endpoint","parameters","branch"] (zj4 c):=by
 refine Fs.d_Via_init.ok zj8 zkG (fun vs H Q E h=>?_) (fun f cdv A outer s H vs Q E hr h=>?_)
 ·obtain ⟨p,dx,v0,v1,v2,rfl,_⟩:=h;rfl
 ·obtain ⟨p,dx,v0,v1,v2,rfl,hp,k⟩:=h
  refine ⟨_,(zc (zM (K:=K) (pv 0) (pv 1) rfl) (zc (zM (K:=K) (pv 0) (pv 2) rfl) (zg (zM (K:=K) (pv 0) (pv 3) rfl)))),fun hL=>?_⟩
  refine ⟨_,rfl,_,rfl,p,_,dx,_,rfl,hp,T.k_Via,T.n_Via_endpoint,(Nat.lt_of_le_of_lt (Nat.zero_le 0) (by decide)),_,rfl,_,rfl,p,_,dx,_,rfl,za,T.k_Via,T.n_Via_parameters,(Nat.lt_of_le_of_lt (pl_ (Nat.zero_le 0)) (by decide)),_,rfl,_,rfl,p,_,dx,_,rfl,za,T.k_Via,T.n_Via_branch,(Nat.lt_of_le_of_lt (pl_ (pl_ (Nat.zero_le 0))) (by decide)),?_⟩
  refine k _ (fun b o e hb=>?_) ?_
  ·rw [zv hb,zv hb,zv hb];exact e
  ·rw [za,zqO]
noncomputable abbrev zg0 (c:Cl):Sp:=fun vs H Q _=>∃p dx v0 v1,vs=[.ref p,v0,v1]∧H p=some (.ins c.Party dx [])∧∀H',(∀b o,H b=some o→b≠p→H' b=some o)→H' p=some (.ins c.Party dx (zbI v0 v1))→Q .non H'
omit T Fs in
theorem zof (v0 v1:V):(yH "parameters" v1 (yH "target" v0 []))=zbI v0 v1:=by rfl
theorem zcp:JV P w K mg base 1 "Party" c.Party ["self","target","parameters"] (zg0 c):=by
 refine Fs.d_Party_init.ok zhf zh3 (fun vs H Q E h=>?_) (fun f cdv A outer s H vs Q E hr h=>?_)
 ·obtain ⟨p,dx,v0,v1,rfl,_⟩:=h;rfl
 ·obtain ⟨p,dx,v0,v1,rfl,hp,k⟩:=h
  refine ⟨_,(zc (zM (K:=K) (pv 0) (pv 1) rfl) (zg (zM (K:=K) (pv 0) (pv 2) rfl))),fun hL=>?_⟩
  refine ⟨_,rfl,_,rfl,p,_,dx,_,rfl,hp,T.k_Party,T.n_Party_target,(Nat.lt_of_le_of_lt (Nat.zero_le 0) (by decide)),_,rfl,_,rfl,p,_,dx,_,rfl,za,T.k_Party,T.n_Party_parameters,(Nat.lt_of_le_of_lt (pl_ (Nat.zero_le 0)) (by decide)),?_⟩
  refine k _ (fun b o e hb=>?_) ?_
  ·rw [zv hb,zv hb];exact e
  ·rw [za,zof]
noncomputable abbrev zg3 (c:Cl):Sp:=fun vs H Q _=>∃p dx v0 v1 v2,vs=[.ref p,v0,v1,v2]∧H p=some (.ins c.First dx [])∧∀H',(∀b o,H b=some o→b≠p→H' b=some o)→H' p=some (.ins c.First dx (Q6 v0 v1 v2))→Q .non H'
omit T Fs in
theorem zoh (v0 v1 v2:V):(yH "target" v2 (yH "method" v1 (yH "line" v0 [])))=Q6 v0 v1 v2:=by rfl
theorem zcq:JV P w K mg base 1 "First" c.First ["self","line","method","target"] (zg3 c):=by
 refine Fs.d_First_init.ok zhh zh6 (fun vs H Q E h=>?_) (fun f cdv A outer s H vs Q E hr h=>?_)
 ·obtain ⟨p,dx,v0,v1,v2,rfl,_⟩:=h;rfl
 ·obtain ⟨p,dx,v0,v1,v2,rfl,hp,k⟩:=h
  refine ⟨_,(zc (zM (K:=K) (pv 0) (pv 1) rfl) (zc (zM (K:=K) (pv 0) (pv 2) rfl) (zg (zM (K:=K) (pv 0) (pv 3) rfl)))),fun hL=>?_⟩
  refine ⟨_,rfl,_,rfl,p,_,dx,_,rfl,hp,T.k_First,T.n_First_line,(Nat.lt_of_le_of_lt (Nat.zero_le 0) (by decide)),_,rfl,_,rfl,p,_,dx,_,rfl,za,T.k_First,T.n_First_method,(Nat.lt_of_le_of_lt (pl_ (Nat.zero_le 0)) (by decide)),_,rfl,_,rfl,p,_,dx,_,rfl,za,T.k_First,T.n_First_target,(Nat.lt_of_le_of_lt (pl_ (pl_ (Nat.zero_le 0))) (by decide)),?_⟩
  refine k _ (fun b o e hb=>?_) ?_
  ·rw [zv hb,zv hb,zv hb];exact e
  ·rw [za,zoh]
noncomputable abbrev zfV (c:Cl):Sp:=fun vs H Q _=>∃p dx v0 v1 v2,vs=[.ref p,v0,v1,v2]∧H p=some (.ins c.Header dx [])∧∀H',(∀b o,H b=some o→b≠p→H' b=some o)→H' p=some (.ins c.Header dx (JK v0 v1 v2))→Q .non H'
omit T Fs in
theorem zmZ (v0 v1 v2:V):(yH "value" v2 (yH "line" v1 (yH "kind" v0 [])))=JK v0 v1 v2:=by rfl
theorem zf7:JV P w K mg base 1 "Header" c.Header ["self","kind","line","value"] (zfV c):=by
 refine Fs.d_Header_init.ok zf0 zgl (fun vs H Q E h=>?_) (fun f cdv A outer s H vs Q E hr h=>?_)
 ·obtain ⟨p,dx,v0,v1,v2,rfl,_⟩:=h;rfl
 ·obtain ⟨p,dx,v0,v1,v2,rfl,hp,k⟩:=h
  refine ⟨_,(zc (zM (K:=K) (pv 0) (pv 1) rfl) (zc (zM (K:=K) (pv 0) (pv 2) rfl) (zg (zM (K:=K) (pv 0) (pv 3) rfl)))),fun hL=>?_⟩
  refine ⟨_,rfl,_,rfl,p,_,dx,_,rfl,hp,T.k_Header,T.n_Header_kind,(Nat.lt_of_le_of_lt (Nat.zero_le 0) (by decide)),_,rfl,_,rfl,p,_,dx,_,rfl,za,T.k_Header,T.n_Header_line,(Nat.lt_of_le_of_lt (pl_ (Nat.zero_le 0)) (by decide)),_,rfl,_,rfl,p,_,dx,_,rfl,za,T.k_Header,T.n_Header_value,(Nat.lt_of_le_of_lt (pl_ (pl_ (Nat.zero_le 0))) (by decide)),?_⟩
  refine k _ (fun b o e hb=>?_) ?_
  ·rw [zv hb,zv hb,zv hb];exact e
  ·rw [za,zmZ]
noncomputable abbrev zg4 (c:Cl):Sp:=fun vs H Q _=>∃p dx v0 v1 v2 v3 v4,vs=[.ref p,v0,v1,v2,v3,v4]∧H p=some (.ins c.Entry dx [])∧∀H',(∀b o,H b=some o→b≠p→H' b=some o)→H' p=some (.ins c.Entry dx (Yt v0 v1 v2 v3 v4))→Q .non H'
omit T Fs in
theorem zoi (v0 v1 v2 v3 v4:V):(yH "number" v4 (yH "call_id" v3 (yH "until" v2 (yH "place" v1 (yH "whom" v0 [])))))=Yt v0 v1 v2 v3 v4:=by rfl
theorem zhB:JV P w K mg base 1 "Entry" c.Entry ["self","whom","place","until","call_id","number"] (zg4 c):=by
 refine Fs.d_Entry_init.ok zhi zh7 (fun vs H Q E h=>?_) (fun f cdv A outer s H vs Q E hr h=>?_)
 ·obtain ⟨p,dx,v0,v1,v2,v3,v4,rfl,_⟩:=h;rfl
 ·obtain ⟨p,dx,v0,v1,v2,v3,v4,rfl,hp,k⟩:=h
  refine ⟨_,(zc (zM (K:=K) (pv 0) (pv 1) rfl) (zc (zM (K:=K) (pv 0) (pv 2) rfl) (zc (zM (K:=K) (pv 0) (pv 3) rfl) (zc (zM (K:=K) (pv 0) (pv 4) rfl) (zg (zM (K:=K) (pv 0) (pv 5) rfl)))))),fun hL=>?_⟩
  refine ⟨_,rfl,_,rfl,p,_,dx,_,rfl,hp,T.k_Entry,T.n_Entry_whom,(Nat.lt_of_le_of_lt (Nat.zero_le 0) (by decide)),_,rfl,_,rfl,p,_,dx,_,rfl,za,T.k_Entry,T.n_Entry_place,(Nat.lt_of_le_of_lt (pl_ (Nat.zero_le 0)) (by decide)),_,rfl,_,rfl,p,_,dx,_,rfl,za,T.k_Entry,T.n_Entry_until,(Nat.lt_of_le_of_lt (pl_ (pl_ (Nat.zero_le 0))) (by decide)),_,rfl,_,rfl,p,_,dx,_,rfl,za,T.k_Entry,T.n_Entry_call_id,(Nat.lt_of_le_of_lt (pl_ (pl_ (pl_ (Nat.zero_le 0)))) (by decide)),_,rfl,_,rfl,p,_,dx,_,rfl,za,T.k_Entry,T.n_Entry_number,(Nat.lt_of_le_of_lt (pl_ (pl_ (pl_ (pl_ (Nat.zero_le 0))))) (by decide)),?_⟩
  refine k _ (fun b o e hb=>?_) ?_
  ·rw [zv hb,zv hb,zv hb,zv hb,zv hb];exact e
  ·rw [za,zoi]
noncomputable abbrev zgZ (c:Cl):Sp:=fun vs H Q _=>∃p dx v0 v1 v2,vs=[.ref p,v0,v1,v2]∧H p=some (.ins c.Place dx [])∧∀H',(∀b o,H b=some o→b≠p→H' b=some o)→H' p=some (.ins c.Place dx (zdo v0 v1 v2))→Q .non H'
omit T Fs in
theorem zoe (v0 v1 v2:V):(yH "port" v2 (yH "address" v1 (yH "word" v0 [])))=zdo v0 v1 v2:=by rfl
theorem zhz:JV P w K mg base 1 "Place" c.Place ["self","word","address","port"] (zgZ c):=by
 refine Fs.d_Place_init.ok zhe zh2 (fun vs H Q E h=>?_) (fun f cdv A outer s H vs Q E hr h=>?_)
 ·obtain ⟨p,dx,v0,v1,v2,rfl,_⟩:=h;rfl
 ·obtain ⟨p,dx,v0,v1,v2,rfl,hp,k⟩:=h
  refine ⟨_,(zc (zM (K:=K) (pv 0) (pv 1) rfl) (zc (zM (K:=K) (pv 0) (pv 2) rfl) (zg (zM (K:=K) (pv 0) (pv 3) rfl)))),fun hL=>?_⟩
  refine ⟨_,rfl,_,rfl,p,_,dx,_,rfl,hp,T.k_Place,T.n_Place_word,(Nat.lt_of_le_of_lt (Nat.zero_le 0) (by decide)),_,rfl,_,rfl,p,_,dx,_,rfl,za,T.k_Place,T.n_Place_address,(Nat.lt_of_le_of_lt (pl_ (Nat.zero_le 0)) (by decide)),_,rfl,_,rfl,p,_,dx,_,rfl,za,T.k_Place,T.n_Place_port,(Nat.lt_of_le_of_lt (pl_ (pl_ (Nat.zero_le 0))) (by decide)),?_⟩
  refine k _ (fun b o e hb=>?_) ?_
  ·rw [zv hb,zv hb,zv hb];exact e
  ·rw [za,zoe]
noncomputable abbrev zaX (c:Cl):Sp:=fun vs H Q _=>∃p dx v0 v1,vs=[.ref p,v0,v1]∧H p=some (.ins c.Registration dx [])∧∀H',(∀b o,H b=some o→b≠p→H' b=some o)→H' p=some (.ins c.Registration dx (Zc v0 v1))→Q .non H'
omit T Fs in
theorem zeY (v0 v1:V):(yH "entries" v1 (yH "status" v0 []))=Zc v0 v1:=by rfl
theorem ZB:JV P w K mg base 1 "Registration" c.Registration ["self","status","entries"] (zaX c):=by
 refine Fs.d_Registration_init.ok zaY zaZ (fun vs H Q E h=>?_) (fun f cdv A outer s H vs Q E hr h=>?_)
 ·obtain ⟨p,dx,v0,v1,rfl,_⟩:=h;rfl
 ·obtain ⟨p,dx,v0,v1,rfl,hp,k⟩:=h
  refine ⟨_,(zc (zM (K:=K) (pv 0) (pv 1) rfl) (zg (zM (K:=K) (pv 0) (pv 2) rfl))),fun hL=>?_⟩
  refine ⟨_,rfl,_,rfl,p,_,dx,_,rfl,hp,T.k_Registration,T.n_Registration_status,(Nat.lt_of_le_of_lt (Nat.zero_le 0) (by decide)),_,rfl,_,rfl,p,_,dx,_,rfl,za,T.k_Registration,T.n_Registration_entries,(Nat.lt_of_le_of_lt (pl_ (Nat.zero_le 0)) (by decide)),?_⟩
  refine k _ (fun b o e hb=>?_) ?_
  ·rw [zv hb,zv hb];exact e
  ·rw [za,zeY]
noncomputable abbrev zey (c:Cl):Sp:=fun vs H Q _=>∃p dx v0 v1 v2,vs=[.ref p,v0,v1,v2]∧H p=some (.ins c.Sending dx [])∧∀H',(∀b o,H b=some o→b≠p→H' b=some o)→H' p=some (.ins c.Sending dx (Z4 v0 v1 v2))→Q .non H'
omit T Fs in
theorem zlC (v0 v1 v2:V):(yH "port" v2 (yH "address" v1 (yH "row" v0 [])))=Z4 v0 v1 v2:=by rfl
theorem Zp:JV P w K mg base 1 "Sending" c.Sending ["self","row","address","port"] (zey c):=by
 refine Fs.d_Sending_init.ok zeI zfC (fun vs H Q E h=>?_) (fun f cdv A outer s H vs Q E hr h=>?_)
 ·obtain ⟨p,dx,v0,v1,v2,rfl,_⟩:=h;rfl
 ·obtain ⟨p,dx,v0,v1,v2,rfl,hp,k⟩:=h
  refine ⟨_,(zc (zM (K:=K) (pv 0) (pv 1) rfl) (zc (zM (K:=K) (pv 0) (pv 2) rfl) (zg (zM (K:=K) (pv 0) (pv 3) rfl)))),fun hL=>?_⟩
  refine ⟨_,rfl,_,rfl,p,_,dx,_,rfl,hp,T.k_Sending,T.n_Sending_row,(Nat.lt_of_le_of_lt (Nat.zero_le 0) (by decide)),_,rfl,_,rfl,p,_,dx,_,rfl,za,T.k_Sending,T.n_Sending_address,(Nat.lt_of_le_of_lt (pl_ (Nat.zero_le 0)) (by decide)),_,rfl,_,rfl,p,_,dx,_,rfl,za,T.k_Sending,T.n_Sending_port,(Nat.lt_of_le_of_lt (pl_ (pl_ (Nat.zero_le 0))) (by decide)),?_⟩
  refine k _ (fun b o e hb=>?_) ?_
  ·rw [zv hb,zv hb,zv hb];exact e
  ·rw [za,zlC]
noncomputable abbrev zez (c:Cl):Sp:=fun vs H Q _=>∃p dx v0 v1,vs=[.ref p,v0,v1]∧H p=some (.ins c.Outcome dx [])∧∀H',(∀b o,H b=some o→b≠p→H' b=some o)→H' p=some (.ins c.Outcome dx (Qx v0 v1))→Q .non H'
omit T Fs in
theorem zlD (v0 v1:V):(yH "entries" v1 (yH "sending" v0 []))=Qx v0 v1:=by rfl
theorem Qt:JV P w K mg base 1 "Outcome" c.Outcome ["self","sending","entries"] (zez c):=by
 refine Fs.d_Outcome_init.ok zeJ zfD (fun vs H Q E h=>?_) (fun f cdv A outer s H vs Q E hr h=>?_)
 ·obtain ⟨p,dx,v0,v1,rfl,_⟩:=h;rfl
 ·obtain ⟨p,dx,v0,v1,rfl,hp,k⟩:=h
  refine ⟨_,(zc (zM (K:=K) (pv 0) (pv 1) rfl) (zg (zM (K:=K) (pv 0) (pv 2) rfl))),fun hL=>?_⟩
  refine ⟨_,rfl,_,rfl,p,_,dx,_,rfl,hp,T.k_Outcome,T.n_Outcome_sending,(Nat.lt_of_le_of_lt (Nat.zero_le 0) (by decide)),_,rfl,_,rfl,p,_,dx,_,rfl,za,T.k_Outcome,T.n_Outcome_entries,(Nat.lt_of_le_of_lt (pl_ (Nat.zero_le 0)) (by decide)),?_⟩
  refine k _ (fun b o e hb=>?_) ?_
  ·rw [zv hb,zv hb];exact e
  ·rw [za,zlD]
end
section
variable {P:Program} {w:World} {K:PySem.W.Frag} {mg:Str→Option Value} {base:Heap} {c:Cl} {le ln:Addr} (T:Txt K mg c le ln) (Fs:YM K mg c)
noncomputable def zpd:Option Nat→V
 | none=>.non
 | some n=>.int (n:Int)
theorem qv {Q:VK} {H:Hp} {a b:V} (e:a=b) (h:Q a H):Q b H:=e ▸ h
noncomputable abbrev zgY:Sp:=fun vs H Q _=>∃a b,vs=[.ref a]∧zD H a b∧b.length≤100000∧∀H',zC H H'→Q (zpd (addressOf b)) H'
noncomputable abbrev zlo:Sp:=fun vs H Q _=>∃a b,vs=[.ref a]∧zD H a b∧b.length≤100000∧∀H',zC H H'→Q (.bl (YK b)) H'
noncomputable abbrev zlm:Sp:=fun vs H Q _=>∃n:Int,vs=[.int n]∧Q (.bl (decide (1≤n)&&decide (n≤65535))) H
noncomputable abbrev zli:Sp:=fun vs H Q _=>∃a b,vs=[.ref a]∧zD H a b∧∀H',zC H H'→Q (.int (ziQ b:Nat)) H'
theorem Q5 {l:B} {m:Nat} (h:y8 l m=true):l.all digit=true:=(ZN.mp h).1.2.2
theorem Jg {α:Type} {l:List α} {i:Nat} {x:α} (h:l[i]?=some x):l.drop i=x::l.drop (i + 1):=by
 obtain ⟨h1,h2⟩:=List.getElem?_eq_some_iff.mp h
 rw [List.drop_eq_getElem_cons h1,h2]
theorem zmO {H H':Hp} {ps:List Addr} {ls:List B} (s:zC H H') (h:Paired (fun q x=>zD H q x) ps ls):Paired (fun q x=>zD H' q x) ps ls:=Paired.mapP h fun q x r=>s q _ r
include T Fs
theorem Z2:yG P w K mg base 4 "address_of" ["row"] zgY:=by
 refine Fs.d_address_of.ok ZV zh1 (fun vs H Q E h=>?_) (fun f cdv A outer s H vs Q E hr h=>?_)
 ·obtain ⟨a,b,rfl,_⟩:=h;rfl
 ·obtain ⟨a,b,rfl,hb,hz,k⟩:=h
  refine ⟨_,(zc (zE (i:=1) ZV.nd rfl (Or.inl rfl) (zq (Qs T Fs) (hr.mono (by decide)) rfl (zl (pv 0) (zl (zN T.c_POINT rfl) zb)))) (zc (z4 (zw ziW (yo (zx (K:=K)) rfl T.b_len PySem.boot_len (zl (pv 1) zb)) zu (zz _)) (zg (zm zY)) zF) (zc (zE (i:=2) ZV.nd rfl (Or.inl rfl) zu) (zc (JP PassesOwn.never rfl (zK (K:=K) (pv 1)) (zX (i:=3) ZV.nd rfl (Or.inl rfl)) (zc (z4 (PW.pt (Z9 (yT (yi (zq (QG T Fs) (hr.mono (by decide)) rfl (zl (pv 3) (zl zu zb))))) (Zm (zw zhs (zq (yz T Fs) (hr.mono (by decide)) rfl (zl (pv 3) zb)) zu (zz _))))) (zg (zm zY)) zF) (zg (zE (i:=2) ZV.nd rfl (Or.inl rfl) (zU yY (zU zm3 (pv 2) zu) (zq (yz T Fs) (hr.mono (by decide)) rfl (zl (pv 3) zb))))))) (zg (zm (pv 2))))))),fun hL=>?_⟩
  refine ⟨_,rfl,a,b,46,rfl,hb,hz,fun p ps H1 s1 hp e1 hf hR=>?_⟩
  refine zrD ?_
  dsimp only
  have hlen:=Paired.length hR
  refine ⟨_,rfl,p,_,rfl,.inl (SqL.of e1),rfl,_,rfl,zR (fun h1=>?_) (fun h1=>?_)⟩
  ·rw [List.length_map] at h1
   refine qv ?_ (k H1 s1)
   rw [zdQ,if_neg (by simp at h1;omega)];rfl
  ·rw [List.length_map] at h1
   have h4:(splitBy 46 b []).length=4:=by simp at h1;omega
   have hA:addressOf b=zqb (splitBy 46 b []) 0:=by rw [zdQ,if_pos h4]
   refine ⟨_,rfl,p,_,rfl,SqL.of e1,fun _=>Yy (K:=K) (a:=p) (xs:=ps.map V.ref) (fun i σ H'=>∃(acc:Nat) (v:Option V),σ=[some (.ref a),some (.ref p),some (.int (acc:Int)),v]∧zC H1 H'∧zqb (splitBy 46 b []) 0=zqb ((splitBy 46 b []).drop i) acc)
    ⟨0,none,rfl,zC.refl _,rfl⟩ (fun i σ H' _ ⟨_,_,_,s2,_⟩=>SqL.of (s2 _ _ e1)) ?_ ?_⟩
   ·rintro i x σ H' hi ⟨acc,v,rfl,s2,hacc⟩
    obtain ⟨q,hq,rfl⟩:=zb9 hi
    obtain ⟨l,hl,hrow⟩:=Paired.at_ hR hq
    have hrow':=s2 _ _ hrow
    rw [Jg hl,zqb] at hacc
    refine ⟨_,rfl,q,l,3,rfl,hrow',fun H2 s3=>⟨_,rfl,zR (fun h2=>zdL ?_) (fun h2=>?_)⟩⟩
    ·refine qv ?_ (k H2 (s1.trans (s2.trans s3)))
     rw [hA,hacc,if_neg]
     ·rfl
     ·intro q;rw [q.1] at h2;cases h2
    ·have h2':y8 l 3=true:=by simpa using h2
     have hrow2:=s3 _ _ hrow'
     refine ⟨_,rfl,q,l,rfl,hrow2,Q5 h2',_,_,rfl,rfl,_,rfl,zR (fun h3=>?_) (fun h3=>?_)⟩
     ·refine qv ?_ (k H2 (s1.trans (s2.trans s3)))
      rw [hA,hacc,if_neg]
      ·rfl
      ·intro q;simp at h3;omega
     ·have h3':natOf l≤255:=by simp at h3;omega
      rw [if_pos ⟨h2',h3'⟩] at hacc
      refine ⟨_,rfl,_,_,rfl,rfl,.inr ⟨by decide,by decide⟩,_,rfl,q,l,rfl,hrow2,Q5 h2',_,_,rfl,rfl,acc * 256 + natOf l,some (.ref q),?_,s2.trans s3,hacc⟩
      rfl
   ·rintro σ H' ⟨acc,v,rfl,s2,hacc⟩
    rw [List.length_map,hlen,List.drop_length] at hacc
    refine ⟨_,rfl,qv ?_ (k H' (s1.trans s2))⟩
    rw [hA,hacc]
    rfl
theorem zc7:yG P w K mg base 1 "is_port" ["number"] zlm:=by
 refine Fs.d_is_port.ok zlw zme (fun vs H Q E h=>?_) (fun f cdv A outer s H vs Q E hr h=>?_)
 ·obtain ⟨n,rfl,_⟩:=h;rfl
 ·obtain ⟨n,rfl,k⟩:=h
  refine ⟨_,(zg (zm (ZZ ZG ZG zu (pv 0) (zN T.c_MOST_PORT rfl)))),fun hL=>?_⟩
  refine ⟨_,rfl,_,_,rfl,rfl,_,rfl,zR (fun h1=>⟨_,_,rfl,rfl,qb ?_ k⟩) (fun h1=>qb ?_ k)⟩
  ·simp at h1;rw [decide_eq_true h1];rfl
  ·simp at h1;rw [decide_eq_false (by omega)];rfl
theorem zlL:yG P w K mg base 4 "port_of" ["row"] zli:=by
 refine Fs.d_port_of.ok zlu zma (fun vs H Q E h=>?_) (fun f cdv A outer s H vs Q E hr h=>?_)
 ·obtain ⟨a,b,rfl,_⟩:=h;rfl
 ·obtain ⟨a,b,rfl,hb,k⟩:=h
  refine ⟨_,(zg (zm (yI (yi (zq (QG T Fs) (hr.mono (by decide)) rfl (zl (pv 0) (zl zu zb)))) (zq (yz T Fs) (hr.mono (by decide)) rfl (zl (pv 0) zb)) zu))),fun hL=>?_⟩
  refine ⟨_,rfl,a,b,5,rfl,hb,fun H1 s1=>⟨_,rfl,zR (fun h1=>⟨_,rfl,a,b,rfl,s1 _ _ hb,Q5 h1,qi ?_ (k H1 s1)⟩) (fun h1=>qi ?_ (k H1 s1))⟩⟩
  ·unfold ziQ;rw [if_pos h1]
  ·unfold ziQ;rw [if_neg h1];rfl
omit T Fs in
theorem zl0 {b:B} {n:Nat} (h:b[b.length - 1]?=some n):b.getLast?=some n:=by rw [List.getLast?_eq_getElem?];exact h
theorem zgx:yG P w K mg base 5 "is_name" ["row"] zlo:=by
 refine Fs.d_is_name.ok zcR zmf (fun vs H Q E h=>?_) (fun f cdv A outer s H vs Q E hr h=>?_)
 ·obtain ⟨a,b,rfl,_⟩:=h;rfl
 ·obtain ⟨a,b,rfl,hb,hz,k⟩:=h
  refine ⟨_,(zc (z4 (Za (PW.pt (Z9 (yT (zeh ZG ZG zu (yo (zx (K:=K)) rfl T.b_len PySem.boot_len (zl (pv 0) zb)) (zN T.c_MOST_NAME_SIGNS rfl))) (Zm (zw zkg (zq (Z2 T Fs) (hr.mono (by decide)) rfl (zl (pv 0) zb)) zY (zz _)))))) (zg (zm zeZ)) zF) (zc (z4 (Za (PW.pt (Z9 (yT (yi (zq (yn T Fs) (hr.mono (by decide)) rfl (zl (yE (zI (K:=K)) (pv 0) zu (fun _ _=>rfl)) zb)))) (Zm (yT (yi (zq (yn T Fs) (hr.mono (by decide)) rfl (zl (yE (zI (K:=K)) (pv 0) (zU zdD (yo (zx (K:=K)) rfl T.b_len PySem.boot_len (zl (pv 0) zb)) zu) (fun _ _=>rfl)) zb)))))))) (zg (zm zeZ)) zF) (zg (zm (yo (zbJ (K:=K) rfl) rfl T.b_all zfG (zl (Q2 rfl zcR.nd (zK (K:=K) (pv 0)) (z3 (own:=[("code",1)]) (by exact rfl)) (fun _ _ _ _ _=>zX (i:=1) zcR.nd rfl (Or.inl rfl)) (fun _ _ _ _ _=>yK) (fun _ _ _ _ _=>(zf3 (zq (yn T Fs) (hr.mono (by decide)) rfl (zl (pv 1) zb)) (zf3 (yj Z0 (pv 1) (zN T.c_DASH rfl) (zz _)) (Zn (yj Z0 (pv 1) (zN T.c_POINT rfl) (zz _))))))) zb)))))),fun hL=>?_⟩
  refine ⟨fun t H1=>zC H H1∧t=!(decide (1≤b.length∧b.length≤64)&&decide (addressOf b=none)),?_,fun t H1 ⟨s1,ht⟩=>?_⟩
  ·refine ⟨_,rfl,a,_,rfl,.inl (SqL.of hb),_,_,rfl,rfl,_,rfl,zR (fun h1=>⟨_,_,rfl,rfl,_,rfl,zR (fun h2=>⟨zC.refl _,?_⟩) (fun h2=>?_)⟩) (fun h1=>⟨_,rfl,zdL ⟨zC.refl _,?_⟩⟩)⟩
   all_goals rw [zi] at h1
   ·rw [zi] at h2
    simp at h1 h2
    rw [decide_eq_false (by omega)];rfl
   ·rw [zi] at h2
    simp at h1 h2
    rw [decide_eq_true (show 1≤b.length∧b.length≤64 by omega)]
    refine ⟨_,rfl,a,b,rfl,hb,hz,fun H2 s2=>⟨rfl,_,rfl,s2,?_⟩⟩
    cases addressOf b <;> rfl
   ·simp at h1
    rw [decide_eq_false (by omega)];rfl
  ·subst ht
   refine zR (fun h1=>qb ?_ (k H1 s1)) (fun h1=>?_)
   ·unfold YK
    simp only [Bool.not_eq_true',Bool.and_eq_false_iff] at h1
    rcases h1 with h1 | h1 <;> rw [h1] <;> simp
   ·simp only [Bool.not_eq_true',Bool.not_eq_false,Bool.and_eq_true,decide_eq_true_eq] at h1
    obtain ⟨⟨l1,l2⟩,h2⟩:=h1
    have hb1:=s1 _ _ hb
    obtain ⟨n,hn⟩:∃n,b[0]?=some n:=⟨b[0],List.getElem?_eq_getElem (by omega)⟩
    obtain ⟨m,hm⟩:∃m,b[b.length - 1]?=some m:=⟨b[b.length - 1],List.getElem?_eq_getElem (by omega)⟩
    have eh:b.head?=some n:=by rw [List.head?_eq_getElem?];exact hn
    have el:b.getLast?=some m:=zl0 hm
    refine ⟨fun t H2=>H2=H1∧t=!(alnum n&&alnum m),?_,fun t H2 ⟨e2,ht⟩=>?_⟩
    ·refine ⟨_,rfl,a,_,_,_,rfl,rfl,SqL.of hb1,zdC (j:=0) rfl hn,n,rfl,_,rfl,zR (fun h3=>⟨rfl,?_⟩) (fun h3=>⟨_,rfl,_,rfl,a,_,rfl,.inl (SqL.of hb1),_,_,rfl,rfl,a,_,_,_,rfl,rfl,SqL.of hb1,zdC (j:=b.length - 1) (by rw [zi];omega) hm,m,rfl,_,rfl,rfl,?_⟩)⟩
     ·simp at h3;rw [h3];rfl
     ·simp at h3;rw [h3];rfl
    ·subst e2 ht
     refine zR (fun h3=>qb ?_ (k H2 s1)) (fun h3=>?_)
     ·unfold YK
      rw [eh,el]
      simp only [Bool.not_eq_true',Bool.and_eq_false_iff] at h3
      rcases h3 with h3 | h3 <;> simp [h3]
     ·simp only [Bool.not_eq_true',Bool.not_eq_false,Bool.and_eq_true] at h3
      walk_at "nx"
      refine zf1 ?_
      refine zgt (fun x=>alnum x||(x == 45||x == 46)) hb1 (fun n H3 Q' hn s3 kk=>?_) fun H3 s3=>qb ?_ (k H3 (s1.trans s3))
      ·refine ⟨_,rfl,n,rfl,_,rfl,zR (fun h4=>qb ?_ (kk H3 (zC.refl _))) (fun h4=>⟨_,rfl,rfl,_,rfl,zR (fun h5=>qb ?_ (kk H3 (zC.refl _))) (fun h5=>⟨_,rfl,rfl,qb ?_ (kk H3 (zC.refl _))⟩)⟩)⟩
       ·simp [h4]
       ·simp at h5;simp [h4];omega
       ·simp at h4 h5;rw [Bool.eq_iff_iff];simp [h4];omega
      ·unfold YK
       rw [eh,el,decide_eq_true (show 1≤b.length∧b.length≤64 from ⟨l1,l2⟩),decide_eq_true h2]
       simp [h3]
end
section
variable {P:Program} {w:World} {K:PySem.W.Frag} {mg:Str→Option Value} {base:Heap} {c:Cl} {le ln:Addr} (T:Txt K mg c le ln) (Fs:YM K mg c)
noncomputable def zd7:Host→V
 | .address n=>.int (n:Int)
 | .name _=>.non
theorem zoJ {hb:B} {h:Host} (e:hostOf hb=some h):zpd (addressOf hb)=zd7 h:=by
 rw [Je] at e
 cases ea:addressOf hb with
 | some n=>rw [ea] at e;simp at e;subst e;rfl
 | none=>
  rw [ea] at e
  simp only at e
  split at e
  ·cases e;rfl
  ·cases e
noncomputable def zqo (c:Cl) (G:Hp) (v:V) (h:Host) (pt:Nat) (hb:B):Prop:=∃a hA dx,v=.ref a∧G a=some (.ins c.Endpoint dx (Y8 (.ref hA) (zd7 h) (.int (pt:Int))))∧zD G hA hb∧hostOf hb=some h
theorem zqo.mono {c:Cl} {G G':Hp} {v:V} {h:Host} {pt:Nat} {hb:B} (s:zC G G') (x:zqo c G v h pt hb):zqo c G' v h pt hb:=by
 obtain ⟨a,hA,dx,e,h1,h2,h3⟩:=x
 exact ⟨a,hA,dx,e,s _ _ h1,s _ _ h2,h3⟩
noncomputable def zsj (c:Cl) (G:Hp) (v:V):Option (Host × Nat)→Prop
 | none=>v=.non
 | some (h,p)=>(1≤p∧p≤65535)∧∃hb,zqo c G v h p hb
noncomputable abbrev zdX (c:Cl):Sp:=fun vs H Q _=>∃p dx hA hb v2,vs=[.ref p,.ref hA,v2]∧H p=some (.ins c.Endpoint dx [])∧zD H hA hb∧hb.length≤100000∧∀H',(∀b o,H b=some o→b≠p→H' b=some o)→H' p=some (.ins c.Endpoint dx (Y8 (.ref hA) (zpd (addressOf hb)) v2))→Q .non H'
noncomputable abbrev zfR (c:Cl):Sp:=fun vs H Q _=>∃G a b,vs=[.ref a]∧zC G H∧zD G a b∧b.length≤100000∧∀v G' H',zJ G H G' H'→zsj c G' v (sentBy b)→Q v H'
theorem zke (v0 v1 v2:V):yH "port" v2 (yH "address" v1 (yH "host" v0 []))=Y8 v0 v1 v2:=by rfl
theorem znp (b:B):(zdn b).length≤b.length:=by unfold zdn;split <;> simp <;> omega
include T Fs
theorem zd3:JV P w K mg base 5 "Endpoint" c.Endpoint ["self","host","port"] (zdX c):=by
 refine Fs.d_Endpoint_init.ok zdZ zec (fun vs H Q E h=>?_) (fun f cdv A outer s H vs Q E hr h=>?_)
 ·obtain ⟨p,dx,hA,hb,v2,rfl,_⟩:=h;rfl
 ·obtain ⟨p,dx,hA,hb,v2,rfl,hp,hrow,hz,k⟩:=h
  refine ⟨_,(zc (zM (K:=K) (pv 0) (pv 1) rfl) (zc (zM (K:=K) (pv 0) (zq (Z2 T Fs) (hr.mono (by decide)) rfl (zl (pv 1) zb)) rfl) (zg (zM (K:=K) (pv 0) (pv 2) rfl)))),fun hL=>?_⟩
  have hne:hA≠p:=zqZ hrow hp (by intro q;cases q)
  refine ⟨_,rfl,_,rfl,p,_,dx,_,rfl,hp,T.k_Endpoint,T.n_Endpoint_host,(by decide),_,rfl,hA,hb,rfl,?_,hz,fun H2 s2=>⟨_,rfl,p,_,dx,_,rfl,s2 _ _ za,T.k_Endpoint,T.n_Endpoint_address,(Nat.lt_of_le_of_lt (pl_ (Nat.zero_le 0)) (by decide)),_,rfl,_,rfl,p,_,dx,_,rfl,za,T.k_Endpoint,T.n_Endpoint_port,(Nat.lt_of_le_of_lt (pl_ (pl_ (Nat.zero_le 0))) (by decide)),?_⟩⟩
  ·show upd H p _ hA=_
   rw [zv hne];exact hrow
  ·refine k _ (fun b o e hb=>?_) ?_
   ·rw [zv hb,zv hb]
    exact s2 b o (by rw [zv hb];exact e)
   ·rw [za,zke]
theorem za4:yG P w K mg base 7 "endpoint_of" ["row"] (zfR c):=by
 refine Fs.d_endpoint_of.ok Yw zgh (fun vs H Q E h=>?_) (fun f cdv A outer s H vs Q E hr h=>?_)
 ·obtain ⟨G,a,b,rfl,_⟩:=h;rfl
 ·obtain ⟨G,a,b,rfl,sg,hb,hz,k⟩:=h
  refine ⟨_,(zc (zE (i:=1) Yw.nd rfl (Or.inl rfl) (zq (ZL T Fs) (hr.mono (by decide)) rfl (zl (pv 0) (zl (zN T.c_COLON rfl) zb)))) (zc (zE (i:=2) Yw.nd rfl (Or.inl rfl) (yX (yI (zw zd0 (pv 1) zu (zz _)) (pv 0) (ya (z9 (K:=K)) (pv 0) yR (yb (pv 1)))))) (zc (zE (i:=3) Yw.nd rfl (Or.inl rfl) (yX (yI (zw zd0 (pv 1) zu (zz _)) (zN T.c_USUAL_PORT rfl) (zq (zlL T Fs) (hr.mono (by decide)) rfl (zl (ya (z9 (K:=K)) (pv 0) (yb (zU yY (pv 1) zu)) yR) zb))))) (zc (z4 (Za (PW.pt (Z9 (yT (yi (zq (zc7 T Fs) (hr.mono (by decide)) rfl (zl (pv 3) zb)))) (Zm (PW.pt (za2 (zw YG (zq (Z2 T Fs) (hr.mono (by decide)) rfl (zl (pv 2) zb)) zY (zz _)) (Q1 (yT (yi (zq (zgx T Fs) (hr.mono (by decide)) rfl (zl (pv 2) zb))))))))))) (zg (zm zY)) zF) (zg (zm (YY (zd3 T Fs) (hr.mono (by decide)) rfl (zl (pv 2) (zl (pv 3) zb))))))))),fun hL=>?_⟩
  have hbH:=sg _ _ hb
  refine ⟨_,rfl,a,b,58,rfl,hbH,?_⟩
  walk_at "nm"
  have hle:=zk0 58 b
  refine ⟨fun v H1=>∃hA G1,v=.ref hA∧zJ G H G1 H1∧zD G1 hA (zdn b),?_,fun v H1 ⟨hA,G1,hv,g1,hA1⟩=>?_⟩
  ·refine ⟨_,rfl,_,_,rfl,rfl,_,rfl,zR (fun h1=>?_) (fun h1=>?_)⟩
   ·refine ⟨_,rfl,a,G,rfl,zJ.refl sg,?_⟩
    unfold yL at h1
    have h2:¬ idx 58 b < b.length:=fun q=>by rw [if_pos q] at h1;simp at h1;omega
    unfold zdn
    rw [if_neg h2];exact hb
   ·unfold yL at h1 ⊢
    have h2:idx 58 b < b.length:=Decidable.byContradiction fun q=>h1 (by rw [if_neg q];rfl)
    rw [if_pos h2]
    refine ⟨_,rfl,_,rfl,_,rfl,a,_,rfl,SqL.of hbH,fun p hp=>?_⟩
    rw [zeV (idx 58 b) rfl]
    refine ⟨p,upd G p (.lst (rv (b.take (idx 58 b)))),rfl,zJ.keep sg (zd hp) hp za,?_⟩
    unfold zdn
    rw [if_pos h2];exact za
  ·subst hv
   walk_at "nm"
   have sH1:zC H H1:=g1.hh
   refine ⟨fun v H2=>v=.int (zbz b:Nat)∧zC H1 H2,?_,fun v H2 ⟨hv,s2⟩=>?_⟩
   ·refine ⟨_,rfl,_,_,rfl,rfl,_,rfl,zR (fun h1=>?_) (fun h1=>?_)⟩
    ·refine ⟨?_,zC.refl _⟩
     unfold yL at h1
     have h2:¬ idx 58 b < b.length:=fun q=>by rw [if_pos q] at h1;simp at h1;omega
     unfold zbz
     rw [if_neg h2];rfl
    ·unfold yL at h1 ⊢
     have h2:idx 58 b < b.length:=Decidable.byContradiction fun q=>h1 (by rw [if_neg q];rfl)
     rw [if_pos h2]
     refine ⟨_,rfl,_,rfl,_,_,rfl,rfl,_,rfl,a,_,rfl,SqL.of (sH1 _ _ hbH),fun p hp=>?_⟩
     rw [Yx (n:=(idx 58 b:Int) + 1) (idx 58 b + 1) (by omega)]
     refine ⟨p,_,rfl,za,fun H3 s3=>⟨?_,(zd hp).trans s3⟩⟩
     unfold zbz
     rw [if_pos h2]
   ·subst hv
    walk_at "nm"
    have hA2:=s2 _ _ (g1.gh _ _ hA1)
    have hzB:(zdn b).length≤100000:=Nat.le_trans (znp b) hz
    refine ⟨fun t H3=>zC H2 H3∧t=!(decide (1≤zbz b∧zbz b≤65535)&&(hostOf (zdn b)).isSome),?_,fun t H3 ⟨s3,ht⟩=>?_⟩
    ·refine ⟨_,rfl,_,rfl,_,rfl,zR (fun h1=>⟨zC.refl _,?_⟩) (fun h1=>?_)⟩
     ·have:¬ (1≤zbz b∧zbz b≤65535):=by simp at h1;omega
      rw [decide_eq_false this];rfl
     ·have hp:1≤zbz b∧zbz b≤65535:=by simp at h1;omega
      rw [decide_eq_true hp]
      refine ⟨_,rfl,hA,_,rfl,hA2,hzB,fun H3 s3=>⟨rfl,_,rfl,zR (fun h2=>?_) (fun h2=>⟨s3,?_⟩)⟩⟩
      ·refine ⟨_,rfl,hA,_,rfl,s3 _ _ hA2,hzB,fun H4 s4=>⟨_,rfl,s3.trans s4,?_⟩⟩
       rw [Je]
       cases e:addressOf (zdn b) with
       | some n=>rw [e] at h2;simp [zpd] at h2
       | none=>simp only;split <;> simp_all
      ·rw [Je]
       cases e:addressOf (zdn b) with
       | some n=>rfl
       | none=>rw [e] at h2;simp [zpd] at h2
    ·subst ht
     have g3:zJ G H G1 H3:=g1.trans (zJ.more g1.gh (s2.trans s3))
     refine zR (fun h1=>?_) (fun h1=>?_)
     ·refine k _ G1 H3 g3 ?_
      rw [ziK]
      by_cases hp:1≤zbz b∧zbz b≤65535
      ·rw [if_pos hp]
       rw [decide_eq_true hp] at h1
       cases e:hostOf (zdn b) with
       | none=>rfl
       | some x=>rw [e] at h1;simp at h1
      ·rw [if_neg hp];rfl
     ·simp only [Bool.not_eq_true',Bool.not_eq_false,Bool.and_eq_true,decide_eq_true_eq] at h1
      obtain ⟨hp,h2⟩:=h1
      obtain ⟨x,hx⟩:=Option.isSome_iff_exists.mp h2
      walk_at "nx"
      refine ⟨_,rfl,_,rfl,fun o dx no ndx ne=>⟨o,dx,hA,_,_,rfl,za,?_,hzB,fun H4 q1 q2=>zfb (fun o H4 s4 no he=>?_) no ndx q1 q2⟩⟩
      ·show upd (upd H3 dx _) o _ hA=_
       have hA3:=s3 _ _ hA2
       rw [zv (zy hA3 no),zv (zy hA3 ndx)];exact hA3
      ·obtain ⟨dx,he⟩:=he
       refine k _ (upd G1 o _) H4 (g3.trans (zJ.keep g3.gh s4 no he)) ?_
       rw [ziK,if_pos hp,hx]
       refine ⟨hp,zdn b,o,hA,dx,rfl,?_,?_,hx⟩
       ·rw [za,zoJ hx]
       ·show upd G1 o _ hA=_
        rw [zv (zy (g3.gh _ _ hA1) no)];exact hA1
end
section
variable {P:Program} {w:World} {K:PySem.W.Frag} {mg:Str→Option Value} {base:Heap} {c:Cl} {le ln:Addr} (T:Txt K mg c le ln) (Fs:YM K mg c)
theorem zB (s:String):tl (Str.ofString s)=ascii s:=TL.tl_ofString s
noncomputable def znX (c:Cl) (G:Hp) (v:V) (t:Target) (txt:B):Prop:=∃a rA wA dx ev hb,v=.ref a∧G a=some (.ins c.Target dx (JJ (.ref rA) (.ref wA) ev))∧zD G rA txt∧zD G wA (t.word.getD [])∧zqo c G ev t.host t.port hb∧(∀w,t.word=some w→wordOk w=true)
theorem znX.mono {c:Cl} {G G':Hp} {v:V} {t:Target} {txt:B} (s:zC G G') (x:znX c G v t txt):znX c G' v t txt:=by
 obtain ⟨a,rA,wA,dx,ev,hb,e,h1,h2,h3,h4,h5⟩:=x
 exact ⟨a,rA,wA,dx,ev,hb,e,s _ _ h1,s _ _ h2,s _ _ h3,h4.mono s,h5⟩
noncomputable def zsb (c:Cl) (G:Hp) (v:V) (b:B):Option Target→Prop
 | none=>v=.non
 | some t=>znX c G v t b
noncomputable abbrev ziw (c:Cl):Sp:=fun vs H Q _=>∃G a b,vs=[.ref a]∧zC G H∧zD G a b∧b.length≤100000∧∀v G' H',zJ G H G' H'→zsb c G' v b (targetOf b)→Q v H'
theorem zl7 (r:B):(Qy r).length≤r.length:=by unfold Qy;split <;> simp <;> omega
theorem znJ (r:B):∃m:Nat,yL 64 r + 1=(m:Int)∧Qy r=r.drop m:=by
 unfold yL Qy
 by_cases h:idx 64 r < r.length
 ·rw [if_pos h,if_pos h];exact ⟨_,rfl,rfl⟩
 ·rw [if_neg h,if_neg h];exact ⟨0,rfl,rfl⟩
include T Fs
theorem zdE:yG P w K mg base 8 "target_of" ["row"] (ziw c):=by
 refine Fs.d_target_of.ok YC zjz (fun vs H Q E h=>?_) (fun f cdv A outer s H vs Q E hr h=>?_)
 ·obtain ⟨G,a,b,rfl,_⟩:=h;rfl
 ·obtain ⟨G,a,b,rfl,sg,hb,hz,k⟩:=h
  refine ⟨_,(zc (z4 (yT (yi (zq (zco T Fs) (hr.mono (by decide)) rfl (zl (pv 0) (zl (zN T.c_TARGET_START rfl) zb))))) (zg (zm zY)) zF) (zc (zE (i:=1) YC.nd rfl (Or.inl rfl) (ya (z9 (K:=K)) (pv 0) (yb (yo QM rfl T.b_len PySem.boot_len (zl (zN T.c_TARGET_START rfl) zb))) yR)) (zc (zE (i:=2) YC.nd rfl (Or.inl rfl) (zq (ZL T Fs) (hr.mono (by decide)) rfl (zl (pv 1) (zl (zN T.c_AT rfl) zb)))) (zc (zE (i:=3) YC.nd rfl (Or.inl rfl) (yX (yI (zw zd0 (pv 2) zu (zz _)) (zO zb) (ya (z9 (K:=K)) (pv 1) yR (yb (pv 2)))))) (zc (z4 (Za (PW.pt (za2 (zw zpK (pv 2) zu (zz _)) (Q1 (yT (yi (zq (zgw T Fs) (hr.mono (by decide)) rfl (zl (pv 3) zb)))))))) (zg (zm zY)) zF) (zc (zE (i:=4) YC.nd rfl (Or.inl rfl) (zq (za4 T Fs) (hr.mono (by decide)) rfl (zl (ya (z9 (K:=K)) (pv 1) (yb (zU yY (pv 2) zu)) yR) zb))) (zc (z4 (zw YG (pv 4) zY (zz _)) (zg (zm zY)) zF) (zg (zm (YY (zf6 T Fs) (hr.mono (by decide)) rfl (zl (pv 0) (zl (pv 3) (zl (pv 4) zb))))))))))))),fun hL=>?_⟩
  have hbH:=sg _ _ hb
  refine ⟨_,rfl,a,b,"sip:",rfl,hbH,(by decide +kernel),fun H1 s1=>⟨_,rfl,zR (fun h1=>?_) (fun h1=>?_)⟩⟩
  ·refine k _ G H1 (zJ.more sg s1) ?_
   rw [Jj,if_neg]
   ·rfl
   ·intro q
    rw [zB,q.1] at h1
    cases h1
  ·have hpre:(ascii "sip:").isPrefixOf b=true:=by rw [zB] at h1;simpa using h1
   have g1:=zJ.more sg s1
   walk_at "nx"
   refine ⟨_,rfl,"sip:",rfl,(by decide +kernel),_,rfl,a,_,rfl,SqL.of (s1 _ _ hbH),fun p hp=>?_⟩
   rw [Yx (n:=((Str.ofString "sip:").length:Int)) 4 (by decide +kernel)]
   walk_at "nm"
   generalize hr:b.drop 4=r
   have hzr:r.length≤100000:=by rw [← hr,List.length_drop];omega
   have g2:zJ G H (upd G p (.lst (rv r))) (upd H1 p (.lst (rv r))):=g1.trans (zJ.keep g1.gh (zd hp) hp za)
   have hrow:zD (upd H1 p (.lst (rv r))) p r:=za
   have hrowG:zD (upd G p (.lst (rv r))) p r:=za
   generalize upd H1 p (.lst (rv r))=H2 at g2 hrow
   generalize upd G p (.lst (rv r))=G2 at g2 hrowG
   refine ⟨_,rfl,p,r,64,rfl,hrow,?_⟩
   walk_at "nm"
   refine ⟨fun v H3=>∃wA G3,v=.ref wA∧zJ G H G3 H3∧zC G2 G3∧zD G3 wA ((zfM r).getD []),?_,fun v H3 ⟨wA,G3,hv,g3,s23,hw⟩=>?_⟩
   ·refine ⟨_,rfl,_,_,rfl,rfl,_,rfl,zR (fun h2=>?_) (fun h2=>?_)⟩
    ·unfold yL at h2
     have h3:¬ idx 64 r < r.length:=fun q=>by rw [if_pos q] at h2;simp at h2;omega
     refine ⟨Nat.zero_le _,fun q hq=>⟨q,upd G2 q (.lst []),rfl,g2.trans (zJ.keep g2.gh (zd hq) hq za),zd (g2.gh.free hq),?_⟩⟩
     unfold zfM
     rw [if_neg h3];exact za
    ·unfold yL at h2 ⊢
     have h3:idx 64 r < r.length:=Decidable.byContradiction fun q=>h2 (by rw [if_neg q];rfl)
     rw [if_pos h3]
     refine ⟨_,rfl,_,rfl,_,rfl,p,_,rfl,SqL.of hrow,fun q hq=>?_⟩
     rw [zeV (idx 64 r) rfl]
     refine ⟨q,upd G2 q _,rfl,g2.trans (zJ.keep g2.gh (zd hq) hq za),zd (g2.gh.free hq),?_⟩
     unfold zfM
     rw [if_pos h3];exact za
   ·subst hv
    walk_at "nm"
    have hrow3:zD H3 p r:=g3.gh _ _ (s23 _ _ hrowG)
    refine ⟨fun t H4=>zC H3 H4∧(t=true↔¬ ∀w,zfM r=some w→wordOk w=true),?_,fun t H4 ⟨s4,ht⟩=>?_⟩
    ·refine ⟨_,rfl,_,_,rfl,rfl,_,rfl,zR (fun h2=>?_) (fun h2=>⟨zC.refl _,?_⟩)⟩
     ·have h3:idx 64 r < r.length:=Decidable.byContradiction fun q=>by
       unfold yL at h2
       rw [if_neg q] at h2
       simp at h2
      refine ⟨_,rfl,wA,_,rfl,g3.gh _ _ hw,fun H5 s5=>⟨_,rfl,s5,?_⟩⟩
      unfold zfM
      rw [if_pos h3]
      simp
     ·have h3:¬ idx 64 r < r.length:=fun q=>h2 (by unfold yL;rw [if_pos q];simp)
      unfold zfM
      rw [if_neg h3]
      simp
    ·have g4:zJ G H G3 H4:=g3.trans (zJ.more g3.gh s4)
     refine zR (fun h2=>?_) (fun h2=>?_)
     ·refine k _ G3 H4 g4 ?_
      rw [Jj,hr,if_neg (fun q=>ht.mp h2 q.2)]
      rfl
     ·have hword:∀w,zfM r=some w→wordOk w=true:=Classical.byContradiction fun q=>h2 (ht.mpr q)
      walk_at "nx"
      obtain ⟨m,em,eb⟩:=znJ r
      refine ⟨_,rfl,_,rfl,_,_,rfl,rfl,_,rfl,p,_,rfl,SqL.of (s4 _ _ hrow3),fun q hq=>?_⟩
      rw [Yx m em,← eb]
      have g5:=g4.trans (zJ.keep g4.gh (zd (o:=.lst (rv (Qy r))) hq) hq za)
      have s35:zC G3 (upd G3 q (.lst (rv (Qy r)))):=zd (g4.gh.free hq)
      refine ⟨_,q,Qy r,rfl,g5.gh,za,Nat.le_trans (zl7 r) hzr,fun v G6 H6 g6 hv=>?_⟩
      walk_at "nm"
      have g56:=g5.trans g6
      refine ⟨_,rfl,rfl,_,rfl,zR (fun h3=>?_) (fun h3=>?_)⟩
      ·have hv0:v=.non:=by simpa using h3
       refine k _ G6 H6 g56 ?_
       rw [Jj,hr,if_pos ⟨hpre,hword⟩]
       cases e:sentBy (Qy r) with
       | none=>rfl
       | some x=>
        rw [e] at hv
        obtain ⟨_,_,o,_,_,eo,_⟩:=hv
        rw [hv0] at eo;cases eo
      ·have hv0:v≠.non:=by simpa using h3
       walk_at "nx"
       cases e:sentBy (Qy r) with
       | none=>rw [e] at hv;exact absurd hv hv0
       | some x=>
        rw [e] at hv
        obtain ⟨hpt,hb2,hep⟩:=hv
        refine ⟨_,rfl,_,rfl,_,rfl,fun o dx no ndx ne=>⟨o,dx,_,_,_,rfl,za,fun H7 q1 q2=>zfb (fun o H7 s7 no he=>?_) no ndx q1 q2⟩⟩
        obtain ⟨dx,he⟩:=he
        refine k _ (upd G6 o _) H7 (g56.trans (zJ.keep g56.gh s7 no he)) ?_
        have s67:=zd (o:=.ins c.Target dx (JJ (.ref a) (.ref wA) v)) (g56.gh.free no)
        rw [Jj,hr,if_pos ⟨hpre,hword⟩,e]
        exact ⟨o,a,wA,dx,v,hb2,rfl,za,s67 _ _ (g56.gg _ _ hb),s67 _ _ (g6.gg _ _ (s35 _ _ hw)),hep.mono s67,hword⟩
end
section
variable {P:Program} {w:World} {K:PySem.W.Frag} {mg:Str→Option Value} {base:Heap} {c:Cl} {le ln:Addr} (T:Txt K mg c le ln) (Fs:YM K mg c)
noncomputable abbrev zfT:Sp:=fun vs H Q _=>∃n:Nat,vs=[.int (n:Int)]∧∀p H',zC H H'→H p=none→zD H' p (addressText n)→Q (.ref p) H'
noncomputable abbrev zev:Sp:=fun vs H Q _=>∃n m:Nat,vs=[.int (n:Int),.int (m:Int)]∧m < 2 ^ 64∧∀p H',zC H H'→H p=none→zD H' p (addressText n++58::decimal m)→Q (.ref p) H'
noncomputable abbrev zgK:Sp:=fun vs H Q _=>∃(wA:Addr) (wo:Option B) (n m:Nat),vs=[.ref wA,.int (n:Int),.int (m:Int)]∧zD H wA (wo.getD [])∧(∀w,wo=some w→wordOk w=true)∧m < 2 ^ 64∧∀p H',zC H H'→H p=none→zD H' p (targetText wo ⟨n,m⟩)→Q (.ref p) H'
theorem JX (n:Nat):tl (Str.ofString (toString (n:Int)))=decimal n:=TL.tl_num n
theorem Z6 (n:Nat) (h:n < 2 ^ 64):(decimal n).length≤20:=by
 unfold decimal
 rw [List.length_map]
 exact (Nat.length_toDigits_le_iff (by decide) (by decide)).mpr (Nat.lt_trans h (by decide +kernel))
include T Fs
theorem za5:yG P w K mg base 2 "address_row" ["address"] zfT:=by
 refine Fs.d_address_row.ok QO zgj (fun vs H Q E h=>?_) (fun f cdv A outer s H vs Q E hr h=>?_)
 ·obtain ⟨n,rfl,_⟩:=h;rfl
 ·obtain ⟨n,rfl,k⟩:=h
  refine ⟨_,(zg (zm (zq (zQ T Fs) (hr.mono (by decide)) rfl (zl (zom (K:=K) yt (Q2 rfl QO.nd (zmU (K:=K) (zqQ (zl zu (zl zu (zl zu (zl zu zb)))))) (z3 (own:=[("shift",1)]) (by exact rfl)) (fun _ _ _ _ _=>zX (i:=1) QO.nd rfl (Or.inl rfl)) (fun _ _ _ _ _=>yK) (fun _ _ _ _ _=>(zlH YL rfl T.b_str zjL (zl (zU zpf (zU zpe (pv 0) (pv 1)) zu) zb))))) zb)))),fun hL=>?_⟩
  refine ⟨⟨_,rfl⟩,?_⟩
  have hq:∀sh:Nat,Builtin.bitAnd ((n:Int) / 2 ^ ((sh:Nat):Int).toNat) 255=((n / 2 ^ sh % 256:Nat):Int):=fun sh=>by
   rw [znI (Int.ediv_nonneg (by omega) (by exact Int.le_of_lt (Int.pow_pos (by decide)))),Int.natCast_emod,Int.natCast_ediv,Int.natCast_pow]
   rfl
  have hlt:∀sh:Nat,n / 2 ^ sh % 256 < 2 ^ 64:=fun sh=>Nat.lt_trans (Nat.mod_lt _ (by decide)) (by decide +kernel)
  refine zpx (xs:=[.int ((24:Nat):Int),.int ((16:Nat):Int),.int ((8:Nat):Int),.int ((0:Nat):Int)]) (onN fun sh=>.str (Str.ofString (toString ((n / 2 ^ sh % 256:Nat):Int)))) (zkn (by simp)) (fun x H2 Q' hx s2 kk=>?_) (fun p H2 s2 hp e=>?_) (fun Q' q=>q)
  ·obtain ⟨sh,rfl⟩:∃sh:Nat,x=.int (sh:Int):=by
    simp only [List.mem_cons,List.not_mem_nil,or_false] at hx
    rcases hx with rfl | rfl | rfl | rfl <;> exact ⟨_,rfl⟩
   refine ⟨_,rfl,_,rfl,_,_,rfl,rfl,Int.natCast_nonneg sh,_,_,rfl,rfl,_,rfl,?_,?_⟩
   ·rw [hq sh]
    exact zaC (hlt sh)
   ·have:=kk H2 (zC.refl _)
    rw [hq sh]
    exact this
  ·have l4:∀sh:Nat,(decimal (n / 2 ^ sh % 256)).length≤20:=fun sh=>Z6 _ (hlt sh)
   have ln4:∀sh:Nat,(Str.ofString (toString ((n / 2 ^ sh % 256:Nat):Int))).length≤20:=fun sh=>by rw [QC,JX];exact l4 sh
   have ej:tl (Txt.join (Str.ofString ".") [Str.ofString (toString ((n / 2 ^ 24 % 256:Nat):Int)),Str.ofString (toString ((n / 2 ^ 16 % 256:Nat):Int)),Str.ofString (toString ((n / 2 ^ 8 % 256:Nat):Int)),Str.ofString (toString ((n / 2 ^ 0 % 256:Nat):Int))])=addressText n:=by
    rw [TL.join_eq,TL.tl_join]
    simp only [List.map_cons,List.map_nil,JX]
    rw [zB]
    unfold addressText
    simp [TL.joinL,ascii]
   refine ⟨_,p,[Str.ofString (toString ((n / 2 ^ 24 % 256:Nat):Int)),Str.ofString (toString ((n / 2 ^ 16 % 256:Nat):Int)),Str.ofString (toString ((n / 2 ^ 8 % 256:Nat):Int)),Str.ofString (toString ((n / 2 ^ 0 % 256:Nat):Int))],rfl,rfl,.inl (SqL.of e),?_,_,rfl,?_,fun q H3 s3 hq e3=>k q H3 (s2.trans s3) (s2.free hq) ?_⟩
   ·have a1:=ln4 24
    have a2:=ln4 16
    have a3:=ln4 8
    have a4:=ln4 0
    simp only [List.map_cons,List.map_nil,List.sum_cons,List.sum_nil,List.length_cons,List.length_nil]
    have:(Str.ofString ".").length=1:=by decide +kernel
    omega
   ·have:(tl (Txt.join (Str.ofString ".") [Str.ofString (toString ((n / 2 ^ 24 % 256:Nat):Int)),Str.ofString (toString ((n / 2 ^ 16 % 256:Nat):Int)),Str.ofString (toString ((n / 2 ^ 8 % 256:Nat):Int)),Str.ofString (toString ((n / 2 ^ 0 % 256:Nat):Int))])).length≤1000:=by
     rw [ej]
     have a1:=l4 24
     have a2:=l4 16
     have a3:(decimal (n / 256 % 256)).length≤20:=l4 8
     have a4:(decimal (n % 256)).length≤20:=by have:=l4 0;rw [Nat.pow_zero,Nat.div_one] at this;exact this
     unfold addressText
     simp only [List.length_append,List.length_cons]
     omega
    rw [Array.length_toList] at this
    exact this
   ·rw [← ej];exact e3
end
section
variable {P:Program} {w:World} {K:PySem.W.Frag} {mg:Str→Option Value} {base:Heap} {c:Cl} {le ln:Addr} (T:Txt K mg c le ln) (Fs:YM K mg c)
theorem QN (n:Nat):(addressText n).length≤83:=by
 have h:∀m:Nat,(decimal (m % 256)).length≤20:=fun m=>Z6 _ (Nat.lt_trans (Nat.mod_lt _ (by decide)) (by decide +kernel))
 have a1:=h (n / 2 ^ 24)
 have a2:=h (n / 2 ^ 16)
 have a3:=h (n / 256)
 have a4:=h n
 unfold addressText
 simp only [List.length_append,List.length_cons]
 omega
theorem yf {H:Hp} {p:Addr} {a b:B}:upd H p (.lst (rv a++rv b))=upd H p (.lst (rv (a++b))):=by rw [zb7]
theorem zee {w:B} (h:wordOk w=true):w.length≤64:=by
 unfold wordOk at h
 simp only [Bool.and_eq_true,decide_eq_true_eq] at h
 exact h.2.1
theorem zjR {w:B} (h:wordOk w=true):w≠[]:=by
 unfold wordOk at h
 simp only [Bool.and_eq_true] at h
 exact bne_iff_ne.mp h.1
theorem sz {n:Nat} (h:n≤1000000):n≤sizeLine:=by rw [sizeLine_eq];omega
noncomputable def zeo:Option B→B
 | some w=>w++[64]
 | none=>[]
theorem zbQ (wo:Option B) (n m:Nat):targetText wo ⟨n,m⟩=ascii "sip:"++(zeo wo++(addressText n++58::decimal m)):=by
 unfold targetText zeo
 cases wo <;> rfl
theorem zgA {K:PySem.W.Frag} {H:Hp} {q:Addr}:SqL K (upd H q (.lst [])) q (rv []):=SqL.of za
include T Fs
theorem zaB:yG P w K mg base 3 "endpoint_row" ["address","port"] zev:=by
 refine Fs.d_endpoint_row.ok zeG zfz (fun vs H Q E h=>?_) (fun f cdv A outer s H vs Q E hr h=>?_)
 ·obtain ⟨n,m,rfl,_⟩:=h;rfl
 ·obtain ⟨n,m,rfl,hm,k⟩:=h
  refine ⟨_,(zg (zm (zU yq (zq (za5 T Fs) (hr.mono (by decide)) rfl (zl (pv 0) zb)) (zq (zQ T Fs) (hr.mono (by decide)) rfl (zl (zU Yq yt (zlH YL rfl T.b_str zjL (zl (pv 1) zb))) zb))))),fun hL=>?_⟩
  have hl:=Z6 m hm
  have ht:tl (Str.ofString ":"++Str.ofString (toString (m:Int)))=58::decimal m:=by rw [TL.tl_append,JX,zB];rfl
  have ht2:(Str.ofString ":"++Str.ofString (toString (m:Int))).cps.size=(58::decimal m).length:=by rw [← ht,Array.length_toList]
  refine ⟨_,rfl,n,rfl,fun p H1 s1 hp e1=>⟨_,rfl,_,rfl,zaC hm,_,_,rfl,rfl,?_,_,rfl,?_,fun q H2 s2 hq e2=>⟨p,q,_,_,rfl,rfl,s2 _ _ e1,e2,?_,fun r hr=>?_⟩⟩⟩
  ·rw [QC,QC,JX,zB,sizeLine_eq]
   have:(ascii ":").length=1:=by decide +kernel
   omega
  ·rw [ht2,List.length_cons];omega
  ·rw [zi,zi,ht,List.length_cons]
   have:=QN n
   exact sz (by omega)
  ·rw [yf,ht]
   exact k r _ (s1.trans (s2.trans (zd hr))) (s1.free (s2.free hr)) za
theorem zht:yG P w K mg base 4 "target_row" ["word","address","port"] zgK:=by
 refine Fs.d_target_row.ok zbY zhO (fun vs H Q E h=>?_) (fun f cdv A outer s H vs Q E hr h=>?_)
 ·obtain ⟨wA,wo,n,m,rfl,_⟩:=h;rfl
 ·obtain ⟨wA,wo,n,m,rfl,hw,hwo,hm,k⟩:=h
  refine ⟨_,(zc (zE (i:=3) zbY.nd rfl (Or.inl rfl) (yX (yI (zw (yd (K:=K) hr.units) (pv 0) (zO zb) (zz _)) (zO zb) (zU yq (pv 0) (zq (zQ T Fs) (hr.mono (by decide)) rfl (zl yt zb)))))) (zg (zm (zU yq (zU yq (zq (zQ T Fs) (hr.mono (by decide)) rfl (zl (zN T.c_TARGET_START rfl) zb)) (pv 3)) (zq (zaB T Fs) (hr.mono (by decide)) rfl (zl (pv 1) (zl (pv 2) zb))))))),fun hL=>?_⟩
  have hl:=Z6 m hm
  have ha:=QN n
  have hu:(zeo wo).length≤65:=by
   unfold zeo
   cases wo with
   | none=>simp
   | some w=>simp;exact zee (hwo w rfl)
  refine ⟨fun v H1=>∃uA,v=.ref uA∧zC H H1∧zD H1 uA (zeo wo),?_,fun v H1 ⟨uA,hv,s1,hu1⟩=>?_⟩
  ·refine ⟨_,rfl,Nat.zero_le _,fun q hq=>⟨wA,q,_,_,rfl,rfl,SqL.of ((zd hq) _ _ hw),zgA,_,rfl,zR (fun h1=>?_) (fun h1=>?_)⟩⟩
   ·refine ⟨Nat.zero_le _,fun q2 hq2=>⟨q2,rfl,(zd hq).trans (zd hq2),?_⟩⟩
    have:zeo wo=[]:=by
     unfold zeo
     cases wo with
     | none=>rfl
     | some w=>exact absurd (by simpa using h1) (zjR (hwo w rfl))
    rw [this];exact za
   ·refine ⟨_,rfl,"@",rfl,by decide +kernel,fun q2 H2 s2 hq2 e2=>⟨wA,q2,_,_,rfl,rfl,s2 _ _ ((zd hq) _ _ hw),e2,?_,fun q3 hq3=>⟨q3,rfl,(zd hq).trans (s2.trans (zd hq3)),?_⟩⟩⟩
    ·rw [zi,zi,zB]
     have:(ascii "@").length=1:=by decide +kernel
     cases wo with
     | none=>simp at h1
     | some w=>exact sz (by have:=zee (hwo w rfl);simp;omega)
    ·rw [yf,zB]
     cases wo with
     | none=>simp at h1
     | some w=>exact za
  ·subst hv
   walk_at "nm"
   refine ⟨"sip:",rfl,by decide +kernel,fun p H2 s2 hp e2=>⟨_,rfl,p,uA,_,_,rfl,rfl,e2,s2 _ _ hu1,?_,fun q hq=>?_⟩⟩
   ·rw [zi,zi,zB]
    have:(ascii "sip:").length=4:=by decide +kernel
    exact sz (by omega)
   ·rw [yf,zB]
    refine ⟨_,rfl,_,rfl,n,m,rfl,hm,fun r H3 s3 hr e3=>⟨q,r,_,_,rfl,rfl,s3 _ _ za,e3,?_,fun t ht=>?_⟩⟩
    ·rw [zi,zi]
     have:(ascii "sip:").length=4:=by decide +kernel
     simp only [List.length_append,List.length_cons]
     exact sz (by omega)
    ·rw [yf]
     have ss:zC H (upd H3 t (.lst (rv (ascii "sip:"++zeo wo++(addressText n++58::decimal m))))):=s1.trans (s2.trans ((zd hq).trans (s3.trans (zd ht))))
     refine k t _ ss (s1.free (s2.free ((zd hq).free (s3.free ht)))) ?_
     have:targetText wo ⟨n,m⟩=ascii "sip:"++zeo wo++(addressText n++58::decimal m):=by
      rw [zbQ,List.append_assoc]
     rw [this]
     exact za
end
section
variable {P:Program} {w:World} {K:PySem.W.Frag} {mg:Str→Option Value} {base:Heap} {c:Cl} {le ln:Addr} (T:Txt K mg c le ln) (Fs:YM K mg c)
theorem zr2 (b:B):(low b).length=b.length:=by unfold low;simp
noncomputable def zie (c:Cl) (G:Hp) (v:V) (p:B × Option B):Prop:=∃a nA vA dx,v=.ref a∧G a=some (.ins c.Parameter dx (Yr (.ref nA) (.ref vA)))∧zD G nA p.1∧zD G vA (zim p)∧(∀x,p.2=some x→x≠[])∧(zim p).length≤100000
theorem zie.mono {c:Cl} {G G':Hp} {v:V} {p:B × Option B} (s:zC G G') (x:zie c G v p):zie c G' v p:=by
 obtain ⟨a,nA,vA,dx,e,h1,h2,h3,h4,h5⟩:=x
 exact ⟨a,nA,vA,dx,e,s _ _ h1,s _ _ h2,s _ _ h3,h4,h5⟩
noncomputable def zfJ (c:Cl) (G:Hp) (v:V):Option (B × Option B)→Prop
 | none=>v=.non
 | some p=>zie c G v p
theorem zfJ.mono {c:Cl} {G G':Hp} {v:V} {p:Option (B × Option B)} (s:zC G G') (x:zfJ c G v p):zfJ c G' v p:=by
 cases p with
 | none=>exact x
 | some p=>exact zie.mono s x
noncomputable def zL {α:Type} (R:Hp→V→α→Prop) (G:Hp) (v:V) (xs:List α):Prop:=∃a vs,v=.ref a∧G a=some (.lst vs)∧Paired (R G) vs xs
theorem zL.mono {α:Type} {R:Hp→V→α→Prop} (m:∀G G' v y,zC G G'→R G v y→R G' v y) {G G':Hp} {v:V} {xs:List α} (s:zC G G') (x:zL R G v xs):zL R G' v xs:=by
 obtain ⟨a,vs,e,h1,h2⟩:=x
 exact ⟨a,vs,e,s _ _ h1,Paired.mapP h2 fun v y=>m _ _ v y s⟩
noncomputable def zqd (c:Cl) (G:Hp) (v:V):Option Sa39.Params→Prop
 | none=>v=.non
 | some ps=>zL (zie c) G v ps
noncomputable abbrev JZ:Sp:=fun vs H Q _=>∃a b,vs=[.ref a]∧zD H a b∧∀H',zC H H'→Q (.bl (znW b)) H'
noncomputable abbrev zet (c:Cl):Sp:=fun vs H Q _=>∃G a b,vs=[.ref a]∧zC G H∧zD G a b∧b.length≤100000∧b.all z7=true∧∀v G' H',zJ G H G' H'→zfJ c G' v (paramOf b)→Q v H'
noncomputable abbrev zdT (c:Cl):Sp:=fun vs H Q _=>∃G a b,vs=[.ref a]∧zC G H∧zD G a b∧b.length≤100000∧b.all z7=true∧∀v G' H',zJ G H G' H'→zqd c G' v (paramsOf b)→Q v H'
include T Fs
theorem zaA:yG P w K mg base 2 "is_parameter_value" ["row"] JZ:=by
 refine Fs.d_is_parameter_value.ok yO zaM (fun vs H Q E h=>?_) (fun f cdv A outer s H vs Q E hr h=>?_)
 ·obtain ⟨a,b,rfl,_⟩:=h;rfl
 ·obtain ⟨a,b,rfl,hb,k⟩:=h
  refine ⟨_,(zc (zE (i:=1) yO.nd rfl (Or.inr rfl) (zq (zQ T Fs) (hr.mono (by decide)) rfl (zl yt zb))) (zg (zm (Yb (ZZ ZG ZG zu (yo (zx (K:=K)) rfl T.b_len PySem.boot_len (zl (pv 0) zb)) (zN T.c_MOST_PARAMETER_SIGNS rfl)) (Zn (yo (zbJ (K:=K) rfl) rfl T.b_all zfG (zl (Q2 rfl yO.nd (zK (K:=K) (pv 0)) (z3 (own:=[("code",2)]) (by exact rfl)) (fun _ _ _ _ _=>zX (i:=2) yO.nd rfl (Or.inl rfl)) (fun _ _ _ _ _=>yK) (fun _ _ _ _ _=>(yj (zcc (K:=K)) (pv 2) (pv 1) rfl))) zb))))))),fun hL=>?_⟩
  refine ⟨_,rfl,by decide +kernel,fun p H1 s1 hp e1=>?_⟩
  walk_at "nm"
  rw [zB,show ascii ";,<>\" "=[59,44,60,62,34,32] by decide +kernel] at e1
  have hb1:=s1 _ _ hb
  refine ⟨_,rfl,a,_,rfl,.inl (SqL.of hb1),_,_,rfl,rfl,_,rfl,zR (fun h1=>⟨_,_,rfl,rfl,_,rfl,zR (fun h2=>?_) (fun h2=>qb ?_ (k H1 s1))⟩) (fun h1=>⟨_,rfl,zkp (qb ?_ (k H1 s1))⟩)⟩
  all_goals rw [zi] at h1
  ·refine zgt (fun x=>!([59,44,60,62,34,32]:List Nat).contains x) hb1 (fun n H2 Q' hn s2 kk=>?_) fun H2 s2=>qb ?_ (k H2 (s1.trans s2))
   ·refine ⟨_,rfl,_,rfl,p,_,rfl,.inl (SqL.of (s2 _ _ e1)),rfl,by decide +kernel,qb ?_ (kk H2 (zC.refl _))⟩
    rw [Bool.eq_iff_iff]
    simp [inV,rv,eqV]
    omega
   ·rw [zi] at h2
    simp at h1 h2
    unfold znW
    rw [decide_eq_true (show 1≤b.length∧b.length≤128 by omega)];rfl
  ·rw [zi] at h2
   simp at h1 h2
   unfold znW
   rw [decide_eq_false (by omega)];rfl
  ·simp at h1
   unfold znW
   rw [decide_eq_false (by omega)];rfl
theorem ze1:yG P w K mg base 4 "parameter_of" ["row"] (zet c):=by
 refine Fs.d_parameter_of.ok ZT zfx (fun vs H Q E h=>?_) (fun f cdv A outer s H vs Q E hr h=>?_)
 ·obtain ⟨G,a,b,rfl,_⟩:=h;rfl
 ·obtain ⟨G,a,b,rfl,sg,hb,hz,hs,k⟩:=h
  refine ⟨_,(zc (zE (i:=1) ZT.nd rfl (Or.inl rfl) (zq (ZL T Fs) (hr.mono (by decide)) rfl (zl (pv 0) (zl (zN T.c_EQUALS rfl) zb)))) (zc (zE (i:=2) ZT.nd rfl (Or.inl rfl) (yX (yI (zw zd0 (pv 1) zu (zz _)) (pv 0) (ya (z9 (K:=K)) (pv 0) yR (yb (pv 1)))))) (zc (zE (i:=3) ZT.nd rfl (Or.inl rfl) (yX (yI (zw zd0 (pv 1) zu (zz _)) (zO zb) (ya (z9 (K:=K)) (pv 0) (yb (zU yY (pv 1) zu)) yR)))) (zc (z4 (Za (PW.pt (Z9 (yT (yi (zq (zgw T Fs) (hr.mono (by decide)) rfl (zl (pv 2) zb)))) (Zm (PW.pt (za2 (zw zpK (pv 1) zu (zz _)) (Q1 (yT (yi (zq (zaA T Fs) (hr.mono (by decide)) rfl (zl (pv 3) zb))))))))))) (zg (zm zY)) zF) (zg (zm (YY (zdc T Fs) (hr.mono (by decide)) rfl (zl (zq (zei T Fs) (hr.mono (by decide)) rfl (zl (pv 2) zb)) (zl (pv 3) zb))))))))),fun hL=>?_⟩
  have hbH:=sg _ _ hb
  refine ⟨_,rfl,a,b,61,rfl,hbH,?_⟩
  walk_at "nm"
  have hpl:yL 61 b=if idx 61 b < b.length then (idx 61 b:Int) else -1:=rfl
  refine ⟨fun v H1=>∃hA G1,v=.ref hA∧zJ G H G1 H1∧zD G1 hA (zf2 b),?_,fun v H1 ⟨nA,G1,hv,g1,hn1⟩=>?_⟩
  ·refine ⟨_,rfl,_,_,rfl,rfl,_,rfl,zR (fun h1=>?_) (fun h1=>?_)⟩
   ·have h2:¬ idx 61 b < b.length:=fun q=>by rw [hpl,if_pos q] at h1;simp at h1;omega
    refine ⟨_,rfl,a,G,rfl,zJ.refl sg,?_⟩
    unfold zf2
    rw [if_neg h2];exact hb
   ·have h2:idx 61 b < b.length:=Decidable.byContradiction fun q=>h1 (by rw [hpl,if_neg q];rfl)
    rw [hpl,if_pos h2]
    refine ⟨_,rfl,_,rfl,_,rfl,a,_,rfl,SqL.of hbH,fun p hp=>?_⟩
    rw [zeV (idx 61 b) rfl]
    refine ⟨p,upd G p _,rfl,zJ.keep sg (zd hp) hp za,?_⟩
    unfold zf2
    rw [if_pos h2];exact za
  ·subst hv
   walk_at "nm"
   refine ⟨fun v H2=>∃hA G2,v=.ref hA∧zJ G1 H1 G2 H2∧zD G2 hA ((zmn b).getD []),?_,fun v H2 ⟨vA,G2,hv,g2,hv2⟩=>?_⟩
   ·refine ⟨_,rfl,_,_,rfl,rfl,_,rfl,zR (fun h1=>?_) (fun h1=>?_)⟩
    ·have h2:¬ idx 61 b < b.length:=fun q=>by rw [hpl,if_pos q] at h1;simp at h1;omega
     refine ⟨Nat.zero_le _,fun p hp=>⟨p,upd G1 p _,rfl,zJ.keep g1.gh (zd hp) hp za,?_⟩⟩
     unfold zmn
     rw [if_neg h2];exact za
    ·have h2:idx 61 b < b.length:=Decidable.byContradiction fun q=>h1 (by rw [hpl,if_neg q];rfl)
     rw [hpl,if_pos h2]
     refine ⟨_,rfl,_,rfl,_,_,rfl,rfl,_,rfl,a,_,rfl,SqL.of (g1.hh _ _ hbH),fun p hp=>?_⟩
     rw [Yx (n:=(idx 61 b:Int) + 1) (idx 61 b + 1) (by omega)]
     refine ⟨p,upd G1 p _,rfl,zJ.keep g1.gh (zd hp) hp za,?_⟩
     unfold zmn
     rw [if_pos h2];exact za
   ·subst hv
    walk_at "nm"
    have g12:=g1.trans g2
    have hn2:=g2.gg _ _ hn1
    refine ⟨fun t H3=>zC H2 H3∧(t=true↔¬ (wordOk (zf2 b)=true∧∀v,zmn b=some v→znW v=true)),?_,fun t H3 ⟨s3,ht⟩=>?_⟩
    ·refine ⟨_,rfl,nA,_,rfl,g12.gh _ _ hn2,fun H3 s3=>⟨_,rfl,zR (fun h1=>⟨s3,?_⟩) (fun h1=>?_)⟩⟩
     ·simp at h1
      simp [h1]
     ·have h1':wordOk (zf2 b)=true:=by simpa using h1
      refine ⟨_,rfl,_,_,rfl,rfl,_,rfl,zR (fun h2=>?_) (fun h2=>⟨s3,?_⟩)⟩
      ·have h3:idx 61 b < b.length:=Decidable.byContradiction fun q=>by rw [hpl,if_neg q] at h2;simp at h2
       refine ⟨_,rfl,vA,_,rfl,s3 _ _ (g12.gh _ _ hv2),fun H4 s4=>⟨_,rfl,s3.trans s4,?_⟩⟩
       unfold zmn
       rw [if_pos h3]
       simp [h1']
      ·have h3:¬ idx 61 b < b.length:=fun q=>h2 (by rw [hpl,if_pos q];simp)
       unfold zmn
       rw [if_neg h3]
       simp [h1']
    ·have g3:=g12.trans (zJ.more g12.gh s3)
     refine zR (fun h1=>?_) (fun h1=>?_)
     ·refine k _ G2 H3 g3 ?_
      rw [zgu hs,if_neg (ht.mp h1)]
      rfl
     ·have hok:wordOk (zf2 b)=true∧∀v,zmn b=some v→znW v=true:=Classical.byContradiction fun q=>h1 (ht.mpr q)
      walk_at "nx"
      refine ⟨_,rfl,nA,_,rfl,g3.gh _ _ hn2,fun lA H4 s4 hlA e4=>⟨_,rfl,fun o dx no ndx ne=>⟨o,dx,_,_,rfl,za,fun H7 q1 q2=>zfb (fun o H7 s7 no he=>?_) no ndx q1 q2⟩⟩⟩
      obtain ⟨dx,he⟩:=he
      have g4:=g3.trans (zJ.keep g3.gh s4 hlA e4)
      refine k _ (upd (upd G2 lA _) o _) H7 (g4.trans (zJ.keep g4.gh s7 no he)) ?_
      have sA:=zd (o:=.lst (rv (low (zf2 b)))) (g3.gh.free hlA)
      have sB:=zd (o:=.ins c.Parameter dx (Yr (.ref lA) (.ref vA))) (g4.gh.free no)
      rw [zgu hs,if_pos hok]
      refine ⟨o,lA,vA,dx,rfl,za,sB _ _ za,sB _ _ (sA _ _ hv2),fun x hx=>?_,?_⟩
      ·have:=hok.2 x hx
       unfold znW at this
       simp only [Bool.and_eq_true,decide_eq_true_eq] at this
       exact yM.mpr this.1.1
      ·show ((zmn b).getD []).length≤100000
       unfold zmn
       split
       ·simp;omega
       ·simp
omit T Fs in
theorem zfJ.opt {c:Cl} {G:Hp}:∀{vs:List V} {os:List (Option (B × Option B))},Paired (zfJ c G) vs os→(∀v ∈ vs,v=.non∨∃a dx fs,v=.ref a∧G a=some (.ins c.Parameter dx fs))∧(V.non ∈ vs↔none ∈ os)
 | _,_,.nil=>by simp
 | v::vs,o::os,.cons r t=>by
  obtain ⟨h1,h2⟩:=zfJ.opt t
  cases o with
  | none=>
   have:v=.non:=r
   subst this
   refine ⟨fun x hx=>?_,by simp⟩
   rcases List.mem_cons.mp hx with rfl | hx
   ·exact .inl rfl
   ·exact h1 x hx
  | some p=>
   obtain ⟨a,nA,vA,dx,e,h3,_⟩:=r
   subst e
   refine ⟨fun x hx=>?_,by simp [h2]⟩
   rcases List.mem_cons.mp hx with rfl | hx
   ·exact .inr ⟨a,dx,_,rfl,h3⟩
   ·exact h1 x hx
omit T Fs in
theorem Paired.unopt {c:Cl} {G:Hp}:∀{vs:List V} {ps:List (B × Option B)},Paired (zfJ c G) vs (ps.map some)→Paired (zie c G) vs ps
 | _,[],.nil=>.nil
 | _,_::_,.cons r t=>.cons r (Paired.unopt t)
omit T Fs in
theorem Jl (k:Nat):∀(b w:B),∀x ∈ splitBy k b w,x.length≤w.length + b.length
 | [],w=>by intro x hx;simp [splitBy] at hx;subst hx;simp
 | c::b,w=>by
  intro x hx
  by_cases h:c=k
  ·subst h
   rw [Yd] at hx
   rcases List.mem_cons.mp hx with rfl | hx
   ·simp
   ·have:=Jl c b [] x hx
    simp at this ⊢;omega
  ·rw [ZP k b w h] at hx
   have:=Jl k b (w++[c]) x hx
   simp at this ⊢;omega
omit T Fs in
theorem ZY {α β:Type} (l:List α) (f:α→β):(List.range l.length).filterMap (fun i=>(l[i]?).map f)=l.map f:=by
 induction l with
 | nil=>rfl
 | cons x r ih=>
  rw [List.length_cons,List.range_succ_eq_map,List.filterMap_cons]
  simp only [List.getElem?_cons_zero,Option.map_some]
  rw [List.filterMap_map,List.map_cons]
  rw [← ih]
  congr 1
theorem JQ:yG P w K mg base 5 "parameters_of" ["row"] (zdT c):=by
 refine Fs.d_parameters_of.ok ZI zd8 (fun vs H Q E h=>?_) (fun f cdv A outer s H vs Q E hr h=>?_)
 ·obtain ⟨G,a,b,rfl,_⟩:=h;rfl
 ·obtain ⟨G,a,b,rfl,sg,hb,hz,hs,k⟩:=h
  refine ⟨_,(zc (zE (i:=1) ZI.nd rfl (Or.inl rfl) (zq (Qs T Fs) (hr.mono (by decide)) rfl (zl (pv 0) (zl (zN T.c_SEMICOLON rfl) zb)))) (zc (z4 (zw (Qr (K:=K) hr.units) (yE (zI (K:=K)) (pv 1) zu (fun _ _=>rfl)) (zO zb) (zz _)) (zg (zm zY)) zF) (zc (Jx (i:=2) (hc:=rfl) (hN:=ZI.nd) (hy:=rfl) (hyl:=rfl) (hsw:=zbc rfl rfl rfl (by decide +kernel)) (zK (K:=K) (yX (ya (z9 (K:=K)) (pv 1) (yb zu) yR))) (z3 (own:=[("part",3)]) (by exact rfl)) (fun _ _ _ _ _=>zX (i:=3) ZI.nd rfl (Or.inl rfl)) (fun _ _ _ _ _=>yK) (fun _ _ _ _ _=>(zq (ze1 T Fs) (hr.mono (by decide)) rfl (zl (pv 3) zb)))) (zc (z4 (zw (zcd (K:=K) (C:=c.Parameter) hr.units) zY (pv 2) rfl) (zg (zm zY)) zF) (zg (zm (pv 2))))))),fun hL=>?_⟩
  have hbH:=sg _ _ hb
  refine ⟨_,rfl,a,b,59,rfl,hbH,hz,fun p ps H1 s1 hp e1 hf hR=>?_⟩
  walk_at "nm"
  obtain ⟨h0,t0,eS⟩:=YA 59 b []
  rw [List.nil_append] at eS
  rw [eS] at hR
  cases hR with
  | @cons q0 _ qs _ r0 rT=>
  refine ⟨_,rfl,p,_,_,_,rfl,rfl,SqL.of e1,yk (j:=0) rfl,Nat.zero_le _,fun q hq=>⟨q0,q,_,_,rfl,rfl,SqL.of ((zd hq) _ _ r0),zgA,_,rfl,zR (fun h1=>?_) (fun h1=>?_)⟩⟩
  ·refine k _ G _ (zJ.more sg (s1.trans (zd hq))) ?_
   rw [zbA,eS,if_neg]
   ·rfl
   ·intro z;simp at h1 z;exact h1 z
  ·have e0:h0=[]:=by simpa using h1
   walk_at "nx"
   refine zfH ?_
   have s2:zC H (upd H1 q (.lst [])):=s1.trans (zd hq)
   have e2:=(zd (o:=.lst []) hq) _ _ e1
   obtain ⟨G3,g3,hG⟩:=zJ.grab sg s1 (q0::qs) hf
   have rT3:Paired (fun q x=>zD G3 q x) qs t0:=by
    have:∀{qs:List Addr} {ls:List B},(∀q ∈ qs,G3 q=H1 q)→Paired (fun q x=>zD H1 q x) qs ls→Paired (fun q x=>zD G3 q x) qs ls:=by
     intro qs ls hq h
     induction h with
     | nil=>exact .nil
     | cons r t ih=>exact .cons ((hq _ List.mem_cons_self).trans r) (ih fun q h=>hq q (List.mem_cons_of_mem _ h))
    exact this (fun q h=>hG q (List.mem_cons_of_mem _ h)) rT
   have hsig:∀x ∈ t0,x.all z7=true∧x.length≤100000:=fun x hx=>⟨zbd 59 b [] hs rfl x (by rw [eS];exact List.mem_cons_of_mem _ hx),Nat.le_trans (Jl 59 b [] x (by rw [eS];exact List.mem_cons_of_mem _ hx)) (by simpa using hz)⟩
   refine Qn (zfJ c) (fun G G' v y s=>zfJ.mono s) (fun v H3=>∃p2,v=.ref p2∧H3 p2=some (.lst (qs.map V.ref))∧zJ G H G3 H3) ?_ ?_
   ·refine ⟨_,rfl,_,rfl,p,_,rfl,SqL.of e2,fun p2 hp2=>⟨p2,rfl,?_,g3.trans (zJ.more g3.gh ((zd hq).trans (zd hp2)))⟩⟩
    rw [za]
    exact congrArg (fun l=>some (HO.lst l)) (zcv (List.map V.ref (q0::qs)) 1)
   ·rintro v H3 ⟨p2,rfl,e3,g3'⟩
    have hl2:=Paired.length rT3
    refine ⟨p2,qs.map V.ref,G3,fun i=>(t0[i]?).map paramOf,rfl,SqL.of e3,g3'.gh,fun i x G4 H4 P hx g4 hP=>?_,fun p4 vs G4 H4 g4 hp4 hG4 e4 hR4=>?_⟩
    ·obtain ⟨qi,hqi,rfl⟩:=zb9 hx
     obtain ⟨l,hl,hrow⟩:=Paired.at_ rT3 hqi
     simp only [hl,Option.map_some] at hP
     have hmem:=List.mem_of_getElem? hl
     refine zdL (B:=P none H4) ⟨_,rfl,G4,qi,l,rfl,g4.gh,g4.gg _ _ hrow,(hsig l hmem).2,(hsig l hmem).1,fun v G5 H5 g5 hv=>hP v G5 H5 g5 hv⟩
    ·rw [List.length_map,hl2,ZY] at hR4
     dsimp only
     have gg:=g3'.trans g4
     obtain ⟨o1,o2⟩:=zfJ.opt hR4
     refine ⟨_,rfl,rfl,p4,vs,rfl,SqL.of e4,fun v hv=>?_,T.e_Parameter,_,rfl,zR (fun h1=>?_) (fun h1=>?_)⟩
     ·rcases o1 v hv with h | ⟨a,dx,fs,h,h'⟩
      ·exact .inl h
      ·exact .inr ⟨a,dx,fs,h,gg.gh _ _ h'⟩
     ·have hn:none ∈ t0.map paramOf:=o2.mp (by simpa using h1)
      refine k _ G4 H4 gg ?_
      rw [zbA,eS,if_pos (by rw [e0];rfl)]
      show zqd c G4 _ (t0.mapM paramOf)
      rw [YJ.mpr hn]
      rfl
     ·have hn:¬ none ∈ t0.map paramOf:=fun q=>h1 (by simpa using o2.mpr q)
      walk_at "nx"
      refine ⟨_,rfl,?_⟩
      cases em:t0.mapM paramOf with
      | none=>exact absurd (YJ.mp em) hn
      | some m=>
       have em':=Zh.mp em
       rw [em'] at hR4
       have g4':zJ G3 H3 (upd G4 p4 (.lst vs)) H4:=by
        refine ⟨g4.gg.trans (zd hG4),g4.hh,fun b o e=>?_,fun b h1 h2=>?_⟩
        ·by_cases hb:b=p4
         ·subst hb;rw [za] at e;cases e;exact e4
         ·rw [zv hb] at e;exact g4.gh b o e
        ·by_cases hb:b=p4
         ·subst hb;exact absurd hp4 h2
         ·rw [zv hb];exact g4.sep b h1 h2
       refine k _ (upd G4 p4 (.lst vs)) H4 (g3'.trans g4') ?_
       rw [zbA,eS,if_pos (by rw [e0];rfl)]
       show zqd c _ _ (t0.mapM paramOf)
       rw [em]
       exact ⟨p4,vs,rfl,za,Paired.mapP (Paired.unopt hR4) fun v y=>zie.mono (zd hG4)⟩
end
section
variable {P:Program} {w:World} {K:PySem.W.Frag} {mg:Str→Option Value} {base:Heap} {c:Cl} {le ln:Addr} (T:Txt K mg c le ln) (Fs:YM K mg c)
noncomputable def zoY (G:Hp) (v:V) (b:B):Prop:=∃a,v=.ref a∧zD G a b∧b.length≤100000
theorem zoY.mono {G G':Hp} {v:V} {b:B} (s:zC G G') (x:zoY G v b):zoY G' v b:=let ⟨a,e,h,l⟩:=x;⟨a,e,s _ _ h,l⟩
theorem Y7 {α β:Type} (l:List α) (f:α→Option β):(List.range l.length).filterMap (fun i=>(l[i]?).bind f)=l.filterMap f:=by
 induction l with
 | nil=>rfl
 | cons x r ih=>
  rw [List.length_cons,List.range_succ_eq_map,List.filterMap_cons,List.filterMap_cons]
  simp only [List.getElem?_cons_zero,Option.bind_some]
  have e:(List.map Nat.succ (List.range r.length)).filterMap (fun i=>((x::r)[i]?).bind f)=r.filterMap f:=by
   rw [List.filterMap_map,← ih]
   congr 1
  rw [e]
theorem zov (ps:Sa39.Params) (n:B):ps.filterMap (fun p=>if p.1=n then some (zim p) else none)=Q3 ps n:=by
 unfold Q3
 induction ps with
 | nil=>rfl
 | cons p r ih=>
  rw [List.filterMap_cons,List.filter_cons]
  by_cases h:p.1=n
  ·rw [if_pos h,if_pos (by simpa using h),List.map_cons,ih]
  ·rw [if_neg h,if_neg (by simpa using h),ih]
noncomputable abbrev zeq (c:Cl):Sp:=fun vs H Q _=>∃G v ps x,vs=[v,.str x]∧zC G H∧zL (zie c) G v ps∧x.cps.size≤1000∧∀v' G' H',zJ G H G' H'→zL zoY G' v' (Q3 ps (tl x))→Q v' H'
noncomputable def zid (c:Cl) (G:Hp) (v:V) (x:Via):Prop:=∃a ev pv bA dx hb,v=.ref a∧G a=some (.ins c.Via dx (zku ev pv (.ref bA)))∧zqo c G ev x.host x.port hb∧zL (zie c) G pv x.params∧zD G bA x.branch∧(1≤x.port∧x.port≤65535)∧x.branch.length≤100000
theorem zid.mono {c:Cl} {G G':Hp} {v:V} {x:Via} (s:zC G G') (h:zid c G v x):zid c G' v x:=by
 obtain ⟨a,ev,pv,bA,dx,hb,e,h1,h2,h3,h4,h5⟩:=h
 exact ⟨a,ev,pv,bA,dx,hb,e,s _ _ h1,h2.mono s,zL.mono (R:=zie c) (fun _ _ _ _=>zie.mono) s h3,s _ _ h4,h5⟩
noncomputable def Ji (c:Cl) (G:Hp) (v:V):Option Via→Prop
 | none=>v=.non
 | some p=>zid c G v p
noncomputable abbrev zmA (c:Cl):Sp:=fun vs H Q _=>∃G a b,vs=[.ref a]∧zC G H∧zD G a b∧b.length≤100000∧b.all z7=true∧∀v G' H',zJ G H G' H'→Ji c G' v (viaOf b)→Q v H'
include T Fs
theorem Z1:yG P w K mg base 2 "values_named" ["parameters","name"] (zeq c):=by
 refine Fs.d_values_named.ok Qa zfu (fun vs H Q E h=>?_) (fun f cdv A outer s H vs Q E hr h=>?_)
 ·obtain ⟨G,v,ps,x,rfl,_⟩:=h;rfl
 ·obtain ⟨G,v,ps,x,rfl,sg,⟨pA,vs,rfl,hp,hR⟩,hx,k⟩:=h
  refine ⟨_,(zg (zm (Q2 rfl Qa.nd (zK (K:=K) (yX (pv 0))) (z3 (own:=[("parameter",2)]) (by exact rfl)) (fun _ _ _ _ _=>zX (i:=2) Qa.nd rfl (Or.inl rfl)) (fun _ _ _ _ _=>(zc3 (zw (yd (K:=K) hr.units) (zj (K:=K) (pv 2) rfl) (zq (zQ T Fs) (hr.mono (by decide)) rfl (zl (pv 1) zb)) (zz _)))) (fun _ _ _ _ _=>(zj (K:=K) (pv 2) rfl))))),fun hL=>?_⟩
  refine zf1 ?_
  refine Qn zoY (fun _ _ _ _=>zoY.mono) (fun v H1=>v=.ref pA∧H1=H) ⟨_,rfl,rfl,rfl⟩ ?_
  rintro v H1 ⟨rfl,rfl⟩
  have hl:=Paired.length hR
  refine ⟨pA,vs,G,fun i=>(ps[i]?).bind fun p=>if p.1=tl x then some (zim p) else none,rfl,SqL.of (sg _ _ hp),sg,fun i y G2 H2 P hy g2 hP=>?_,fun p4 us G4 H4 g4 hp4 hG4 e4 hR4=>?_⟩
  ·obtain ⟨p,hpi,a,nA,vA,dx,rfl,h1,h2,h3,h4,h5⟩:=Paired.at_ hR hy
   simp only [hpi,Option.bind_some] at hP
   have h1':=g2.s _ _ h1
   have h2':=g2.s _ _ h2
   have h3':=g2.gg _ _ h3
   refine ⟨_,rfl,a,_,dx,_,_,rfl,h1',T.k_Parameter,T.n_Parameter_name,zd5 _ _,_,rfl,x,rfl,hx,fun q H3 s3 hq e3=>⟨nA,q,_,_,rfl,rfl,SqL.of (s3 _ _ h2'),SqL.of e3,_,rfl,zR (fun h6=>?_) (fun h6=>?_)⟩⟩
   ·rw [if_pos (by simpa using h6)] at hP
    refine ⟨_,rfl,a,_,dx,_,_,rfl,s3 _ _ h1',T.k_Parameter,T.n_Parameter_value,zdk _ _,?_⟩
    exact hP _ G2 H3 (zJ.more g2.gh s3) ⟨vA,rfl,h3',h5⟩
   ·rw [if_neg (by simpa using h6)] at hP
    exact hP G2 H3 (zJ.more g2.gh s3)
  ·rw [hl,Y7,zov] at hR4
   refine k _ (upd G4 p4 (.lst us)) H4 (g4.pub hp4 hG4 e4) ⟨p4,us,rfl,za,Paired.mapP hR4 fun v y=>zoY.mono (zd hG4)⟩
theorem zm5:yG P w K mg base 8 "via_of" ["row"] (zmA c):=by
 refine Fs.d_via_of.ok Q8 znK (fun vs H Q E h=>?_) (fun f cdv A outer s H vs Q E hr h=>?_)
 ·obtain ⟨G,a,b,rfl,_⟩:=h;rfl
 ·obtain ⟨G,a,b,rfl,sg,hb,hz,hs,k⟩:=h
  refine ⟨_,(zc (z4 (yT (yi (zq (zco T Fs) (hr.mono (by decide)) rfl (zl (pv 0) (zl (zN T.c_VIA_START rfl) zb))))) (zg (zm zY)) zF) (zc (zE (i:=1) Q8.nd rfl (Or.inl rfl) (ya (z9 (K:=K)) (pv 0) (yb (yo QM rfl T.b_len PySem.boot_len (zl (zN T.c_VIA_START rfl) zb))) yR)) (zc (zE (i:=2) Q8.nd rfl (Or.inl rfl) (zq (ZL T Fs) (hr.mono (by decide)) rfl (zl (pv 1) (zl (zN T.c_SEMICOLON rfl) zb)))) (zc (z4 (zw zd0 (pv 2) zu (zz _)) (zg (zm zY)) zF) (zc (zE (i:=3) Q8.nd rfl (Or.inl rfl) (zq (za4 T Fs) (hr.mono (by decide)) rfl (zl (ya (z9 (K:=K)) (pv 1) yR (yb (pv 2))) zb))) (zc (zE (i:=4) Q8.nd rfl (Or.inl rfl) (zq (JQ T Fs) (hr.mono (by decide)) rfl (zl (ya (z9 (K:=K)) (pv 1) (yb (pv 2)) yR) zb))) (zc (z4 (Za (PW.pt (Z9 (zw YG (pv 3) zY (zz _)) (Zm (zw YG (pv 4) zY (zz _)))))) (zg (zm zY)) zF) (zc (zE (i:=5) Q8.nd rfl (Or.inl rfl) (zq (Z1 T Fs) (hr.mono (by decide)) rfl (zl (pv 4) (zl yt zb)))) (zc (z4 (Za (PW.pt (Z9 (zw ziW (yo (zx (K:=K)) rfl T.b_len PySem.boot_len (zl (pv 5) zb)) zu (zz _)) (Zm (yT (yi (zq (zco T Fs) (hr.mono (by decide)) rfl (zl (yE (zI (K:=K)) (pv 5) zu (fun _ _=>rfl)) (zl (zN T.c_BRANCH_START rfl) zb))))))))) (zg (zm zY)) zF) (zg (zm (YY (zki T Fs) (hr.mono (by decide)) rfl (zl (pv 3) (zl (pv 4) (zl (yE (zI (K:=K)) (pv 5) zu (fun _ _=>rfl)) zb))))))))))))))),fun hL=>?_⟩
  have hbH:=sg _ _ hb
  refine ⟨_,rfl,a,b,"SIP/2.0/UDP ",rfl,hbH,(by decide +kernel),fun H1 s1=>⟨_,rfl,zR (fun h1=>?_) (fun h1=>?_)⟩⟩
  ·refine k _ G H1 (zJ.more sg s1) ?_
   rw [zgH,if_neg]
   ·rfl
   ·intro q
    rw [zB,q.1] at h1
    cases h1
  ·have hpre:(ascii "SIP/2.0/UDP ").isPrefixOf b=true:=by rw [zB] at h1;simpa using h1
   have g1:=zJ.more sg s1
   walk_at "nx"
   refine ⟨_,rfl,"SIP/2.0/UDP ",rfl,(by decide +kernel),_,rfl,a,_,rfl,SqL.of (s1 _ _ hbH),fun p hp=>?_⟩
   rw [Yx (n:=((Str.ofString "SIP/2.0/UDP ").length:Int)) 12 (by decide +kernel)]
   walk_at "nm"
   generalize hr:b.drop 12=r
   have hzr:r.length≤100000:=by rw [← hr,List.length_drop];omega
   have hsr:r.all z7=true:=by rw [← hr];exact zcE hs 12
   have g2:zJ G H (upd G p (.lst (rv r))) (upd H1 p (.lst (rv r))):=g1.trans (zJ.keep g1.gh (zd hp) hp za)
   have hrowG:zD (upd G p (.lst (rv r))) p r:=za
   generalize upd H1 p (.lst (rv r))=H2 at g2
   generalize upd G p (.lst (rv r))=G2 at g2 hrowG
   have hrow:=g2.gh _ _ hrowG
   refine ⟨_,rfl,p,r,59,rfl,hrow,?_⟩
   walk_at "nm"
   refine ⟨_,rfl,_,_,rfl,rfl,_,rfl,zR (fun h2=>?_) (fun h2=>?_)⟩
   ·have h3:¬ idx 59 r < r.length:=fun q=>by unfold yL at h2;rw [if_pos q] at h2;simp at h2;omega
    refine k _ G2 H2 g2 ?_
    rw [zgH,hr,if_neg (fun q=>h3 q.2)]
    rfl
   ·have h3:idx 59 r < r.length:=Decidable.byContradiction fun q=>h2 (by unfold yL;rw [if_neg q];rfl)
    have ep:yL 59 r=(idx 59 r:Int):=by unfold yL;rw [if_pos h3]
    rw [ep]
    walk_at "nx"
    refine ⟨_,rfl,_,rfl,_,rfl,p,_,rfl,SqL.of hrow,fun q hq=>?_⟩
    rw [zeV (idx 59 r) rfl]
    have g3:=g2.trans (zJ.keep g2.gh (zd (o:=.lst (rv (r.take (idx 59 r)))) hq) hq za)
    refine ⟨_,q,r.take (idx 59 r),rfl,g3.gh,za,(by rw [List.length_take];omega),fun ev G4 H4 g4 hev=>?_⟩
    walk_at "nm"
    have g34:=g3.trans g4
    have hrow4:zD G4 p r:=g4.gg _ _ ((zd (g2.gh.free hq)) _ _ hrowG)
    refine ⟨_,rfl,_,rfl,_,rfl,p,_,rfl,SqL.of (g34.gh _ _ hrow4),fun q2 hq2=>?_⟩
    rw [Yx (idx 59 r) rfl]
    have g5:=g34.trans (zJ.keep g34.gh (zd (o:=.lst (rv (r.drop (idx 59 r)))) hq2) hq2 za)
    have s45:=zd (o:=.lst (rv (r.drop (idx 59 r)))) (g34.gh.free hq2)
    refine ⟨_,q2,r.drop (idx 59 r),rfl,g5.gh,za,(by rw [List.length_drop];omega),zcE hsr _,fun pv G6 H6 g6 hpv=>?_⟩
    walk_at "nm"
    have g56:=g5.trans g6
    have s46:=s45.trans g6.gg
    have hVia:viaOf b=(sentBy (r.take (idx 59 r))).bind fun h=>(paramsOf (r.drop (idx 59 r))).bind fun p=>
      if (Q3 p (ascii "branch")).length=1∧(ascii "z9hG4bK").isPrefixOf ((Q3 p (ascii "branch")).headD [])=true then some ⟨h.1,h.2,p,(Q3 p (ascii "branch")).headD []⟩ else none:=by
     rw [zgH,hr,if_pos ⟨hpre,h3⟩]
    have nE:ev=.non↔sentBy (r.take (idx 59 r))=none:=by
     cases e:sentBy (r.take (idx 59 r)) with
     | none=>rw [e] at hev;exact ⟨fun _=>rfl,fun _=>hev⟩
     | some x=>
      rw [e] at hev
      obtain ⟨_,_,o,_,_,eo,_⟩:=hev
      rw [eo];exact ⟨fun q=>(by cases q),fun q=>(by cases q)⟩
    have nP:pv=.non↔paramsOf (r.drop (idx 59 r))=none:=by
     cases e:paramsOf (r.drop (idx 59 r)) with
     | none=>rw [e] at hpv;exact ⟨fun _=>rfl,fun _=>hpv⟩
     | some x=>
      rw [e] at hpv
      obtain ⟨o,_,eo,_⟩:=hpv
      rw [eo];exact ⟨fun q=>(by cases q),fun q=>(by cases q)⟩
    refine ⟨fun t H7=>H7=H6∧(t=true↔(ev=.non∨pv=.non)),?_,fun t H7 ⟨e7,ht⟩=>?_⟩
    ·refine ⟨_,rfl,rfl,_,rfl,zR (fun h4=>⟨rfl,?_⟩) (fun h4=>⟨_,rfl,rfl,_,rfl,rfl,?_⟩)⟩
     ·simp at h4;simp [h4]
     ·simp at h4;simp [h4]
    ·subst e7
     refine zR (fun h4=>?_) (fun h4=>?_)
     ·refine k _ G6 H7 g56 ?_
      rw [hVia]
      rcases ht.mp h4 with q | q
      ·rw [nE.mp q];rfl
      ·rw [nP.mp q]
       cases sentBy (r.take (idx 59 r)) <;> rfl
     ·have h5:¬ (ev=.non∨pv=.non):=fun q=>h4 (ht.mpr q)
      walk_at "nx"
      cases eE:sentBy (r.take (idx 59 r)) with
      | none=>exact absurd (.inl (nE.mpr eE)) h5
      | some x=>
      cases eP:paramsOf (r.drop (idx 59 r)) with
      | none=>exact absurd (.inr (nP.mpr eP)) h5
      | some ps=>
      rw [eE] at hev hVia
      rw [eP] at hpv hVia
      obtain ⟨hpt,hb2,hep⟩:=hev
      simp only [Option.bind_some] at hVia
      refine ⟨_,rfl,G6,pv,ps,"branch",rfl,g56.gh,hpv,(by decide +kernel),fun bv G8 H8 g8 hbv=>?_⟩
      rw [zB] at hbv
      walk_at "nm"
      have g68:=g56.trans g8
      obtain ⟨bL,us,rfl,hbL,hbR⟩:=hbv
      have hlen:=Paired.length hbR
      generalize hN:Q3 ps (ascii "branch")=nm at hVia hbR hlen
      refine ⟨fun t H9=>zC H8 H9∧(t=true↔¬ (nm.length=1∧(ascii "z9hG4bK").isPrefixOf (nm.headD [])=true)),?_,fun t H9 ⟨s9,ht9⟩=>?_⟩
      ·refine ⟨_,rfl,bL,_,rfl,.inl (SqL.of (g68.gh _ _ hbL)),rfl,_,rfl,zR (fun h6=>⟨zC.refl _,?_⟩) (fun h6=>?_)⟩
       ·have:¬ nm.length=1:=by simp at h6;omega
        simp [this]
       ·have h7:nm.length=1:=by simp at h6;omega
        obtain ⟨u0,n0,rfl,rfl,bA,eb,hb0,_⟩:=zsv hbR h7
        subst eb
        refine ⟨_,rfl,bL,_,_,_,rfl,rfl,SqL.of (g68.gh _ _ hbL),yk (j:=0) rfl,bA,n0,"z9hG4bK",rfl,g68.gh _ _ hb0,(by decide +kernel),fun H9 s9=>⟨_,rfl,s9,?_⟩⟩
        rw [zB]
        show ((!(ascii "z9hG4bK").isPrefixOf n0)=true↔¬ ([n0].length=1∧(ascii "z9hG4bK").isPrefixOf n0=true))
        generalize (ascii "z9hG4bK").isPrefixOf n0=z
        cases z <;> simp
      ·have g9:=g68.trans (zJ.more g68.gh s9)
       refine zR (fun h6=>?_) (fun h6=>?_)
       ·refine k _ G8 H9 g9 ?_
        rw [hVia,if_neg (ht9.mp h6)]
        rfl
       ·have h7:nm.length=1∧(ascii "z9hG4bK").isPrefixOf (nm.headD [])=true:=Classical.byContradiction fun q=>h6 (ht9.mpr q)
        walk_at "nx"
        rw [if_pos h7] at hVia
        obtain ⟨u0,n0,rfl,rfl,bA,eb,hb0,hbz⟩:=zsv hbR h7.1
        subst eb
        refine ⟨_,rfl,_,rfl,_,rfl,bL,_,_,_,rfl,rfl,SqL.of (g9.gh _ _ hbL),yk (j:=0) rfl,fun o dx no ndx ne=>⟨o,dx,_,_,_,rfl,za,fun H10 q1 q2=>zfb (fun o H10 s10 no he=>?_) no ndx q1 q2⟩⟩
        obtain ⟨dx,he⟩:=he
        refine k _ (upd G8 o _) H10 (g9.trans (zJ.keep g9.gh s10 no he)) ?_
        have sA:=zd (o:=.ins c.Via dx (zku ev pv (.ref bA))) (g9.gh.free no)
        rw [hVia]
        exact ⟨o,ev,pv,bA,dx,hb2,rfl,za,(hep.mono (s46.trans g8.gg)).mono sA,zL.mono (R:=zie c) (fun _ _ _ _=>zie.mono) (g8.gg.trans sA) hpv,sA _ _ hb0,hpt,hbz⟩
end
section
variable {P:Program} {w:World} {K:PySem.W.Frag} {mg:Str→Option Value} {base:Heap} {c:Cl} {le ln:Addr} (T:Txt K mg c le ln) (Fs:YM K mg c)
noncomputable def zmo (c:Cl) (G:Hp) (v:V) (n:Named):Prop:=∃a tv pv dx txt,v=.ref a∧G a=some (.ins c.Party dx (zbI tv pv))∧znX c G tv n.target txt∧zL (zie c) G pv n.params
theorem zmo.mono {c:Cl} {G G':Hp} {v:V} {x:Named} (s:zC G G') (h:zmo c G v x):zmo c G' v x:=by
 obtain ⟨a,tv,pv,dx,txt,e,h1,h2,h3⟩:=h
 exact ⟨a,tv,pv,dx,txt,e,s _ _ h1,h2.mono s,zL.mono (R:=zie c) (fun _ _ _ _=>zie.mono) s h3⟩
noncomputable def zgn (c:Cl) (G:Hp) (v:V):Option Named→Prop
 | none=>v=.non
 | some p=>zmo c G v p
noncomputable def znS (c:Cl) (G:Hp) (v:V):Contact→Prop
 | .all=>∃a pv dx,v=.ref a∧G a=some (.ins c.Party dx (zbI .non pv))
 | .at_ n=>zmo c G v n
theorem znS.mono {c:Cl} {G G':Hp} {v:V} {x:Contact} (s:zC G G') (h:znS c G v x):znS c G' v x:=by
 cases x with
 | all=>obtain ⟨a,pv,dx,e,h1⟩:=h;exact ⟨a,pv,dx,e,s _ _ h1⟩
 | at_ n=>exact zmo.mono s h
noncomputable def zdz (c:Cl) (G:Hp) (v:V):Option Contact→Prop
 | none=>v=.non
 | some p=>znS c G v p
noncomputable abbrev zjY (c:Cl):Sp:=fun vs H Q _=>∃G a b,vs=[.ref a]∧zC G H∧zD G a b∧b.length≤100000∧b.all z7=true∧∀v G' H',zJ G H G' H'→zgn c G' v (namedOf b)→Q v H'
noncomputable abbrev zgW (c:Cl):Sp:=fun vs H Q _=>∃G a b,vs=[.ref a]∧zC G H∧zD G a b∧b.length≤100000∧b.all z7=true∧∀v G' H',zJ G H G' H'→zdz c G' v (contactOf b)→Q v H'
theorem zeX {k:Nat} {b:B}:yL k b < 0↔¬ idx k b < b.length:=by
 unfold yL
 by_cases h:idx k b < b.length
 ·rw [if_pos h];omega
 ·rw [if_neg h];simp [h]
theorem Qp {k:Nat} {b:B} (h:idx k b < b.length):yL k b=(idx k b:Int):=by unfold yL;rw [if_pos h]
theorem zrc {b:B} (h:idx 60 b < b.length) (h2:idx 62 b < b.length):idx 60 b≠idx 62 b:=by
 intro q
 have e1:=Jd.mp h
 have e2:=Jd.mp h2
 rw [← q,e1] at e2
 simp at e2
include T Fs
theorem zbD:yG P w K mg base 9 "party_of" ["row"] (zjY c):=by
 refine Fs.d_party_of.ok Qe zkA (fun vs H Q E h=>?_) (fun f cdv A outer s H vs Q E hr h=>?_)
 ·obtain ⟨G,a,b,rfl,_⟩:=h;rfl
 ·obtain ⟨G,a,b,rfl,sg,hb,hz,hs,k⟩:=h
  refine ⟨_,(zc (zE (i:=1) Qe.nd rfl (Or.inl rfl) (zq (ZL T Fs) (hr.mono (by decide)) rfl (zl (pv 0) (zl (zN T.c_LESS rfl) zb)))) (zc (zE (i:=2) Qe.nd rfl (Or.inl rfl) (zq (ZL T Fs) (hr.mono (by decide)) rfl (zl (pv 0) (zl (zN T.c_GREATER rfl) zb)))) (zc (z4 (Za (PW.pt (Z9 (zw zd0 (pv 1) zu (zz _)) (Z9 (zw zd0 (pv 2) (pv 1) (zz _)) (Zm (PW.pt (za2 (zw zhs (pv 1) zu (zz _)) (Q1 (zw ziW (yE (zI (K:=K)) (pv 0) (zU zdD (pv 1) zu) (fun _ _=>rfl)) (zN T.c_BLANK rfl) (zz _)))))))))) (zg (zm zY)) zF) (zc (zE (i:=3) Qe.nd rfl (Or.inl rfl) (zq (zdE T Fs) (hr.mono (by decide)) rfl (zl (ya (z9 (K:=K)) (pv 0) (yb (zU yY (pv 1) zu)) (yb (pv 2))) zb))) (zc (zE (i:=4) Qe.nd rfl (Or.inl rfl) (zq (JQ T Fs) (hr.mono (by decide)) rfl (zl (ya (z9 (K:=K)) (pv 0) (yb (zU yY (pv 2) zu)) yR) zb))) (zc (z4 (Za (PW.pt (Z9 (zw YG (pv 3) zY (zz _)) (Zm (zw YG (pv 4) zY (zz _)))))) (zg (zm zY)) zF) (zg (zm (YY (zcp T Fs) (hr.mono (by decide)) rfl (zl (pv 3) (zl (pv 4) zb))))))))))),fun hL=>?_⟩
  have hbH:=sg _ _ hb
  refine ⟨_,rfl,a,b,60,rfl,hbH,?_⟩
  walk_at "nm"
  refine ⟨_,rfl,a,b,62,rfl,hbH,?_⟩
  walk_at "nm"
  have n60:=@zeX 60 b
  have n62:=@zeX 62 b
  refine ⟨fun t H1=>H1=H∧(t=true↔¬ zc4 b),?_,fun t H1 ⟨e1,ht⟩=>?_⟩
  ·refine ⟨_,rfl,_,_,rfl,rfl,_,rfl,zR (fun h1=>⟨rfl,?_⟩) (fun h1=>?_)⟩
   ·have h1':¬ idx 60 b < b.length:=n60.mp (by simpa using h1)
    simp [zc4,h1']
   ·have h1':idx 60 b < b.length:=Decidable.byContradiction fun q=>h1 (by simpa using n60.mpr q)
    have e60:=Qp h1'
    rw [e60]
    refine ⟨_,rfl,_,rfl,_,_,rfl,rfl,_,rfl,zR (fun h2=>⟨rfl,?_⟩) (fun h2=>?_)⟩
    ·simp at h2
     refine ⟨fun _ q=>?_,fun _=>rfl⟩
     rw [Qp q.2.2.1] at h2
     have:=q.2.1
     omega
    ·simp at h2
     have h3:idx 62 b < b.length:=Decidable.byContradiction fun q=>by
      have:=n62.mpr q
      omega
     have e62:=Qp h3
     rw [e62] at h2
     have hlt:idx 60 b < idx 62 b:=by
      have:=zrc h1' h3
      omega
     refine ⟨_,rfl,_,_,rfl,rfl,_,rfl,zR (fun h4=>?_) (fun h4=>⟨rfl,?_⟩)⟩
     ·simp at h4
      have hi:idx 60 b - 1 < b.length:=by omega
      refine ⟨_,rfl,_,rfl,_,_,rfl,rfl,a,_,_,_,rfl,rfl,SqL.of hbH,zdC (j:=idx 60 b - 1) (n:=b[idx 60 b - 1]) (by omega) (List.getElem?_eq_getElem hi),rfl,_,rfl,rfl,?_⟩
      have h5:¬ idx 60 b=0:=by omega
      unfold zc4
      rw [List.getElem?_eq_getElem hi]
      simp [h1',h3,hlt,h5]
      omega
     ·simp at h4
      have h5:idx 60 b=0:=by omega
      simp [zc4,h1',h3,hlt,h5]
      omega
  ·subst e1
   refine zR (fun h1=>?_) (fun h1=>?_)
   ·refine k _ G H1 (zJ.refl sg) ?_
    rw [zgB,if_neg (ht.mp h1)]
    rfl
   ·have hok:zc4 b:=Classical.byContradiction fun q=>h1 (ht.mpr q)
    obtain ⟨i60,hlt,i62,_⟩:=id hok
    rw [Qp i60,Qp i62]
    walk_at "nx"
    have hN:namedOf b=(targetOf ((b.drop (idx 60 b + 1)).take (idx 62 b - (idx 60 b + 1)))).bind fun t=>(paramsOf (b.drop (idx 62 b + 1))).map fun p=>⟨t,p⟩:=by rw [zgB,if_pos hok]
    refine ⟨_,rfl,_,rfl,_,_,rfl,rfl,_,rfl,_,rfl,_,rfl,a,_,rfl,SqL.of hbH,fun q hq=>?_⟩
    rw [zb8 (i:=(idx 60 b:Int) + 1) (j:=(idx 62 b:Int)) (idx 60 b + 1) (idx 62 b) (by omega) rfl]
    generalize hTB:(b.drop (idx 60 b + 1)).take (idx 62 b - (idx 60 b + 1))=tb at hN
    have htb:tb.length≤100000:=by rw [← hTB,List.length_take,List.length_drop];omega
    have g3:=(zJ.refl sg).trans (zJ.keep sg (zd (o:=.lst (rv tb)) hq) hq za)
    refine ⟨_,q,tb,rfl,g3.gh,za,htb,fun tv G4 H4 g4 htv=>?_⟩
    walk_at "nm"
    have g34:=g3.trans g4
    have hb4:=g34.s _ _ hb
    refine ⟨_,rfl,_,rfl,_,_,rfl,rfl,_,rfl,a,_,rfl,SqL.of hb4,fun q2 hq2=>?_⟩
    rw [Yx (n:=(idx 62 b:Int) + 1) (idx 62 b + 1) (by omega)]
    have g5:=g34.trans (zJ.keep g34.gh (zd (o:=.lst (rv (b.drop (idx 62 b + 1)))) hq2) hq2 za)
    have s45:=zd (o:=.lst (rv (b.drop (idx 62 b + 1)))) (g34.gh.free hq2)
    refine ⟨_,q2,b.drop (idx 62 b + 1),rfl,g5.gh,za,(by rw [List.length_drop];omega),zcE hs _,fun pv G6 H6 g6 hpv=>?_⟩
    walk_at "nm"
    have g56:=g5.trans g6
    have s46:=s45.trans g6.gg
    have nT:tv=.non↔targetOf tb=none:=by
     cases e:targetOf tb with
     | none=>rw [e] at htv;exact ⟨fun _=>rfl,fun _=>htv⟩
     | some x=>
      rw [e] at htv
      obtain ⟨o,_,_,_,_,_,eo,_⟩:=htv
      rw [eo];exact ⟨fun q=>(by cases q),fun q=>(by cases q)⟩
    have nP:pv=.non↔paramsOf (b.drop (idx 62 b + 1))=none:=by
     cases e:paramsOf (b.drop (idx 62 b + 1)) with
     | none=>rw [e] at hpv;exact ⟨fun _=>rfl,fun _=>hpv⟩
     | some x=>
      rw [e] at hpv
      obtain ⟨o,_,eo,_⟩:=hpv
      rw [eo];exact ⟨fun q=>(by cases q),fun q=>(by cases q)⟩
    refine ⟨fun t H7=>H7=H6∧(t=true↔(tv=.non∨pv=.non)),?_,fun t H7 ⟨e7,ht⟩=>?_⟩
    ·refine ⟨_,rfl,rfl,_,rfl,zR (fun h4=>⟨rfl,?_⟩) (fun h4=>⟨_,rfl,rfl,_,rfl,rfl,?_⟩)⟩
     ·simp at h4;simp [h4]
     ·simp at h4;simp [h4]
    ·subst e7
     refine zR (fun h4=>?_) (fun h4=>?_)
     ·refine k _ G6 H7 g56 ?_
      rw [hN]
      rcases ht.mp h4 with q | q
      ·rw [nT.mp q];rfl
      ·rw [nP.mp q]
       cases targetOf tb <;> rfl
     ·have h5:¬ (tv=.non∨pv=.non):=fun q=>h4 (ht.mpr q)
      walk_at "nx"
      cases eT:targetOf tb with
      | none=>exact absurd (.inl (nT.mpr eT)) h5
      | some x=>
      cases eP:paramsOf (b.drop (idx 62 b + 1)) with
      | none=>exact absurd (.inr (nP.mpr eP)) h5
      | some ps=>
      rw [eT] at htv hN
      rw [eP] at hpv hN
      refine ⟨_,rfl,_,rfl,fun o dx no ndx ne=>⟨o,dx,_,_,rfl,za,fun H10 q1 q2=>zfb (fun o H10 s10 no he=>?_) no ndx q1 q2⟩⟩
      obtain ⟨dx,he⟩:=he
      refine k _ (upd G6 o _) H10 (g56.trans (zJ.keep g56.gh s10 no he)) ?_
      have sA:=zd (o:=.ins c.Party dx (zbI tv pv)) (g56.gh.free no)
      rw [hN]
      exact ⟨o,tv,pv,dx,tb,rfl,za,(znX.mono s46 htv).mono sA,zL.mono (R:=zie c) (fun _ _ _ _=>zie.mono) sA hpv⟩
theorem zhx:yG P w K mg base 10 "contact_of" ["row"] (zgW c):=by
 refine Fs.d_contact_of.ok zhc zhZ (fun vs H Q E h=>?_) (fun f cdv A outer s H vs Q E hr h=>?_)
 ·obtain ⟨G,a,b,rfl,_⟩:=h;rfl
 ·obtain ⟨G,a,b,rfl,sg,hb,hz,hs,k⟩:=h
  refine ⟨_,(zc (z4 (zw (yd (K:=K) hr.units) (pv 0) (zq (zQ T Fs) (hr.mono (by decide)) rfl (zl (zN T.c_STAR rfl) zb)) (zz _)) (zg (zm (YY (zcp T Fs) (hr.mono (by decide)) rfl (zl zY (zl (zO zb) zb))))) zF) (zg (zm (zq (zbD T Fs) (hr.mono (by decide)) rfl (zl (pv 0) zb))))),fun hL=>?_⟩
  have hbH:=sg _ _ hb
  refine ⟨_,rfl,"*",rfl,(by decide +kernel),fun p H1 s1 hp e1=>⟨a,p,_,_,rfl,rfl,SqL.of (s1 _ _ hbH),SqL.of e1,_,rfl,zR (fun h1=>?_) (fun h1=>?_)⟩⟩
  ·have hb42:b=[42]:=by rw [zB] at h1;simpa [ascii] using h1
   refine ⟨Nat.zero_le _,fun q hq=>fun o dx no ndx ne=>⟨o,dx,_,_,rfl,za,fun H10 q1 q2=>zfb (fun o H10 s10 no he=>?_) no ndx q1 q2⟩⟩
   obtain ⟨dx,he⟩:=he
   have g1:=zJ.more sg (s1.trans (zd (o:=.lst []) hq))
   refine k _ (upd G o _) H10 (g1.trans (zJ.keep g1.gh s10 no he)) ?_
   unfold contactOf
   rw [if_pos hb42]
   exact ⟨o,_,dx,rfl,za⟩
  ·have hb42:¬ b=[42]:=by rw [zB] at h1;simpa [ascii] using h1
   walk_at "nx"
   have g1:=zJ.more sg s1
   refine ⟨_,rfl,G,a,b,rfl,g1.gh,hb,hz,hs,fun v G2 H2 g2 hv=>k v G2 H2 (g1.trans g2) ?_⟩
   unfold contactOf
   rw [if_neg hb42]
   cases e:namedOf b with
   | none=>rw [e] at hv;exact hv
   | some x=>rw [e] at hv;exact hv
end
section
variable {P:Program} {w:World} {K:PySem.W.Frag} {mg:Str→Option Value} {base:Heap} {c:Cl} {le ln:Addr} (T:Txt K mg c le ln) (Fs:YM K mg c)
theorem zo4 {p:Nat→Bool}:∀{b:B} {m:Nat},m≤b.length→(∀(j c:Nat),j < m→b[j]?=some c→p c=true)→(∀c,b[m]?=some c→p c=false)→(b.takeWhile p).length=m
 | [],m,h,_,_=>by simp at h;subst h;rfl
 | x::b,0,_,_,h=>by
  have:=h x rfl
  rw [List.takeWhile_cons,this];rfl
 | x::b,m + 1,hl,h1,h2=>by
  have hx:=h1 0 x (Nat.succ_pos _) rfl
  rw [List.takeWhile_cons,hx]
  simp only [if_true,List.length_cons]
  rw [zo4 (b:=b) (m:=m) (by simpa using hl) (fun j c hj hc=>h1 (j + 1) c (by omega) (by simpa using hc)) (fun c hc=>h2 c (by simpa using hc))]
noncomputable abbrev zjZ:Sp:=fun vs H Q _=>∃a b st,vs=[.ref a,.int (st:Nat)]∧zD H a b∧st≤b.length∧∀H',zC H H'→Q (.int (ZD b st)) H'
noncomputable def zoZ (b:B) (ls:List B):Prop:=(L [] b=none∧ls=[])∨(L [] b=some (ls,b.drop ((ls.map fun l=>l.length + 2).sum + 2))∧(∀l ∈ ls,l.all z7=true∧l≠[]∧l.length≤b.length)∧(zV ls).length≤b.length)
noncomputable abbrev zgT:Sp:=fun vs H Q _=>∃a b,vs=[.ref a]∧zD H a b∧b.length≤100000∧∀p ps ls H',zC H H'→H p=none→H' p=some (.lst (ps.map V.ref))→(∀q ∈ ps,H q=none)→Paired (fun q x=>zD H' q x) ps ls→zoZ b ls→Q (.ref p) H'
noncomputable abbrev ziF:Sp:=fun vs H Q _=>∃a ls,vs=[.ref a]∧Zw H a ls∧∀H',zC H H'→Q (.int (((ls.map fun l=>l.length + 2).sum + 2:Nat):Int)) H'
theorem znr {b:B} {ls:List B} {s:Nat} (h:zed b ls s):∀l ∈ ls,l.length≤b.length:=by
 intro l hl
 have h1:∀{ls:List B},l ∈ ls→l.length≤(ls.map fun l=>l.length + 2).sum:=by
  intro ls hl
  induction ls with
  | nil=>cases hl
  | cons x r ih=>
   rw [List.map_cons,List.sum_cons]
   rcases List.mem_cons.mp hl with rfl | hl
   ·omega
   ·have:=ih hl;omega
 have:=h1 hl
 rw [h.sz] at this
 exact Nat.le_trans this h.le
theorem zno:∀{vs:List V} {ns:List Nat},Paired (fun v y=>v=V.int ((y:Nat):Int)) vs ns→vs=(ns.map fun n:Nat=>(n:Int)).map V.int
 | _,_,.nil=>rfl
 | _,_,.cons r t=>by rw [List.map_cons,List.map_cons,← zno t,r]
theorem zn4 (ns:List Nat):((ns.sum:Nat):Int)=(ns.map fun n:Nat=>(n:Int)).sum:=by
 induction ns with
 | nil=>rfl
 | cons n r ih=>rw [List.sum_cons,List.map_cons,List.sum_cons,← ih];omega
include T Fs
theorem ze3:yG P w K mg base 2 "line_end" ["row","start"] zjZ:=by
 refine Fs.d_line_end.ok zbg zkB (fun vs H Q E h=>?_) (fun f cdv A outer s H vs Q E hr h=>?_)
 ·obtain ⟨a,b,st,rfl,_⟩:=h;rfl
 ·obtain ⟨a,b,st,rfl,hb,hst,k⟩:=h
  refine ⟨_,(zc (zE (i:=2) zbg.nd rfl (Or.inl rfl) (pv 1)) (zc (zca PassesOwn.never (PW.pt (za2 (zw zd0 (pv 2) (yo (zx (K:=K)) rfl T.b_len PySem.boot_len (zl (pv 0) zb)) (zz _)) (Q1 (yi (zq (zlN T Fs) (hr.mono (by decide)) rfl (zl (yE (zI (K:=K)) (pv 0) (pv 2) (fun _ _=>rfl)) zb)))))) (zg (zE (i:=2) zbg.nd rfl (Or.inl rfl) (zU yY (pv 2) zu)))) (zg (zm (yI (zw (yd (K:=K) hr.units) (ya (z9 (K:=K)) (pv 0) (yb (pv 2)) (yb (zU yY (pv 2) (yo (zx (K:=K)) rfl T.b_len PySem.boot_len (zl (zN T.c_LINE_END rfl) zb))))) (zlH (zhN (K:=K)) rfl T.b_list znP (zl (zN T.c_LINE_END rfl) zb)) (zz _)) (pv 2) (zoj zkN zu)))))),fun hL=>?_⟩
  refine ⟨_,rfl,?_⟩
  walk_at "nm"
  refine zem (fun σ H'=>∃n:Nat,σ=[some (.ref a),some (.int (st:Int)),some (.int (n:Int))]∧H'=H∧st≤n∧n≤b.length∧∀(j c:Nat),st≤j→j < n→b[j]?=some c→z7 c=true)
   (fun σ _=>match σ with | [_,_,some (.int e)]=>b.length - e.toNat | _=>0) ⟨st,rfl,rfl,Nat.le_refl _,hst,fun j c h1 h2=>absurd h1 (by omega)⟩ ?_
  rintro σ H' ⟨n,rfl,rfl,h1,h2,h3⟩
  have fin:(∀c,b[n]?=some c→z7 c=false)→zqs (tIf (zps (tOp (zmT K) (tSl (zqH K) (zmv 0) (zmw (zmv 2)) (zmw (tOp (rI0 fun i j=>V.int (i + j)) (zmv 2) (tCB (fun xs H Q=>∃p ys,xs=[V.ref p]∧(SqL K H p ys∨SqT K H p ys)∧Q (V.int ys.length) H) (zgJ (tC (V.ref le)) znV))))) (tCB (fun xs H Q=>∃p ys,xs=[V.ref p]∧(SqL K H p ys∨SqT K H p ys)∧∀l,H l=none→Q (V.ref l) (upd H l (.lst ys))) (zgJ (tC (V.ref le)) znV)))) (zmv 2) (tUn (rU fun i=>V.int (-i)) (tC (V.int 1)))) {nx:=fun _ H'=>Q .non H',rt:=Q} [some (.ref a),some (.int (st:Int)),some (.int (n:Int))] H':=by
   intro hstop
   have en:st + ((b.drop st).takeWhile z7).length=n:=by
    rw [zo4 (m:=n - st) (by rw [List.length_drop];omega) (fun j c hj hc=>h3 (st + j) c (by omega) (by omega) (by rw [List.getElem?_drop] at hc;exact hc)) (fun c hc=>hstop c (by rw [List.getElem?_drop] at hc;rw [show n=st + (n - st) by omega];exact hc))]
    omega
   refine ⟨_,rfl,_,rfl,_,rfl,_,rfl,le,_,rfl,.inr (T.le.sq _),_,_,rfl,rfl,_,rfl,a,_,rfl,SqL.of hb,fun p hp=>?_⟩
   rw [zb8 (i:=(n:Int)) (j:=(n:Int) + (([V.int 13,V.int 10]:List V).length:Nat)) n (n + 2) rfl (by simp)]
   refine ⟨le,_,rfl,.inr (T.le.sq _),fun q hq=>⟨p,q,_,[13,10],rfl,rfl,SqL.of ((zd hq) _ _ za),SqL.of za,_,rfl,zR (fun h4=>⟨_,rfl,qi ?_ (k _ ((zd hp).trans (zd hq)))⟩) (fun h4=>⟨_,rfl,qi ?_ (k _ ((zd hp).trans (zd hq)))⟩)⟩⟩
   ·unfold ZD
    simp only
    rw [en,if_pos]
    rw [show n + 2 - n=2 by omega] at h4
    simpa using h4
   ·unfold ZD
    simp only
    rw [en,if_neg]
    rw [show n + 2 - n=2 by omega] at h4
    simpa using h4
  refine ⟨_,rfl,_,rfl,a,_,rfl,.inl (SqL.of hb),_,_,rfl,rfl,_,rfl,zR (fun h4=>?_) (fun h4=>?_)⟩
  ·rw [zi] at h4
   simp at h4
   have hlt:n < b.length:=by omega
   refine ⟨_,rfl,_,rfl,a,_,_,_,rfl,rfl,SqL.of hb,zdC (j:=n) (n:=b[n]) rfl (List.getElem?_eq_getElem hlt),b[n],rfl,_,rfl,zR (fun h5=>?_) (fun h5=>?_)⟩
   ·refine ⟨fun σ' H2=>σ'=[some (.ref a),some (.int (st:Int)),some (.int ((n + 1:Nat):Int))]∧H2=H',?_,_,rfl,_,_,rfl,rfl,rfl,rfl⟩
    rintro σ' H2 ⟨rfl,rfl⟩
    refine ⟨_,?_,rfl,n + 1,rfl,rfl,by omega,by omega,fun j c h6 h7 h8=>?_⟩
    ·show b.length - ((n + 1:Nat):Int).toNat < b.length - ((n:Nat):Int).toNat
     omega
    ·by_cases q:j=n
     ·subst q
      rw [List.getElem?_eq_getElem hlt] at h8
      cases h8
      exact h5
     ·exact h3 j c h6 (by omega) h8
   ·refine fin fun c hc=>?_
    rw [List.getElem?_eq_getElem hlt] at hc
    cases hc
    simpa using h5
  ·rw [zi] at h4
   simp at h4
   refine fin fun c hc=>absurd (List.getElem?_eq_some_iff.mp hc).1 (by omega)
theorem zhw:yG P w K mg base 3 "head_lines" ["row"] zgT:=by
 refine Fs.d_head_lines.ok Zs zhW (fun vs H Q E h=>?_) (fun f cdv A outer s H vs Q E hr h=>?_)
 ·obtain ⟨a,b,rfl,_⟩:=h;rfl
 ·obtain ⟨a,b,rfl,hb,hz,k⟩:=h
  refine ⟨_,(zc (zE (i:=1) Zs.nd rfl (Or.inl rfl) (zO zb)) (zc (zE (i:=2) Zs.nd rfl (Or.inl rfl) zu) (zc (zE (i:=3) Zs.nd rfl (Or.inl rfl) (zq (ze3 T Fs) (hr.mono (by decide)) rfl (zl (pv 0) (zl zu zb)))) (zc (zca PassesOwn.never (zw zhs (pv 3) (pv 2) (zz _)) (zc (yx (Zb PySem.F.plainAttrs_list PySem.F.slot_list_append PySem.F.type_list_append yu (pv 1) (zl (ya (z9 (K:=K)) (pv 0) (yb (pv 2)) (yb (pv 3))) zb))) (zc (zE (i:=2) Zs.nd rfl (Or.inl rfl) (zU yY (pv 3) (yo (zx (K:=K)) rfl T.b_len PySem.boot_len (zl (zN T.c_LINE_END rfl) zb)))) (zg (zE (i:=3) Zs.nd rfl (Or.inl rfl) (zq (ze3 T Fs) (hr.mono (by decide)) rfl (zl (pv 0) (zl (pv 2) zb)))))))) (zg (zm (yI (zw Z0 (pv 3) (pv 2) (zz _)) (pv 1) (zO zb)))))))),fun hL=>?_⟩
  refine ⟨Nat.zero_le _,fun p hp=>?_⟩
  walk_at "nm"
  walk_at "nm"
  have s0:zC H (upd H p (.lst [])):=zd hp
  refine ⟨_,rfl,a,b,0,rfl,s0 _ _ hb,Nat.zero_le _,fun H1 s1=>?_⟩
  walk_at "nm"
  refine zem (fun σ H'=>∃(ls:List B) (ps:List Addr) (s:Nat),σ=[some (.ref a),some (.ref p),some (.int (s:Int)),some (.int (ZD b s))]∧zC H H'∧H' p=some (.lst (ps.map V.ref))∧(∀q ∈ ps,H q=none∧q≠p)∧Paired (fun q x=>zD H' q x) ps ls∧zed b ls s∧ps.length≤s)
   (fun σ _=>match σ with | [_,_,some (.int e),_]=>b.length - e.toNat | _=>0) ⟨[],[],0,rfl,s0.trans s1,s1 _ _ za,fun q hq=>(by cases hq),.nil,zed.start b,Nat.zero_le _⟩ ?_
  rintro σ H' ⟨ls,ps,s,rfl,s2,ep,hps,hR,hH,hlen⟩
  refine ⟨_,rfl,_,rfl,_,_,rfl,rfl,_,rfl,zR (fun h1=>?_) (fun h1=>?_)⟩
  ·simp at h1
   rcases zcs b s with e | ⟨n,e,hn⟩
   ·rw [e] at h1;omega
   rw [e] at h1 ⊢
   have hsn:s < n:=by omega
   have hT:=hH.turn e hsn
   have hle:=hT.le
   refine ⟨fun σ' H2=>∃q,σ'=[some (.ref a),some (.ref p),some (.int ((n + 2:Nat):Int)),some (.int (ZD b (n + 2)))]∧zC H H2∧H2 p=some (.lst ((ps++[q]).map V.ref))∧(H q=none∧q≠p)∧Paired (fun q x=>zD H2 q x) (ps++[q]) (ls++[(b.drop s).take (n - s)]),?_,?_⟩
   ·rintro σ' H2 ⟨q,rfl,s3,e3,hq,hR3⟩
    refine ⟨_,?_,rfl,_,ps++[q],n + 2,rfl,s3,e3,fun x hx=>?_,hR3,hT,?_⟩
    ·show b.length - ((n + 2:Nat):Int).toNat < b.length - ((s:Nat):Int).toNat
     omega
    ·rcases List.mem_append.mp hx with hx | hx
     ·exact hps x hx
     ·have:x=q:=by simpa using hx
      subst this;exact hq
    ·rw [List.length_append];simp;omega
   ·refine ⟨_,rfl,.inl ⟨rfl,_,SqL.of ep⟩,_,rfl,_,rfl,_,rfl,_,rfl,_,rfl,a,_,rfl,SqL.of (s2 _ _ hb),fun q hq=>?_⟩
    rw [zb8 (i:=(s:Int)) (j:=(n:Int)) s n rfl rfl]
    have hqp:q≠p:=fun e=>by rw [e,ep] at hq;cases hq
    have ep2:=(zd (o:=.lst (rv ((b.drop s).take (n - s)))) hq) _ _ ep
    refine ⟨p,_,_,rfl,rfl,ep2,?_,_,rfl,le,_,rfl,.inr (T.le.sq _),_,_,rfl,rfl,?_⟩
    ·rw [List.length_map,sizeLine_eq];omega
    ·walk_at "nm"
     have s3:zC H (upd (upd H' q (.lst (rv ((b.drop s).take (n - s))))) p (.lst (List.map V.ref ps++[V.ref q]))):=fun b o e=>by
      rw [zv (zy e hp),zv (zy (s2 b o e) hq)];exact s2 b o e
     have e2:((n:Int) + (([V.int 13,V.int 10]:List V).length:Nat))=((n + 2:Nat):Int):=by simp
     refine ⟨_,rfl,_,rfl,a,b,n + 2,?_,s3 _ _ hb,hle,fun H3 s4=>?_⟩
     ·rw [← e2]
     ·refine ⟨q,?_,s3.trans s4,?_,⟨s2.free hq,hqp⟩,?_⟩
      ·rw [← e2];rfl
      ·refine s4 _ _ ?_
       rw [za,List.map_append];rfl
      ·refine zmO s4 (L2.Paired.snoc (zaR (zaR hR fun x hx=>?_) fun x hx=>(hps x hx).2) ?_)
       ·obtain ⟨y,_,hy⟩:=Paired.mem_left hR hx
        exact zy hy hq
       ·show upd (upd H' q _) p _ q=_
        rw [zv hqp,za]
  ·simp at h1
   refine ⟨_,rfl,_,rfl,rfl,_,rfl,zR (fun h2=>?_) (fun h2=>?_)⟩
   ·have e:ZD b s=(s:Int):=by simpa using h2
    refine ⟨_,rfl,k p ps ls H' s2 hp ep (fun q hq=>(hps q hq).1) hR (.inr ⟨?_,fun l hl=>⟨(hH.sg l hl).1,(hH.sg l hl).2,znr hH l hl⟩,by rw [zhG,hH.sz];exact hH.le⟩)⟩
    rw [hH.sz]
    exact hH.stop e
   ·have e:ZD b s=-1:=by
     rcases zcs b s with e | ⟨n,e,hn⟩
     ·exact e
     ·exfalso
      rw [e] at h1 h2
      simp at h2
      omega
    refine ⟨Nat.zero_le _,fun q hq=>k q [] [] _ (s2.trans (zd hq)) (s2.free hq) za (fun q hq=>(by cases hq)) .nil (.inl ⟨hH.none e,rfl⟩)⟩
theorem zi1:yG P w K mg base 1 "head_size" ["lines"] ziF:=by
 refine Fs.d_head_size.ok zaa zjI (fun vs H Q E h=>?_) (fun f cdv A outer s H vs Q E hr h=>?_)
 ·obtain ⟨a,b,rfl,_⟩:=h;rfl
 ·obtain ⟨a,ls,rfl,⟨ps,ha,hR⟩,k⟩:=h
  refine ⟨_,(zg (zm (zU yY (yX (yo (zp6 (K:=K) rfl) rfl T.b_sum zrp (zl (Q2 rfl zaa.nd (zK (K:=K) (yX (pv 0))) (z3 (own:=[("line",1)]) (by exact rfl)) (fun _ _ _ _ _=>zX (i:=1) zaa.nd rfl (Or.inl rfl)) (fun _ _ _ _ _=>yK) (fun _ _ _ _ _=>(zU yY (yo (zx (K:=K)) rfl T.b_len PySem.boot_len (zl (pv 1) zb)) (yo (zx (K:=K)) rfl T.b_len PySem.boot_len (zl (zN T.c_LINE_END rfl) zb))))) zb))) (yo (zx (K:=K)) rfl T.b_len PySem.boot_len (zl (zN T.c_LINE_END rfl) zb))))),fun hL=>?_⟩
  have hl:=Paired.length hR
  refine ⟨fun v H1=>v=.int (((ls.map fun l=>l.length + 2).sum:Nat):Int)∧zC H H1,?_,fun v H1 ⟨hv,s1⟩=>?_⟩
  case refine_2=>
   subst hv
   exact ⟨le,_,rfl,.inr (T.le.sq _),_,_,rfl,rfl,qi (by rfl) (k H1 s1)⟩
  refine Qn (β:=Nat) (Q:=fun x H1=>zrW K [x] H1 fun v H1=>v=.int (((ls.map fun l=>l.length + 2).sum:Nat):Int)∧zC H H1) (fun _ v y=>v=.int (y:Int)) (fun _ _ _ _ _ h=>h) (fun v H1=>v=.ref a∧H1=H) ⟨_,rfl,rfl,rfl⟩ ?_
  rintro v H1 ⟨rfl,rfl⟩
  refine ⟨a,ps.map V.ref,H1,fun i=>(ls[i]?).map fun l=>l.length + 2,rfl,SqL.of ha,zC.refl _,fun i x G2 H2 P hx g2 hP=>?_,fun p vs G2 H2 g2 hp hG e hR2=>?_⟩
  ·obtain ⟨q,hq,rfl⟩:=zb9 hx
   obtain ⟨l,hl,hrow⟩:=Paired.at_ hR hq
   simp only [hl,Option.map_some] at hP
   refine zdL (B:=P none H2) ⟨_,rfl,q,_,rfl,.inl (SqL.of (g2.hh _ _ hrow)),le,_,rfl,.inr (T.le.sq _),_,_,rfl,rfl,hP _ G2 H2 (zJ.refl g2.gh) ?_⟩
   rw [zi]
   rfl
  ·rw [List.length_map,hl,ZY] at hR2
   refine ⟨p,_,rfl,SqL.of (by rw [e,zno hR2]),?_,g2.hh⟩
   rw [← zn4]
end
section
variable {P:Program} {w:World} {K:PySem.W.Frag} {mg:Str→Option Value} {base:Heap} {c:Cl} {le ln:Addr} (T:Txt K mg c le ln) (Fs:YM K mg c)
noncomputable abbrev zcL:Sp:=fun vs H Q _=>∃a b,vs=[.ref a]∧zD H a b∧∀H',zC H H'→Q (.bl (zaW b)) H'
noncomputable def zmm (c:Cl) (G:Hp) (v:V) (line:B):First→Prop
 | .answer=>∃a lA mA dx,v=.ref a∧G a=some (.ins c.First dx (Q6 (.ref lA) (.ref mA) .non))∧zD G lA line∧zD G mA []
 | .request m t txt=>∃a lA mA tv dx,v=.ref a∧G a=some (.ins c.First dx (Q6 (.ref lA) (.ref mA) tv))∧zD G lA line∧zD G mA m∧znX c G tv t txt∧methodOk m=true∧txt.length≤100000
theorem zmm.mono {c:Cl} {G G':Hp} {v:V} {line:B} {x:First} (s:zC G G') (h:zmm c G v line x):zmm c G' v line x:=by
 cases x with
 | answer=>obtain ⟨a,lA,mA,dx,e,h1,h2,h3⟩:=h;exact ⟨a,lA,mA,dx,e,s _ _ h1,s _ _ h2,s _ _ h3⟩
 | request m t txt=>obtain ⟨a,lA,mA,tv,dx,e,h1,h2,h3,h4,h5⟩:=h;exact ⟨a,lA,mA,tv,dx,e,s _ _ h1,s _ _ h2,s _ _ h3,h4.mono s,h5⟩
noncomputable def zqg (c:Cl) (G:Hp) (v:V) (line:B):Option First→Prop
 | none=>v=.non
 | some f=>zmm c G v line f
noncomputable abbrev zj3 (c:Cl):Sp:=fun vs H Q _=>∃G a b,vs=[.ref a]∧zC G H∧zD G a b∧b.length≤100000∧∀v G' H',zJ G H G' H'→zqg c G' v b (firstOf b)→Q v H'
theorem zks:tl (Str.ofString "SIP/2.0"++Str.ofString " ")=ascii "SIP/2.0 ":=by rw [TL.tl_append,zB,zB];decide +kernel
theorem zpY:(Str.ofString "SIP/2.0"++Str.ofString " ").cps.size≤1000:=by
 have h:=congrArg List.length zks
 rw [Array.length_toList] at h
 rw [h]
 decide +kernel
include T Fs
theorem zc8:yG P w K mg base 3 "is_answer_line" ["line"] zcL:=by
 refine Fs.d_is_answer_line.ok Yg zdt (fun vs H Q E h=>?_) (fun f cdv A outer s H vs Q E hr h=>?_)
 ·obtain ⟨a,b,rfl,_⟩:=h;rfl
 ·obtain ⟨a,b,rfl,hb,k⟩:=h
  refine ⟨_,(zc (zE (i:=1) Yg.nd rfl (Or.inl rfl) (zU yY (yo QM rfl T.b_len PySem.boot_len (zl (zN T.c_FORM rfl) zb)) zu)) (zc (zE (i:=2) Yg.nd rfl (Or.inl rfl) (ya (z9 (K:=K)) (pv 0) (yb (pv 1)) (yb (zU yY (pv 1) zu)))) (zc (z4 (Za (PW.pt (Z9 (yT (yi (zq (Zo T Fs) (hr.mono (by decide)) rfl (zl (pv 2) (zl zu zb))))) (Zm (zw (Qr (K:=K) hr.units) (ya (z9 (K:=K)) (pv 0) (yb (zU yY (pv 1) zu)) (yb (zU yY (pv 1) zu))) (zO (zl (zN T.c_BLANK rfl) zb)) (zz _)))))) (zg (zm zeZ)) zF) (zg (zm (ZZ ZG ZG zu (zq (yz T Fs) (hr.mono (by decide)) rfl (zl (pv 2) zb)) zu)))))),fun hL=>?_⟩
  have e7:((Str.ofString "SIP/2.0").length:Int) + 1=((8:Nat):Int):=by decide +kernel
  refine ⟨"SIP/2.0",rfl,(by decide +kernel),_,_,rfl,rfl,?_⟩
  walk_at "nm"
  rw [e7]
  refine ⟨_,rfl,_,rfl,_,rfl,_,rfl,_,_,rfl,rfl,_,rfl,a,_,rfl,SqL.of hb,fun p hp=>?_⟩
  rw [zb8 (i:=((8:Nat):Int)) (j:=((8:Nat):Int) + 3) 8 11 rfl rfl]
  walk_at "nm"
  generalize hD:(b.drop 8).take (11 - 8)=ds
  have hD':(b.drop 8).take 3=ds:=hD
  have s1:zC H (upd H p (.lst (rv ds))):=zd hp
  have hds:zD (upd H p (.lst (rv ds))) p ds:=za
  generalize upd H p (.lst (rv ds))=H1 at s1 hds
  refine ⟨fun t H2=>zC H1 H2∧t=!(zG ds 3&&decide ((b.drop 11).take 1=[32])),?_,fun t H2 ⟨s2,ht⟩=>?_⟩
  ·refine ⟨_,rfl,p,ds,3,rfl,hds,fun H2 s2=>⟨_,rfl,zR (fun h1=>⟨s2,?_⟩) (fun h1=>?_)⟩⟩
   ·have:zG ds 3=false:=by simpa using h1
    rw [this];rfl
   ·have h1':zG ds 3=true:=by simpa using h1
    refine ⟨_,rfl,_,rfl,_,_,rfl,rfl,_,rfl,_,rfl,_,_,rfl,rfl,_,rfl,a,_,rfl,SqL.of (s2 _ _ (s1 _ _ hb)),fun q hq=>?_⟩
    rw [zb8 (i:=((8:Nat):Int) + 3) (j:=((8:Nat):Int) + 4) 11 12 rfl rfl]
    refine ⟨(by decide),fun q2 hq2=>⟨q,q2,_,[32],rfl,rfl,SqL.of ((zd hq2) _ _ za),SqL.of za,_,rfl,s2.trans ((zd hq).trans (zd hq2)),?_⟩⟩
    rw [h1']
    rfl
  ·subst ht
   refine zR (fun h1=>qb ?_ (k H2 (s1.trans s2))) (fun h1=>?_)
   ·unfold zaW
    rw [hD']
    simp only [Bool.not_eq_true',Bool.and_eq_false_iff] at h1
    rcases h1 with h1 | h1 <;> rw [h1] <;> simp
   ·simp only [Bool.not_eq_true',Bool.not_eq_false,Bool.and_eq_true] at h1
    walk_at "nx"
    have hd:=(z8.mp h1.1).2.2
    refine ⟨_,rfl,p,ds,rfl,s2 _ _ hds,hd,_,_,rfl,rfl,_,rfl,zR (fun h2=>⟨_,_,rfl,rfl,qb ?_ (k H2 (s1.trans s2))⟩) (fun h2=>qb ?_ (k H2 (s1.trans s2)))⟩
    ·unfold zaW
     rw [hD',h1.1,h1.2]
     simp at h2
     rw [decide_eq_true (show 100≤natOf ds by omega),Bool.eq_iff_iff]
     simp
     omega
    ·unfold zaW
     rw [hD',h1.1,h1.2]
     simp at h2
     rw [decide_eq_false (show ¬ 100≤natOf ds by omega)]
     rfl
theorem zkh:yG P w K mg base 9 "first_of" ["line"] (zj3 c):=by
 refine Fs.d_first_of.ok zbi zkF (fun vs H Q E h=>?_) (fun f cdv A outer s H vs Q E hr h=>?_)
 ·obtain ⟨G,a,b,rfl,_⟩:=h;rfl
 ·obtain ⟨G,a,b,rfl,sg,hb,hz,k⟩:=h
  refine ⟨_,(zc (z4 (yi (zq (zco T Fs) (hr.mono (by decide)) rfl (zl (pv 0) (zl (zU Yq (zN T.c_FORM rfl) yt) zb)))) (zg (zm (yI (yi (zq (zc8 T Fs) (hr.mono (by decide)) rfl (zl (pv 0) zb))) (YY (zcq T Fs) (hr.mono (by decide)) rfl (zl (pv 0) (zl (zO zb) (zl zY zb)))) zY))) zF) (zc (zE (i:=1) zbi.nd rfl (Or.inl rfl) (zq (Qs T Fs) (hr.mono (by decide)) rfl (zl (pv 0) (zl (zN T.c_BLANK rfl) zb)))) (zc (z4 (Za (PW.pt (Z9 (zw ziW (yo (zx (K:=K)) rfl T.b_len PySem.boot_len (zl (pv 1) zb)) zu (zz _)) (Z9 (yT (yi (zq (zdF T Fs) (hr.mono (by decide)) rfl (zl (yE (zI (K:=K)) (pv 1) zu (fun _ _=>rfl)) zb)))) (Zm (zw (Qr (K:=K) hr.units) (yE (zI (K:=K)) (pv 1) zu (fun _ _=>rfl)) (zq (zQ T Fs) (hr.mono (by decide)) rfl (zl (zN T.c_FORM rfl) zb)) (zz _))))))) (zg (zm zY)) zF) (zc (zE (i:=2) zbi.nd rfl (Or.inl rfl) (zq (zdE T Fs) (hr.mono (by decide)) rfl (zl (yE (zI (K:=K)) (pv 1) zu (fun _ _=>rfl)) zb))) (zg (zm (yI (zw YG (pv 2) zY (zz _)) zY (YY (zcq T Fs) (hr.mono (by decide)) rfl (zl (pv 0) (zl (yE (zI (K:=K)) (pv 1) zu (fun _ _=>rfl)) (zl (pv 2) zb))))))))))),fun hL=>?_⟩
  have hbH:=sg _ _ hb
  refine ⟨_,rfl,_,_,rfl,rfl,(by decide +kernel),a,b,_,rfl,hbH,zpY,fun H1 s1=>⟨_,rfl,zR (fun h1=>?_) (fun h1=>?_)⟩⟩
  ·rw [zks] at h1
   have g1:=zJ.more sg s1
   refine ⟨_,rfl,a,b,rfl,s1 _ _ hbH,fun H2 s2=>⟨_,rfl,zR (fun h2=>?_) (fun h2=>?_)⟩⟩
   ·refine ⟨_,rfl,Nat.zero_le _,fun q hq=>fun o dx no ndx ne=>⟨o,dx,_,_,_,rfl,za,fun H10 q1 q2=>zfb (fun o H10 s10 no he=>?_) no ndx q1 q2⟩⟩
    obtain ⟨dx,he⟩:=he
    have g2:=g1.trans (zJ.more g1.gh s2)
    have g3:=g2.trans (zJ.keep g2.gh (zd (o:=.lst (rv [])) hq) hq za)
    have sA:=zd (o:=.lst (rv [])) (g2.gh.free hq)
    have sB:=zd (o:=.ins c.First dx (Q6 (.ref a) (.ref q) .non)) (g3.gh.free no)
    refine k _ (upd (upd G q (.lst (rv []))) o _) H10 (g3.trans (zJ.keep g3.gh s10 no he)) ?_
    rw [za7 h1,if_pos h2]
    exact ⟨o,a,q,dx,rfl,za,sB _ _ (sA _ _ hb),sB _ _ za⟩
   ·refine k _ G H2 (g1.trans (zJ.more g1.gh s2)) ?_
    rw [za7 h1,if_neg h2]
    rfl
  ·rw [zks] at h1
   have h1':=Bool.eq_false_iff.mpr h1
   have g1:=zJ.more sg s1
   walk_at "nx"
   refine ⟨_,rfl,a,b,32,rfl,s1 _ _ hbH,hz,fun p ps H2 s2 hp e2 hf hR=>?_⟩
   walk_at "nm"
   obtain ⟨G2,g2,hG2⟩:=zJ.grab g1.gh s2 ps hf
   have g12:=g1.trans g2
   have hF:=zfq h1'
   generalize hS:splitBy 32 b []=ls at hR hF
   have hl:=Paired.length hR
   have hRG:Paired (fun q x=>zD G2 q x) ps ls:=by
    have:∀{qs:List Addr} {ls:List B},(∀q ∈ qs,G2 q=H2 q)→Paired (fun q x=>zD H2 q x) qs ls→Paired (fun q x=>zD G2 q x) qs ls:=by
     intro qs ls hq h
     induction h with
     | nil=>exact .nil
     | cons r t ih=>exact .cons ((hq _ List.mem_cons_self).trans r) (ih fun q h=>hq q (List.mem_cons_of_mem _ h))
    exact this hG2 hR
   refine ⟨fun t H3=>zC H2 H3∧(t=true↔¬ ∃m u v,ls=[m,u,v]∧methodOk m=true∧v=ascii "SIP/2.0"),?_,fun t H3 ⟨s3,ht⟩=>?_⟩
   ·refine ⟨_,rfl,p,_,rfl,.inl (SqL.of e2),rfl,_,rfl,zR (fun h2=>⟨zC.refl _,?_⟩) (fun h2=>?_)⟩
    ·rw [List.length_map] at h2
     refine ⟨fun _ ⟨m,u,v,e,_⟩=>?_,fun _=>rfl⟩
     rw [e] at hl
     simp at h2 hl
     omega
    ·rw [List.length_map] at h2
     have h3:ls.length=3:=by simp at h2;omega
     obtain ⟨pm,pu,pv,m,u,v,rfl,rfl,rm,ru,rv'⟩:=pr3 hR h3
     refine ⟨_,rfl,p,_,_,_,rfl,rfl,SqL.of e2,yk (j:=0) rfl,pm,m,rfl,rm,fun H3 s3=>⟨_,rfl,zR (fun h4=>⟨s3,?_⟩) (fun h4=>?_)⟩⟩
     ·have h4':methodOk m=false:=by simpa using h4
      simp [h4']
     ·have h4':methodOk m=true:=by simpa using h4
      refine ⟨_,rfl,p,_,_,_,rfl,rfl,SqL.of (s3 _ _ e2),yk (j:=2) rfl,"SIP/2.0",rfl,(by decide +kernel),fun q H4 s4 hq e4=>⟨pv,q,_,_,rfl,rfl,SqL.of (s4 _ _ (s3 _ _ rv')),SqL.of e4,_,rfl,s3.trans s4,?_⟩⟩
      rw [zB]
      simp [h4']
   ·have g3:=g12.trans (zJ.more g12.gh s3)
    refine zR (fun h2=>?_) (fun h2=>?_)
    ·refine k _ G2 H3 g3 ?_
     have hno:=ht.mp h2
     rw [hF]
     split
     ·rename_i h_m h_u h_v
      rw [if_neg]
      ·rfl
      ·intro q;exact hno ⟨_,_,_,rfl,q.1,q.2⟩
     ·rfl
    ·have hyes:∃m u v,ls=[m,u,v]∧methodOk m=true∧v=ascii "SIP/2.0":=Classical.byContradiction fun q=>h2 (ht.mpr q)
     obtain ⟨m,u,v,rfl,hm,hv⟩:=hyes
     walk_at "nx"
     simp only at hF
     rw [if_pos ⟨hm,hv⟩] at hF
     obtain ⟨pm,pu,pv,rfl,rm,ru,_⟩:=pq3 hRG
     have hu:u.length≤100000:=by
      have:=Jl 32 b [] u (by rw [hS];simp)
      simp at this;omega
     refine ⟨_,rfl,p,_,_,_,rfl,rfl,SqL.of (s3 _ _ e2),yk (j:=1) rfl,G2,pu,u,rfl,g3.gh,ru,hu,fun tv G4 H4 g4 htv=>?_⟩
     walk_at "nm"
     have g34:=g3.trans g4
     refine ⟨_,rfl,rfl,_,rfl,zR (fun h5=>?_) (fun h5=>?_)⟩
     ·have htv0:tv=.non:=by simpa using h5
      refine k _ G4 H4 g34 ?_
      rw [hF]
      cases e:targetOf u with
      | none=>rfl
      | some x=>
       rw [e] at htv
       obtain ⟨o,_,_,_,_,_,eo,_⟩:=htv
       rw [htv0] at eo;cases eo
     ·have htv0:tv≠.non:=by simpa using h5
      cases e:targetOf u with
      | none=>rw [e] at htv;exact absurd htv htv0
      | some x=>
       rw [e] at htv hF
       refine ⟨_,rfl,_,rfl,p,_,_,_,rfl,rfl,SqL.of (g4.hh _ _ (s3 _ _ e2)),yk (j:=0) rfl,_,rfl,fun o dx no ndx ne=>⟨o,dx,_,_,_,rfl,za,fun H10 q1 q2=>zfb (fun o H10 s10 no he=>?_) no ndx q1 q2⟩⟩
       obtain ⟨dx,he⟩:=he
       have sB:=zd (o:=.ins c.First dx (Q6 (.ref a) (.ref pm) tv)) (g34.gh.free no)
       refine k _ (upd G4 o _) H10 (g34.trans (zJ.keep g34.gh s10 no he)) ?_
       rw [hF]
       exact ⟨o,a,pm,tv,dx,rfl,za,sB _ _ (g34.gg _ _ hb),sB _ _ (g4.gg _ _ rm),znX.mono sB htv,hm,hu⟩
end
section
variable {P:Program} {w:World} {K:PySem.W.Frag} {mg:Str→Option Value} {base:Heap} {c:Cl} {le ln:Addr} (T:Txt K mg c le ln) (Fs:YM K mg c)
noncomputable def JF:List (String × String):=[("via","v"),("from","f"),("to","t"),("call-id","i"),("contact","m"),("content-length","l"),("cseq","cseq"),("max-forwards","max-forwards"),("expires","expires")]
noncomputable def zct (n:B):String:=match JF.find? fun k=>n == ascii k.1||n == ascii k.2 with
 | some k=>k.1
 | none=>""
theorem zkY:kinds=JF.map fun k=>(ascii k.1,ascii k.2):=by rfl
theorem zoF (n:B):zlX n=ascii (zct n):=by
 unfold zlX zct
 rw [zkY,List.find?_map]
 show (match (JF.find? fun k=>n == ascii k.1||n == ascii k.2).map (fun k=>(ascii k.1,ascii k.2)) with | some k=>k.1 | none=>([]:B))=_
 cases JF.find? fun k=>n == ascii k.1||n == ascii k.2 with
 | none=>rfl
 | some k=>rfl
theorem znk (n:B):zct n ∈ ""::JF.map Prod.fst:=by
 unfold zct
 cases e:JF.find? fun k=>n == ascii k.1||n == ascii k.2 with
 | none=>simp
 | some k=>exact List.mem_cons_of_mem _ (List.mem_map.mpr ⟨k,List.mem_of_find?_eq_some e,rfl⟩)
theorem zaF {n:B} {k:String × String} (hk:k ∈ JF):Str.ofString (zct n)=Str.ofString k.1↔YZ n=ascii k.1:=by
 have h1:∀s ∈ ""::JF.map Prod.fst,∀k ∈ JF,(Str.ofString s=Str.ofString k.1↔ascii s=ascii k.1):=by decide +kernel
 rw [h1 _ (znk n) k hk,← zoF]
 exact znl (k:=(ascii k.1,ascii k.2)) (by rw [zkY];exact List.mem_map.mpr ⟨k,hk,rfl⟩)
noncomputable abbrev zlj:Sp:=fun vs H Q _=>∃a b,vs=[.ref a]∧zD H a b∧∀H',zC H H'→Q (.str (Str.ofString (zct b))) H'
noncomputable def zfL (G:Hp) (v:V) (b:B):Prop:=∃a,v=.ref a∧zD G a b∧b.length≤100000∧b.all z7=true
theorem zfL.mono {G G':Hp} {v:V} {b:B} (s:zC G G') (h:zfL G v b):zfL G' v b:=by
 obtain ⟨a,e,h1,h2⟩:=h;exact ⟨a,e,s _ _ h1,h2⟩
noncomputable def zbP (c:Cl) (G:Hp) (v:V) (h:Header):Prop:=∃a n lv vv dx,v=.ref a∧G a=some (.ins c.Header dx (JK (.str (Str.ofString (zct n))) lv vv))∧zfL G lv h.line∧zfL G vv h.value∧h.name=YZ n
theorem zbP.mono {c:Cl} {G G':Hp} {v:V} {h:Header} (s:zC G G') (x:zbP c G v h):zbP c G' v h:=by
 obtain ⟨a,n,lv,vv,dx,e,h1,h2,h3,h4⟩:=x;exact ⟨a,n,lv,vv,dx,e,s _ _ h1,h2.mono s,h3.mono s,h4⟩
noncomputable def zfK (c:Cl) (G:Hp) (v:V):Option Header→Prop
 | none=>v=.non
 | some h=>zbP c G v h
theorem zfK.mono {c:Cl} {G G':Hp} {v:V} {h:Option Header} (s:zC G G') (x:zfK c G v h):zfK c G' v h:=by
 cases h with
 | none=>exact x
 | some h=>exact zbP.mono s x
noncomputable abbrev ziE (c:Cl):Sp:=fun vs H Q _=>∃G a b,vs=[.ref a]∧zC G H∧zD G a b∧b.length≤100000∧b.all z7=true∧∀v G' H',zJ G H G' H'→zfK c G' v (headerOf b)→Q v H'
noncomputable abbrev ziv (c:Cl):Sp:=fun vs H Q _=>∃G v l,∃k:String × String,vs=[v,.str (Str.ofString k.1)]∧zC G H∧zL (zbP c) G v l∧k ∈ JF∧∀v' G' H',zJ G H G' H'→zL zfL G' v' (valuesOf l k.1)→Q v' H'
noncomputable abbrev zgN (c:Cl):Sp:=fun vs H Q _=>∃G v l,∃k:String × String,vs=[v,.str (Str.ofString k.1)]∧zC G H∧zL (zbP c) G v l∧k ∈ JF∧∀v' G' H',zJ G H G' H'→zfL G' v' (zZ l k.1)→Q v' H'
noncomputable abbrev zgS:Sp:=fun vs H Q _=>∃a b,vs=[.ref a]∧zD H a b∧Q (.bl (idOk b)) H
noncomputable abbrev zlp:Sp:=fun vs H Q _=>∃a b,vs=[.ref a]∧zD H a b∧∀H',zC H H'→Q (.bl (zG b 3&&decide (natOf b≤255))) H'
theorem zpw (b:B):(rv b).all zcu=true:=by
 rw [List.all_eq_true]
 intro x hx
 obtain ⟨n,_,rfl⟩:=List.mem_map.mp hx
 rfl
theorem zrb (n:Nat) (b:B):inV (.int (n:Int)) (rv b)=b.contains n:=by
 unfold inV rv
 rw [List.any_map,Bool.eq_iff_iff,List.any_eq_true,List.contains_iff_mem]
 constructor
 ·rintro ⟨m,hm,e⟩
  have e':((m:Int) == (n:Int))=true:=e
  rw [beq_iff_eq] at e'
  have:m=n:=by omega
  exact this ▸ hm
 ·intro h
  refine ⟨n,h,?_⟩
  show ((n:Int) == (n:Int))=true
  exact beq_self_eq_true _
theorem zia {p q:Nat→Bool} {b:B} (h:b.all p=true):(b.dropWhile q).all p=true:=by
 rw [List.all_eq_true] at h ⊢
 intro x hx
 exact h x ((List.dropWhile_sublist q).subset hx)
theorem zjT (b:B):∀x ∈ trimmed b,x ∈ b:=by
 unfold trimmed
 intro x hx
 rw [List.mem_reverse] at hx
 exact List.mem_reverse.mp ((List.dropWhile_sublist _).subset hx)
theorem zbb (b:B):(trimmed b).length≤b.length:=by
 unfold trimmed
 rw [List.length_reverse]
 have:=(List.dropWhile_sublist (fun c=>c == 32) (l:=b.reverse)).length_le
 rw [List.length_reverse] at this
 exact this
theorem zkr {b:B} (h:b.all z7=true):(zfp b).all z7=true:=by
 rw [List.all_eq_true]
 intro x hx
 have:=zia (q:=fun c=>c == 32) (zcE h (idx 58 b + 1))
 exact List.all_eq_true.mp this x (zjT _ x hx)
theorem zfo (b:B):(zfp b).length≤b.length:=by
 refine Nat.le_trans (zbb _) (Nat.le_trans (List.dropWhile_sublist _).length_le ?_)
 rw [List.length_drop];omega
theorem zms (l:List Header) (k:String):l.filterMap (fun h=>if h.name=ascii k then some h.value else none)=valuesOf l k:=by
 unfold valuesOf
 induction l with
 | nil=>rfl
 | cons h t ih=>
  rw [List.filterMap_cons,List.filter_cons]
  by_cases e:h.name=ascii k
  ·rw [if_pos e,if_pos (by simpa using e)];simp [ih]
  ·rw [if_neg e,if_neg (by simpa using e)];simp [ih]
theorem zkl:(JF.map fun k=>V.str (Str.ofString k.1))=[.str "via",.str "from",.str "to",.str "call-id",.str "contact",.str "content-length",.str "cseq",.str "max-forwards",.str "expires"]:=rfl
theorem zkk:∀k ∈ JF,zql [("via","v"),("from","f"),("to","t"),("call-id","i"),("contact","m"),("content-length","l")] (Str.ofString k.1) (.str (Str.ofString k.1))=.str (Str.ofString k.2):=by decide +kernel
theorem zlW:∀k ∈ JF,(Str.ofString k.1).cps.size≤1000∧(Str.ofString k.2).cps.size≤1000:=by decide +kernel
include T Fs
theorem zlM:yG P w K mg base 2 "kind_of" ["name"] zlj:=by
 refine Fs.d_kind_of.ok zgq zmb (fun vs H Q E h=>?_) (fun f cdv A outer s H vs Q E hr h=>?_)
 ·obtain ⟨a,b,rfl,_⟩:=h;rfl
 ·obtain ⟨a,b,rfl,h1,k⟩:=h
  refine ⟨_,(zc (JP PassesOwn.never rfl (zmU (K:=K) (zN T.c_LONG_NAMES rfl)) (zX (i:=1) zgq.nd rfl (Or.inl rfl)) (zg (z4 (Za (PW.pt (Z9 (zw (yd (K:=K) hr.units) (pv 0) (zq (zQ T Fs) (hr.mono (by decide)) rfl (zl (pv 1) zb)) (zz _)) (Zm (zw (yd (K:=K) hr.units) (pv 0) (zq (zQ T Fs) (hr.mono (by decide)) rfl (zl (zok T.c_SHORT_NAMES rfl (pv 1) (pv 1)) zb)) (zz _)))))) (zg (zm (pv 1))) zF))) (zg (zm (zN T.c_OTHER rfl)))),fun hL=>?_⟩
  have hT:=T.ln
  rw [← zkl] at hT
  refine ⟨ln,rfl,⟨_,hT.sq H⟩,zpZ (K:=K) (a:=ln) (xs:=JF.map fun k=>V.str (Str.ofString k.1)) (fun i σ H'=>∃v,σ=[some (.ref a),v]∧zC H H'∧(JF.find? fun k=>b == ascii k.1||b == ascii k.2)=((JF.drop i).find? fun k=>b == ascii k.1||b == ascii k.2)) ⟨none,rfl,zC.refl _,rfl⟩ (fun i σ H' _ _=>hT.sq H') ?_ ?_⟩
  ·rintro i y σ H' hi ⟨w1,rfl,s2,hf⟩
   rw [List.getElem?_map] at hi
   obtain ⟨kk,hk,rfl⟩:=Option.map_eq_some_iff.mp hi
   have hmem:kk ∈ JF:=List.mem_of_getElem? hk
   rw [Jg hk,List.find?_cons] at hf
   obtain ⟨z1,z2⟩:=zlW kk hmem
   refine ⟨fun r H2=>zC H' H2∧r=(b == ascii kk.1||b == ascii kk.2),?_,fun r H2 ⟨s3,hr2⟩=>?_⟩
   ·refine ⟨_,rfl,_,rfl,_,rfl,z1,fun p H2 s3 hp hrow=>⟨a,p,b,_,rfl,rfl,SqL.of (s3 _ _ (s2 _ _ h1)),SqL.of hrow,_,rfl,?_⟩⟩
    rw [zB]
    refine zR (fun h6=>⟨s3,?_⟩) (fun h6=>?_)
    ·have h7:b=ascii kk.1:=by simpa using h6
     rw [beq_iff_eq.mpr h7];rfl
    ·have h7:¬ b=ascii kk.1:=by simpa using h6
     refine ⟨_,rfl,_,rfl,_,rfl,_,rfl,?_⟩
     rw [zkk kk hmem]
     refine ⟨_,rfl,z2,fun p2 H3 s4 hp2 hrow2=>⟨a,p2,b,_,rfl,rfl,SqL.of (s4 _ _ (s3 _ _ (s2 _ _ h1))),SqL.of hrow2,_,rfl,s3.trans s4,?_⟩⟩
     rw [zB,beq_eq_false_iff_ne.mpr h7,Bool.false_or]
     by_cases h8:b=ascii kk.2 <;> simp [h8]
   ·subst hr2
    refine zR (fun h6=>?_) (fun h6=>?_)
    ·rw [h6] at hf
     refine ⟨_,rfl,?_⟩
     have:=k H2 (s2.trans s3)
     unfold zct at this
     rw [hf] at this
     exact this
    ·have h7:(b == ascii kk.1||b == ascii kk.2)=false:=by simpa using h6
     rw [h7] at hf
     exact ⟨_,rfl,s2.trans s3,hf⟩
  ·rintro σ H' ⟨w1,rfl,s2,hf⟩
   rw [List.length_map,List.drop_length] at hf
   have:=k H' s2
   unfold zct at this
   rw [hf] at this
   exact this
theorem zi0:yG P w K mg base 3 "header_of" ["line"] (ziE c):=by
 refine Fs.d_header_of.ok YE zjH (fun vs H Q E h=>?_) (fun f cdv A outer s H vs Q E hr h=>?_)
 ·obtain ⟨G,a,b,rfl,_⟩:=h;rfl
 ·obtain ⟨G,a,b,rfl,sg,hb,hz,hs,k⟩:=h
  refine ⟨_,(zc (zE (i:=1) YE.nd rfl (Or.inl rfl) (zq (ZL T Fs) (hr.mono (by decide)) rfl (zl (pv 0) (zl (zN T.c_COLON rfl) zb)))) (zc (z4 (yT (zeh ZG ZG zu (pv 1) (zN T.c_MOST_HEADER_NAME_SIGNS rfl))) (zg (zm zY)) zF) (zc (zE (i:=2) YE.nd rfl (Or.inl rfl) (ya (z9 (K:=K)) (pv 0) yR (yb (pv 1)))) (zc (z4 (yT (yi (yo (zbJ (K:=K) rfl) rfl T.b_all zfG (zl (Q2 rfl YE.nd (zK (K:=K) (pv 2)) (z3 (own:=[("code",3)]) (by exact rfl)) (fun _ _ _ _ _=>zX (i:=3) YE.nd rfl (Or.inl rfl)) (fun _ _ _ _ _=>yK) (fun _ _ _ _ _=>(zf3 (zq (yn T Fs) (hr.mono (by decide)) rfl (zl (pv 3) zb)) (Zn (yj Z0 (pv 3) (zN T.c_DASH rfl) (zz _)))))) zb)))) (zg (zm zY)) zF) (zg (zm (YY (zf7 T Fs) (hr.mono (by decide)) rfl (zl (zq (zlM T Fs) (hr.mono (by decide)) rfl (zl (zq (zei T Fs) (hr.mono (by decide)) rfl (zl (pv 2) zb)) zb)) (zl (pv 0) (zl (zq (zc5 T Fs) (hr.mono (by decide)) rfl (zl (ya (z9 (K:=K)) (pv 0) (yb (zU yY (pv 1) zu)) yR) zb)) zb)))))))))),fun hL=>?_⟩
  have hbH:=sg _ _ hb
  rw [zfn] at k
  refine ⟨_,rfl,a,b,58,rfl,hbH,?_⟩
  walk_at "nm"
  refine ⟨_,rfl,_,_,rfl,rfl,_,rfl,zR (fun h1=>?_) (fun h1=>?_)⟩
  ·have hi:idx 58 b < b.length:=Decidable.byContradiction fun q=>by
    have:=zeX.mpr q
    simp at h1;omega
   rw [Qp hi] at h1 ⊢
   refine ⟨_,_,rfl,rfl,_,rfl,zR (fun h2=>?_) (fun h2=>?_)⟩
   ·refine k _ G H (zJ.refl sg) ?_
    rw [if_neg]
    ·rfl
    ·intro q
     have:=q.1.2.1
     simp at h2
     omega
   ·walk_at "nx"
    simp at h1 h2
    refine ⟨_,rfl,_,rfl,_,rfl,a,_,rfl,SqL.of hbH,fun p hp=>?_⟩
    rw [zeV (n:=(idx 58 b:Int)) (idx 58 b) rfl]
    walk_at "nm"
    obtain ⟨nm,hN⟩:∃nm,nm=b.take (idx 58 b):=⟨_,rfl⟩
    rw [← hN]
    have s1:zC H (upd H p (.lst (rv nm))):=zd hp
    have hnm:zD (upd H p (.lst (rv nm))) p nm:=za
    generalize upd H p (.lst (rv nm))=H1 at s1 hnm
    have g1:=zJ.more sg s1
    refine zgt (fun x=>alnum x||x == 45) hnm (fun n H3 Q' hn s3 kk=>?_) fun H3 s3=>?_
    ·refine ⟨_,rfl,n,rfl,_,rfl,zR (fun h4=>qb ?_ (kk H3 (zC.refl _))) (fun h4=>⟨_,rfl,rfl,qb ?_ (kk H3 (zC.refl _))⟩)⟩
     ·simp [h4]
     ·simp at h4;rw [Bool.eq_iff_iff];simp [h4];omega
    ·have g3:=g1.trans (zJ.more g1.gh s3)
     refine ⟨_,rfl,zR (fun h4=>?_) (fun h4=>?_)⟩
     ·refine k _ G H3 g3 ?_
      rw [if_neg]
      ·rfl
      ·intro q
       rw [hN,q.2] at h4
       cases h4
     ·walk_at "nx"
      have h4':nm.all (fun x=>alnum x||x == 45)=true:=by rw [Bool.not_eq_true,Bool.not_eq_false'] at h4;exact h4
      rw [if_pos ⟨⟨by omega,by omega,hi⟩,hN ▸ h4'⟩,← hN] at k
      refine ⟨_,rfl,p,nm,rfl,s3 _ _ hnm,fun p4 H4 s4 hp4 e4=>⟨p4,_,rfl,e4,fun H5 s5=>?_⟩⟩
      have hb5:=s5 _ _ (s4 _ _ (s3 _ _ (s1 _ _ hbH)))
      refine ⟨_,rfl,_,rfl,_,rfl,_,_,rfl,rfl,_,rfl,a,_,rfl,SqL.of hb5,fun p6 hp6=>?_⟩
      rw [Yx (n:=(idx 58 b:Int) + 1) (idx 58 b + 1) rfl]
      refine ⟨p6,_,rfl,za,fun p7 H7 s7 hp7 e7=>fun o dx no ndx ne=>⟨o,dx,_,_,_,rfl,za,fun H10 q1 q2=>zfb (fun o H10 s10 no he=>?_) no ndx q1 q2⟩⟩
      obtain ⟨dx,he⟩:=he
      have g5:=(g3.trans (zJ.more g3.gh s4)).trans (zJ.more ((g3.trans (zJ.more g3.gh s4)).gh) s5)
      have g6:=g5.trans (zJ.more g5.gh (zd (o:=.lst (rv (b.drop (idx 58 b + 1)))) hp6))
      have g7:=g6.trans (zJ.keep g6.gh s7 hp7 e7)
      have sA:=zd (o:=.lst (rv (zfp b))) (g6.gh.free hp7)
      have sB:=zd (o:=.ins c.Header dx (JK (.str (Str.ofString (zct (low nm)))) (.ref a) (.ref p7))) (g7.gh.free no)
      refine k _ (upd (upd G p7 (.lst (rv (zfp b)))) o _) H10 (g7.trans (zJ.keep g7.gh s10 no he)) ?_
      exact ⟨o,low nm,_,_,dx,rfl,za,⟨a,rfl,sB _ _ (sA _ _ hb),hz,hs⟩,⟨p7,rfl,sB _ _ za,Nat.le_trans (zfo b) hz,zkr hs⟩,rfl⟩
  ·refine ⟨_,rfl,?_⟩
   refine k _ G H (zJ.refl sg) ?_
   rw [if_neg]
   ·rfl
   ·intro q
    rw [Qp q.1.2.2] at h1
    have:=q.1.1
    simp at h1
    omega
theorem ZQ:yG P w K mg base 1 "values_of" ["headers","kind"] (ziv c):=by
 refine Fs.d_values_of.ok J3 zjy (fun vs H Q E h=>?_) (fun f cdv A outer s H vs Q E hr h=>?_)
 ·obtain ⟨G,v,l,k,rfl,_⟩:=h;rfl
 ·obtain ⟨G,v,l,x,rfl,sg,⟨pA,vs,rfl,hp,hR⟩,hx,k⟩:=h
  refine ⟨_,(zg (zm (Q2 rfl J3.nd (zK (K:=K) (yX (pv 0))) (z3 (own:=[("header",2)]) (by exact rfl)) (fun _ _ _ _ _=>zX (i:=2) J3.nd rfl (Or.inl rfl)) (fun _ _ _ _ _=>(zc3 (zw Z0 (zj (K:=K) (pv 2) rfl) (pv 1) (zz _)))) (fun _ _ _ _ _=>(zj (K:=K) (pv 2) rfl))))),fun hL=>?_⟩
  refine zf1 ?_
  refine Qn zfL (fun _ _ _ _=>zfL.mono) (fun v H1=>v=.ref pA∧H1=H) ⟨_,rfl,rfl,rfl⟩ ?_
  rintro v H1 ⟨rfl,rfl⟩
  have hl:=Paired.length hR
  refine ⟨pA,vs,G,fun i=>(l[i]?).bind fun h=>if h.name=ascii x.1 then some h.value else none,rfl,SqL.of (sg _ _ hp),sg,fun i y G2 H2 P hy g2 hP=>?_,fun p4 us G4 H4 g4 hp4 hG4 e4 hR4=>?_⟩
  ·obtain ⟨h,hpi,a,n,lv,vv,dx,rfl,h1,h2,h3,h4⟩:=Paired.at_ hR hy
   simp only [hpi,Option.bind_some] at hP
   have h1':=g2.s _ _ h1
   have h3':=zfL.mono g2.gg h3
   rw [h4] at hP
   refine ⟨_,rfl,a,_,dx,_,_,rfl,h1',T.k_Header,T.n_Header_kind,Y1 _ _ _,_,rfl,rfl,_,rfl,zR (fun h6=>?_) (fun h6=>?_)⟩
   ·have e6:Str.ofString (zct n)=Str.ofString x.1:=by simpa using h6
    rw [if_pos ((zaF hx).mp e6)] at hP
    refine ⟨_,rfl,a,_,dx,_,_,rfl,h1',T.k_Header,T.n_Header_value,zga _ _ _,?_⟩
    exact hP _ G2 H2 (zJ.refl g2.gh) h3'
   ·have e6:¬ Str.ofString (zct n)=Str.ofString x.1:=by simpa using h6
    rw [if_neg fun q=>e6 ((zaF hx).mpr q)] at hP
    exact hP G2 H2 (zJ.refl g2.gh)
  ·rw [hl,Y7,zms] at hR4
   refine k _ (upd G4 p4 (.lst us)) H4 (g4.pub hp4 hG4 e4) ⟨p4,us,rfl,za,Paired.mapP hR4 fun v y=>zfL.mono (zd hG4)⟩
theorem yy:yG P w K mg base 2 "only_value" ["headers","kind"] (zgN c):=by
 refine Fs.d_only_value.ok zb2 zhQ (fun vs H Q E h=>?_) (fun f cdv A outer s H vs Q E hr h=>?_)
 ·obtain ⟨G,v,l,k,rfl,_⟩:=h;rfl
 ·obtain ⟨G,v,l,x,rfl,sg,hv,hx,k⟩:=h
  refine ⟨_,(zc (zE (i:=2) zb2.nd rfl (Or.inl rfl) (zq (ZQ T Fs) (hr.mono (by decide)) rfl (zl (pv 0) (zl (pv 1) zb)))) (zg (zm (yI (zw Z0 (yo (zx (K:=K)) rfl T.b_len PySem.boot_len (zl (pv 2) zb)) zu (zz _)) (yE (zI (K:=K)) (pv 2) zu (fun _ _=>rfl)) (zO zb))))),fun hL=>?_⟩
  refine ⟨_,rfl,_,rfl,G,v,l,x,rfl,sg,hv,hx,fun v1 G1 H1 g1 ⟨p,vs,ev,hp,hR⟩=>?_⟩
  walk_at "nm"
  subst ev
  have hpH:=g1.gh _ _ hp
  have hl:=Paired.length hR
  refine ⟨_,rfl,p,_,rfl,.inl (SqL.of hpH),rfl,_,rfl,zR (fun h1=>?_) (fun h1=>?_)⟩
  ·have h1':vs.length=1:=by simp at h1;omega
   unfold zZ at k
   generalize valuesOf l x.1=us at hl hR k
   obtain ⟨u,b,rfl,rfl,r⟩:=pr1 hR h1'
   refine ⟨_,rfl,p,_,_,_,rfl,rfl,SqL.of hpH,yk (j:=0) rfl,?_⟩
   exact k _ G1 H1 g1 r
  ·have h1':vs.length≠1:=by simp at h1;omega
   refine ⟨Nat.zero_le _,fun q hq=>?_⟩
   refine k _ (upd G1 q (.lst (rv []))) _ (g1.trans (zJ.keep g1.gh (zd hq) hq za)) ?_
   have:zZ l x.1=[]:=by
    unfold zZ
    split
    ·rename_i e
     rw [e] at hl
     exact absurd hl h1'
    ·rfl
   rw [this]
   exact ⟨q,rfl,za,by simp,rfl⟩
theorem zhv:yG P w K mg base 1 "is_call_id" ["row"] zgS:=by
 refine Fs.d_is_call_id.ok zhb zhV (fun vs H Q E h=>?_) (fun f cdv A outer s H vs Q E hr h=>?_)
 ·obtain ⟨a,b,rfl,_⟩:=h;rfl
 ·obtain ⟨a,b,rfl,hb,k⟩:=h
  refine ⟨_,(zg (zm (Yb (ZZ ZG ZG zu (yo (zx (K:=K)) rfl T.b_len PySem.boot_len (zl (pv 0) zb)) (zN T.c_MOST_CALL_ID_SIGNS rfl)) (Zn (yj (zcc (K:=K)) (zN T.c_BLANK rfl) (pv 0) rfl))))),fun hL=>?_⟩
  refine ⟨_,rfl,a,_,rfl,.inl (SqL.of hb),_,_,rfl,rfl,_,rfl,zR (fun h1=>?_) (fun h1=>?_)⟩
  ·refine ⟨_,_,rfl,rfl,_,rfl,zR (fun h2=>?_) (fun h2=>?_)⟩
   ·refine ⟨_,rfl,a,_,rfl,.inl (SqL.of hb),rfl,zpw b,?_⟩
    refine qb ?_ k
    simp only [zi,decide_eq_true_eq] at h1 h2
    unfold idOk
    rw [show (b !=[])=true by cases b with | nil=>simp at h1 | cons=>rfl,decide_eq_true (show b.length≤128 by omega)]
    simp only [if_true]
    rw [show (V.int 32)=V.int ((32:Nat):Int) from rfl,zrb]
    rfl
   ·refine qb ?_ k
    simp only [zi,decide_eq_true_eq] at h1 h2
    unfold idOk
    rw [decide_eq_false (show ¬ b.length≤128 by omega)]
    simp
  ·refine ⟨_,rfl,zR (fun h2=>?_) (fun h2=>?_)⟩
   ·cases h2
   ·refine qb ?_ k
    simp only [zi,decide_eq_true_eq] at h1
    unfold idOk
    rw [show b=[] by cases b with | nil=>rfl | cons=>simp at h1;omega]
    rfl
theorem zlO:yG P w K mg base 3 "is_hops" ["row"] zlp:=by
 refine Fs.d_is_hops.ok zlx zmg (fun vs H Q E h=>?_) (fun f cdv A outer s H vs Q E hr h=>?_)
 ·obtain ⟨a,b,rfl,_⟩:=h;rfl
 ·obtain ⟨a,b,rfl,hb,k⟩:=h
  refine ⟨_,(zg (zm (Yb (zq (Zo T Fs) (hr.mono (by decide)) rfl (zl (pv 0) (zl zu zb))) (Zn (yj ZG (zq (yz T Fs) (hr.mono (by decide)) rfl (zl (pv 0) zb)) (zN T.c_MOST_HOPS rfl) (zz _)))))),fun hL=>?_⟩
  refine ⟨_,rfl,a,b,3,rfl,hb,fun H1 s1=>⟨_,rfl,zR (fun h1=>?_) (fun h1=>?_)⟩⟩
  ·refine ⟨_,rfl,a,b,rfl,s1 _ _ hb,(z8.mp h1).2.2,_,_,rfl,rfl,qb ?_ (k H1 s1)⟩
   rw [h1,Bool.eq_iff_iff]
   simp
   omega
  ·refine qb ?_ (k H1 s1)
   simp at h1
   rw [h1];rfl
end
section
variable {P:Program} {w:World} {K:PySem.W.Frag} {mg:Str→Option Value} {base:Heap} {c:Cl} {le ln:Addr} (T:Txt K mg c le ln) (Fs:YM K mg c)
structure MoF (c:Cl) (G:Hp) (line:B) (first:First) (l:List Header) (r:B) (fv hv bv v3 v4 v5 v6 v7 v8:V):Prop where
 fi:zmm c G fv line first
 hd:zL (zbP c) G hv l
 bd:∃a,bv=.ref a∧zD G a r
 vi:zL (Ji c) G v3 ((valuesOf l "via").map viaOf)
 fr:zgn c G v4 (namedOf (zZ l "from"))
 to:zgn c G v5 (namedOf (zZ l "to"))
 ct:zL (zdz c) G v6 ((valuesOf l "contact").map contactOf)
 id:zfL G v7 (zZ l "call-id")
 sq:zfL G v8 (zZ l "cseq")
noncomputable def zmk (c:Cl) (G:Hp) (v:V) (line:B) (first:First) (l:List Header) (r:B):Prop:=∃a dx fv hv bv v3 v4 v5 v6 v7 v8,v=.ref a∧G a=some (.ins c.Message dx (yw fv hv bv v3 v4 v5 v6 v7 v8))∧MoF c G line first l r fv hv bv v3 v4 v5 v6 v7 v8
theorem zgn.mono {c:Cl} {G G':Hp} {v:V} {x:Option Named} (s:zC G G') (h:zgn c G v x):zgn c G' v x:=by
 cases x with
 | none=>exact h
 | some x=>exact zmo.mono s h
theorem zdz.mono {c:Cl} {G G':Hp} {v:V} {x:Option Contact} (s:zC G G') (h:zdz c G v x):zdz c G' v x:=by
 cases x with
 | none=>exact h
 | some x=>exact znS.mono s h
theorem Ji.mono {c:Cl} {G G':Hp} {v:V} {x:Option Via} (s:zC G G') (h:Ji c G v x):Ji c G' v x:=by
 cases x with
 | none=>exact h
 | some x=>exact zid.mono s h
theorem MoF.mono {c:Cl} {G G':Hp} {line:B} {first:First} {l:List Header} {r:B} {fv hv bv v3 v4 v5 v6 v7 v8:V} (s:zC G G') (h:MoF c G line first l r fv hv bv v3 v4 v5 v6 v7 v8):MoF c G' line first l r fv hv bv v3 v4 v5 v6 v7 v8:=by
 obtain ⟨h1,h2,⟨a,h3,h4⟩,h5,h6,h7,h8,h9,h10⟩:=h
 exact ⟨h1.mono s,zL.mono (R:=zbP c) (fun _ _ _ _=>zbP.mono) s h2,⟨a,h3,s _ _ h4⟩,zL.mono (R:=Ji c) (fun _ _ _ _=>Ji.mono) s h5,h6.mono s,h7.mono s,zL.mono (R:=zdz c) (fun _ _ _ _=>zdz.mono) s h8,h9.mono s,h10.mono s⟩
noncomputable def zpT:First→Bool
 | .answer=>false
 | .request _ _ _=>true
noncomputable def zls (b mm:B):Bool:=match splitBy 32 b [] with
 | [d,m]=>zG d 9&&(methodOk m&&(decide (mm=[])||decide (m=mm)))
 | _=>false
noncomputable def zng (l:List Header) (r:B):Bool:=match valuesOf l "content-length" with
 | []=>true
 | [v]=>zG v 9&&decide (natOf v=r.length)
 | _=>false
noncomputable def zhK (l:List Header):Bool:=match valuesOf l "expires" with
 | []=>true
 | [v]=>zG v 9
 | _=>false
noncomputable def zrE (l:List Header):V:=match valuesOf l "expires" with
 | [v]=>.int (natOf v:Nat)
 | _=>.non
noncomputable abbrev zgR (c:Cl):Sp:=fun vs H Q _=>∃G v line first l r,vs=[v]∧zC G H∧zmk c G v line first l r∧∀H',zC H H'→Q (.bl (zpT first)) H'
noncomputable abbrev zcM (c:Cl):Sp:=fun vs H Q _=>∃G v line first l r,vs=[v]∧zC G H∧zmk c G v line first l r∧∀H',zC H H'→Q (.bl (zng l r)) H'
noncomputable abbrev zbW (c:Cl):Sp:=fun vs H Q _=>∃G v line first l r,vs=[v]∧zC G H∧zmk c G v line first l r∧∀H',zC H H'→Q (.bl (zhK l)) H'
noncomputable abbrev zbR (c:Cl):Sp:=fun vs H Q _=>∃G v line first l r q,vs=[v]∧zC G H∧zmk c G v line first l r∧cseqOf (zZ l "cseq")=some q∧∀H',zC H H'→Q (.int (q.1:Nat)) H'
noncomputable abbrev zlq (c:Cl):Sp:=fun vs H Q _=>∃G v line first l r,vs=[v]∧zC G H∧zmk c G v line first l r∧zG (zZ l "max-forwards") 3=true∧∀H',zC H H'→Q (.int (natOf (zZ l "max-forwards"):Nat)) H'
noncomputable abbrev zgU (c:Cl):Sp:=fun vs H Q _=>∃G v line first l r,vs=[v]∧zC G H∧zmk c G v line first l r∧zhK l=true∧∀H',zC H H'→Q (zrE l) H'
noncomputable abbrev zfP:Sp:=fun vs H Q _=>∃a b m mm,vs=[.ref a,.ref m]∧zD H a b∧b.length≤100000∧zD H m mm∧∀H',zC H H'→Q (.bl (zls b mm)) H'
theorem zfc {m:B} (h:methodOk m=true):m≠[]:=by
 rintro rfl
 exact absurd h (by decide +kernel)
include T Fs
theorem zck:yG P w K mg base 1 "is_request" ["message"] (zgR c):=by
 refine Fs.d_is_request.ok zha zhU (fun vs H Q E h=>?_) (fun f cdv A outer s H vs Q E hr h=>?_)
 ·obtain ⟨G,v,line,first,l,r,rfl,_⟩:=h;rfl
 ·obtain ⟨G,v,line,first,l,r,rfl,sg,⟨a,dx,fv,hv,bv,v3,v4,v5,v6,v7,v8,rfl,ho,mf⟩,k⟩:=h
  refine ⟨_,(zg (zm (yj (Qr (K:=K) hr.units) (zj (K:=K) (zj (K:=K) (pv 0) rfl) rfl) (zO zb) (zz _)))),fun hL=>?_⟩
  refine ⟨_,rfl,a,_,dx,_,_,rfl,sg _ _ ho,T.k_Message,T.n_Message_first,ye _ _ _ _ _ _ _ _ _,?_⟩
  have hf:=mf.fi
  cases first with
  | answer=>
   obtain ⟨f,lA,mA,dx',rfl,h1,h2,h3⟩:=hf
   refine ⟨f,_,dx',_,_,rfl,sg _ _ h1,T.k_First,T.n_First_method,yC _ _ _,(by decide),fun q hq=>⟨mA,q,_,[],rfl,rfl,SqL.of ((zd hq) _ _ (sg _ _ h3)),SqL.of za,?_⟩⟩
   exact k _ (zd hq)
  | request m t x=>
   obtain ⟨f,lA,mA,tv,dx',rfl,h1,h2,h3,h4,h5,h6⟩:=hf
   refine ⟨f,_,dx',_,_,rfl,sg _ _ h1,T.k_First,T.n_First_method,yC _ _ _,(by decide),fun q hq=>⟨mA,q,_,[],rfl,rfl,SqL.of ((zd hq) _ _ (sg _ _ h3)),SqL.of za,?_⟩⟩
   refine qb ?_ (k _ (zd hq))
   rw [decide_eq_false (zfc h5)]
   rfl
theorem zc9:yG P w K mg base 3 "has_fit_length" ["message"] (zcM c):=by
 refine Fs.d_has_fit_length.ok Ja zdu (fun vs H Q E h=>?_) (fun f cdv A outer s H vs Q E hr h=>?_)
 ·obtain ⟨G,v,line,first,l,r,rfl,_⟩:=h;rfl
 ·obtain ⟨G,v,line,first,l,r,rfl,sg,⟨a,dx,fv,hv,bv,v3,v4,v5,v6,v7,v8,rfl,ho,mf⟩,k⟩:=h
  refine ⟨_,(zc (zE (i:=1) Ja.nd rfl (Or.inl rfl) (zq (ZQ T Fs) (hr.mono (by decide)) rfl (zl (zj (K:=K) (pv 0) rfl) (zl (zN T.c_CONTENT_LENGTH rfl) zb)))) (zc (z4 (zw (zaw (K:=K) hr.units0) (pv 1) (zO zb) (zz _)) (zg (zm zeZ)) zF) (zg (zm (Yb (yj Z0 (yo (zx (K:=K)) rfl T.b_len PySem.boot_len (zl (pv 1) zb)) zu (zz _)) (Yb (zq (Zo T Fs) (hr.mono (by decide)) rfl (zl (yE (zI (K:=K)) (pv 1) zu (fun _ _=>rfl)) (zl (zN T.c_MOST_NUMBER_DIGITS rfl) zb))) (Zn (yj Z0 (zq (yz T Fs) (hr.mono (by decide)) rfl (zl (yE (zI (K:=K)) (pv 1) zu (fun _ _=>rfl)) zb)) (yo (zx (K:=K)) rfl T.b_len PySem.boot_len (zl (zj (K:=K) (pv 0) rfl) zb)) (zz _))))))))),fun hL=>?_⟩
  refine ⟨_,rfl,a,_,dx,_,_,rfl,sg _ _ ho,T.k_Message,T.n_Message_headers,zW _ _ _ _ _ _ _ _ _,G,_,l,("content-length","l"),rfl,sg,mf.hd,(by decide +kernel),fun v1 G1 H1 g1 ⟨p,vs,ev,hp,hR⟩=>?_⟩
  walk_at "nm"
  subst ev
  have hpH:=g1.gh _ _ hp
  refine ⟨_,rfl,(by decide),fun q hq=>⟨p,q,_,rfl,rfl,SqL.of ((zd hq) _ _ hpH),SqL.of za,_,rfl,?_⟩⟩
  have s2:=g1.hh.trans (zd (o:=.lst []) hq)
  have hp2:=(zd (o:=.lst []) hq) _ _ hpH
  have sG2:=g1.gh.trans (zd (o:=.lst []) hq)
  unfold zng at k
  simp only at hR
  generalize valuesOf l "content-length"=us at hR k
  generalize upd H1 q (.lst [])=H2 at s2 hp2 sG2 ⊢
  refine zR (fun h1=>?_) (fun h1=>?_)
  ·have e:vs=[]:=by simpa using h1
   subst e
   cases hR
   exact k H2 s2
  ·walk_at "nx"
   refine ⟨_,rfl,p,_,rfl,.inl (SqL.of hp2),rfl,_,rfl,zR (fun h2=>?_) (fun h2=>?_)⟩
   ·have h2':vs.length=1:=by simp at h2;omega
    obtain ⟨u,b,rfl,rfl,ub,eu,hu,hz,hs⟩:=pr1 hR h2'
    subst eu
    obtain ⟨bA,eb,hb⟩:=mf.bd
    have hb2:=s2 _ _ (sg _ _ hb)
    refine ⟨_,rfl,p,_,_,_,rfl,rfl,SqL.of hp2,yk (j:=0) rfl,ub,b,9,rfl,sG2 _ _ hu,fun H3 s3=>⟨_,rfl,zR (fun h3=>?_) (fun h3=>?_)⟩⟩
    ·refine ⟨_,rfl,p,_,_,_,rfl,rfl,SqL.of (s3 _ _ hp2),yk (j:=0) rfl,ub,b,rfl,s3 _ _ (sG2 _ _ hu),(z8.mp h3).2.2,?_⟩
     refine ⟨_,rfl,a,_,dx,_,_,rfl,s3 _ _ (s2 _ _ (sg _ _ ho)),T.k_Message,T.n_Message_body,Q4 _ _ _ _ _ _ _ _ _,bA,_,eb ▸ rfl,.inl (SqL.of (s3 _ _ hb2)),rfl,qb ?_ (k H3 (s2.trans s3))⟩
     simp only [h3,Bool.true_and,zi]
     rw [Bool.eq_iff_iff]
     simp
     omega
    ·refine qb ?_ (k H3 (s2.trans s3))
     simp at h3
     simp only [h3,Bool.false_and]
   ·refine qb ?_ (k H2 s2)
    match vs,us,hR with
    | [],[],_=>exact absurd (by simp) h1
    | [_],[_],_=>simp at h2
    | _::_::_,_::_::_,_=>simp
theorem zcl:yG P w K mg base 3 "has_fit_expires" ["message"] (zbW c):=by
 refine Fs.d_has_fit_expires.ok QE zcC (fun vs H Q E h=>?_) (fun f cdv A outer s H vs Q E hr h=>?_)
 ·obtain ⟨G,v,line,first,l,r,rfl,_⟩:=h;rfl
 ·obtain ⟨G,v,line,first,l,r,rfl,sg,⟨a,dx,fv,hv,bv,v3,v4,v5,v6,v7,v8,rfl,ho,mf⟩,k⟩:=h
  refine ⟨_,(zc (zE (i:=1) QE.nd rfl (Or.inl rfl) (zq (ZQ T Fs) (hr.mono (by decide)) rfl (zl (zj (K:=K) (pv 0) rfl) (zl (zN T.c_EXPIRES rfl) zb)))) (zg (zm (zf3 (yj (zaw (K:=K) hr.units0) (pv 1) (zO zb) (zz _)) (Zn (Yb (yj Z0 (yo (zx (K:=K)) rfl T.b_len PySem.boot_len (zl (pv 1) zb)) zu (zz _)) (Zn (zq (Zo T Fs) (hr.mono (by decide)) rfl (zl (yE (zI (K:=K)) (pv 1) zu (fun _ _=>rfl)) (zl (zN T.c_MOST_NUMBER_DIGITS rfl) zb)))))))))),fun hL=>?_⟩
  refine ⟨_,rfl,a,_,dx,_,_,rfl,sg _ _ ho,T.k_Message,T.n_Message_headers,zW _ _ _ _ _ _ _ _ _,G,_,l,("expires","expires"),rfl,sg,mf.hd,(by decide +kernel),fun v1 G1 H1 g1 ⟨p,vs,ev,hp,hR⟩=>?_⟩
  walk_at "nm"
  subst ev
  have hpH:=g1.gh _ _ hp
  refine ⟨_,rfl,(by decide),fun q hq=>⟨p,q,_,rfl,rfl,SqL.of ((zd hq) _ _ hpH),SqL.of za,_,rfl,?_⟩⟩
  have s2:=g1.hh.trans (zd (o:=.lst []) hq)
  have hp2:=(zd (o:=.lst []) hq) _ _ hpH
  have sG2:=g1.gh.trans (zd (o:=.lst []) hq)
  unfold zhK at k
  simp only at hR
  generalize valuesOf l "expires"=us at hR k
  generalize upd H1 q (.lst [])=H2 at s2 hp2 sG2 ⊢
  refine zR (fun h1=>?_) (fun h1=>?_)
  ·have e:vs=[]:=by simpa using h1
   subst e
   cases hR
   exact k H2 s2
  ·refine ⟨_,rfl,p,_,rfl,.inl (SqL.of hp2),rfl,_,rfl,zR (fun h2=>?_) (fun h2=>?_)⟩
   ·have h2':vs.length=1:=by simp at h2;omega
    obtain ⟨u,b,rfl,rfl,ub,eu,hu,hz,hs⟩:=pr1 hR h2'
    subst eu
    refine ⟨_,rfl,p,_,_,_,rfl,rfl,SqL.of hp2,yk (j:=0) rfl,ub,b,9,rfl,sG2 _ _ hu,fun H3 s3=>k H3 (s2.trans s3)⟩
   ·refine qb ?_ (k H2 s2)
    match vs,us,hR with
    | [],[],_=>exact absurd (by simp) h1
    | [_],[_],_=>simp at h2
    | _::_::_,_::_::_,_=>simp
theorem QF:yG P w K mg base 2 "sequence_number" ["message"] (zbR c):=by
 refine Fs.d_sequence_number.ok zb0 zcx (fun vs H Q E h=>?_) (fun f cdv A outer s H vs Q E hr h=>?_)
 ·obtain ⟨G,v,line,first,l,r,q,rfl,_⟩:=h;rfl
 ·obtain ⟨G,v,line,first,l,r,q,rfl,sg,⟨a,dx,fv,hv,bv,v3,v4,v5,v6,v7,v8,rfl,ho,mf⟩,hq,k⟩:=h
  refine ⟨_,(zg (zm (zq (yz T Fs) (hr.mono (by decide)) rfl (zl (yE (zI (K:=K)) (zq (Qs T Fs) (hr.mono (by decide)) rfl (zl (zj (K:=K) (pv 0) rfl) (zl (zN T.c_BLANK rfl) zb))) zu (fun _ _=>rfl)) zb)))),fun hL=>?_⟩
  obtain ⟨sA,es,hs,hz,_⟩:=mf.sq
  subst es
  refine ⟨_,rfl,a,_,dx,_,_,rfl,sg _ _ ho,T.k_Message,T.n_Message_sequence,Zi _ _ _ _ _ _ _ _ _,sA,_,32,rfl,sg _ _ hs,hz,fun p ps H2 s2 hp e2 hf hR=>?_⟩
  rw [zjo] at hq
  generalize splitBy 32 (zZ l "cseq") []=us at hR hq
  match ps,us,hR,e2,hq with
  | [],[],_,_,hq=>cases hq
  | [_],[_],_,_,hq=>cases hq
  | _::_::_::_,_::_::_::_,_,_,hq=>cases hq
  | [u1,u2],[b1,b2],.cons r1 _,e2,hq=>
   simp only at hq
   split at hq
   ·rename_i h1
    cases hq
    refine ⟨p,_,_,_,rfl,rfl,SqL.of e2,yk (j:=0) rfl,u1,b1,rfl,r1,(z8.mp h1.1).2.2,k H2 s2⟩
   ·cases hq
theorem zgy:yG P w K mg base 3 "hops_of" ["request"] (zlq c):=by
 refine Fs.d_hops_of.ok zly zmh (fun vs H Q E h=>?_) (fun f cdv A outer s H vs Q E hr h=>?_)
 ·obtain ⟨G,v,line,first,l,r,rfl,_⟩:=h;rfl
 ·obtain ⟨G,v,line,first,l,r,rfl,sg,⟨a,dx,fv,hv,bv,v3,v4,v5,v6,v7,v8,rfl,ho,mf⟩,hd,k⟩:=h
  refine ⟨_,(zg (zm (zq (yz T Fs) (hr.mono (by decide)) rfl (zl (zq (yy T Fs) (hr.mono (by decide)) rfl (zl (zj (K:=K) (pv 0) rfl) (zl (zN T.c_MAX_FORWARDS rfl) zb))) zb)))),fun hL=>?_⟩
  refine ⟨_,rfl,a,_,dx,_,_,rfl,sg _ _ ho,T.k_Message,T.n_Message_headers,zW _ _ _ _ _ _ _ _ _,G,_,l,("max-forwards","max-forwards"),rfl,sg,mf.hd,(by decide +kernel),fun v1 G1 H1 g1 ⟨p,ev,hp,hz,_⟩=>?_⟩
  subst ev
  refine ⟨p,_,rfl,g1.gh _ _ hp,(z8.mp hd).2.2,k H1 g1.hh⟩
theorem zcm:yG P w K mg base 3 "expires_of" ["message"] (zgU c):=by
 refine Fs.d_expires_of.ok zb5 zhX (fun vs H Q E h=>?_) (fun f cdv A outer s H vs Q E hr h=>?_)
 ·obtain ⟨G,v,line,first,l,r,rfl,_⟩:=h;rfl
 ·obtain ⟨G,v,line,first,l,r,rfl,sg,⟨a,dx,fv,hv,bv,v3,v4,v5,v6,v7,v8,rfl,ho,mf⟩,hd,k⟩:=h
  refine ⟨_,(zc (zE (i:=1) zb5.nd rfl (Or.inl rfl) (zq (yy T Fs) (hr.mono (by decide)) rfl (zl (zj (K:=K) (pv 0) rfl) (zl (zN T.c_EXPIRES rfl) zb)))) (zg (zm (yI (zw (yd (K:=K) hr.units) (pv 1) (zO zb) (zz _)) zY (zq (yz T Fs) (hr.mono (by decide)) rfl (zl (pv 1) zb)))))),fun hL=>?_⟩
  refine ⟨_,rfl,a,_,dx,_,_,rfl,sg _ _ ho,T.k_Message,T.n_Message_headers,zW _ _ _ _ _ _ _ _ _,G,_,l,("expires","expires"),rfl,sg,mf.hd,(by decide +kernel),fun v1 G1 H1 g1 ⟨p,ev,hp,hz,_⟩=>?_⟩
  walk_at "nm"
  subst ev
  refine ⟨_,rfl,(by decide),fun q hq=>⟨p,q,_,[],rfl,rfl,SqL.of ((zd hq) _ _ (g1.gh _ _ hp)),SqL.of za,_,rfl,?_⟩⟩
  have s2:=g1.hh.trans (zd (o:=.lst []) hq)
  have hp2:=(zd (o:=.lst []) hq) _ _ (g1.gh _ _ hp)
  generalize upd H1 q (.lst [])=H2 at s2 hp2 ⊢
  unfold zrE at k
  unfold zhK at hd
  unfold zZ at hp2 ⊢
  simp only at hp2 ⊢
  generalize valuesOf l "expires"=us at hd k hp2 ⊢
  match us,hd,k,hp2 with
  | [],_,k,hp2=>exact zR (fun h1=>k H2 s2) (fun h1=>absurd (by simp) h1)
  | [b],hd,k,hp2=>
   refine zR (fun h1=>?_) (fun h1=>?_)
   ·have e:b=[]:=by simpa using h1
    subst e
    exact absurd hd (by decide +kernel)
   ·exact ⟨_,rfl,p,b,rfl,hp2,(z8.mp hd).2.2,k H2 s2⟩
  | _::_::_,hd,_,_=>cases hd
theorem zf4:yG P w K mg base 3 "is_sequence" ["row","request_method"] zfP:=by
 refine Fs.d_is_sequence.ok za1 zgf (fun vs H Q E h=>?_) (fun f cdv A outer s H vs Q E hr h=>?_)
 ·obtain ⟨a,b,m,mm,rfl,_⟩:=h;rfl
 ·obtain ⟨a,b,m,mm,rfl,hb,hz,hm,k⟩:=h
  refine ⟨_,(zc (zE (i:=2) za1.nd rfl (Or.inl rfl) (zq (Qs T Fs) (hr.mono (by decide)) rfl (zl (pv 0) (zl (zN T.c_BLANK rfl) zb)))) (zc (z4 (Za (PW.pt (Z9 (zw ziW (yo (zx (K:=K)) rfl T.b_len PySem.boot_len (zl (pv 2) zb)) zu (zz _)) (Z9 (yT (yi (zq (Zo T Fs) (hr.mono (by decide)) rfl (zl (yE (zI (K:=K)) (pv 2) zu (fun _ _=>rfl)) (zl (zN T.c_MOST_NUMBER_DIGITS rfl) zb))))) (Zm (yT (yi (zq (zdF T Fs) (hr.mono (by decide)) rfl (zl (yE (zI (K:=K)) (pv 2) zu (fun _ _=>rfl)) zb))))))))) (zg (zm zeZ)) zF) (zg (zm (zf3 (yj (yd (K:=K) hr.units) (pv 1) (zO zb) (zz _)) (Zn (yj (yd (K:=K) hr.units) (yE (zI (K:=K)) (pv 2) zu (fun _ _=>rfl)) (pv 1) (zz _)))))))),fun hL=>?_⟩
  refine ⟨_,rfl,a,b,32,rfl,hb,hz,fun p ps H2 s2 hp e2 hf hR=>?_⟩
  walk_at "nm"
  unfold zls at k
  generalize splitBy 32 b []=us at hR k
  have hl:=Paired.length hR
  refine ⟨fun t H3=>zC H2 H3∧(t=true↔¬ ∃d m',us=[d,m']∧zG d 9=true∧methodOk m'=true),?_,fun t H3 ⟨s3,ht⟩=>?_⟩
  ·refine ⟨_,rfl,p,_,rfl,.inl (SqL.of e2),rfl,_,rfl,zR (fun h1=>⟨zC.refl _,?_⟩) (fun h1=>?_)⟩
   ·refine ⟨fun _ ⟨d,m',e,_⟩=>?_,fun _=>rfl⟩
    rw [e] at hl
    simp at h1 hl
    omega
   ·have h1':ps.length=2:=by simp at h1;omega
    obtain ⟨u1,u2,b1,b2,rfl,rfl,r1,r2⟩:=pr2 hR h1'
    refine ⟨_,rfl,p,_,_,_,rfl,rfl,SqL.of e2,yk (j:=0) rfl,u1,b1,9,rfl,r1,fun H3 s3=>⟨_,rfl,zR (fun h3=>⟨s3,?_⟩) (fun h3=>?_)⟩⟩
    ·have h3':zG b1 9=false:=by simpa using h3
     simp [h3']
    ·have h3':zG b1 9=true:=by simpa using h3
     refine ⟨_,rfl,p,_,_,_,rfl,rfl,SqL.of (s3 _ _ e2),yk (j:=1) rfl,u2,b2,rfl,s3 _ _ r2,fun H4 s4=>⟨_,rfl,s3.trans s4,?_⟩⟩
     simp [h3']
  ·refine zR (fun h1=>qb ?_ (k H3 (s2.trans s3))) (fun h1=>?_)
   ·have hno:=ht.mp h1
    split
    ·rename_i d m' _
     have:¬ (zG d 9=true∧methodOk m'=true):=fun q=>hno ⟨d,m',rfl,q⟩
     rw [Bool.eq_iff_iff]
     simp
     intro q1 q2
     exact absurd ⟨q1,q2⟩ this
    ·rfl
   ·walk_at "nx"
    obtain ⟨d,m',rfl,hd,hm'⟩:∃d m',us=[d,m']∧zG d 9=true∧methodOk m'=true:=Classical.byContradiction fun q=>h1 (ht.mpr q)
    simp only [hd,hm',Bool.true_and] at k
    obtain ⟨u1,u2,rfl,r1,r2⟩:=pq2 hR
    refine ⟨_,rfl,(by decide),fun q hq=>⟨m,q,_,[],rfl,rfl,SqL.of ((zd hq) _ _ (s3 _ _ (s2 _ _ hm))),SqL.of za,_,rfl,?_⟩⟩
    have s4:=s3.trans (zd (o:=.lst []) hq)
    generalize upd H3 q (.lst [])=H4 at s4 ⊢
    refine zR (fun h2=>qb ?_ (k H4 (s2.trans s4))) (fun h2=>?_)
    ·rw [h2];rfl
    ·refine ⟨_,rfl,p,_,_,_,rfl,rfl,SqL.of (s4 _ _ e2),yk (j:=1) rfl,_,rfl,u2,m,_,_,rfl,rfl,SqL.of (s4 _ _ r2),SqL.of (s4 _ _ (s2 _ _ hm)),qb ?_ (k H4 (s2.trans s4))⟩
     rw [Bool.not_eq_true] at h2
     rw [h2];rfl
end
section
variable {P:Program} {w:World} {K:PySem.W.Frag} {mg:Str→Option Value} {base:Heap} {c:Cl} {le ln:Addr} (T:Txt K mg c le ln) (Fs:YM K mg c)
structure Gr (p:Addr) (G H G' H':Hp):Prop where
 gg:zC G G'
 hh:∀b o,H b=some o→b≠p→H' b=some o
 gh:zC G' H'
 np:G' p=none
 sep:∀b,G b=none→H b≠none→G' b=none
theorem Gr.refl {p:Addr} {G H:Hp} (s:zC G H) (n:G p=none):Gr p G H G H:=⟨zC.refl _,fun _ _ e _=>e,s,n,fun _ h _=>h⟩
theorem Gr.call {p:Addr} {G H G1 H1 G2 H2:Hp} (a:Gr p G H G1 H1) (b:zJ G1 H1 G2 H2) (e:H1 p≠none):Gr p G H G2 H2:=by
 refine ⟨a.gg.trans b.gg,fun x o h n=>b.hh _ _ (a.hh x o h n),b.gh,b.sep p a.np e,fun x h1 h2=>b.sep x (a.sep x h1 h2) ?_⟩
 by_cases q:x=p
 ·subst q;exact e
 ·cases h:H x with
  | none=>exact absurd h h2
  | some o=>rw [a.hh x o h q];simp
theorem Gr.set {p:Addr} {G H G1 H1:Hp} {o:HO} (a:Gr p G H G1 H1):Gr p G H G1 (upd H1 p o):=by
 refine ⟨a.gg,fun x u h n=>by rw [zv n];exact a.hh x u h n,fun x u h=>?_,a.np,a.sep⟩
 have n:x≠p:=by
  rintro rfl
  rw [a.np] at h
  cases h
 rw [zv n]
 exact a.gh x u h
theorem zr9 {K:PySem.W.Frag} {ta tv:TE} {f:Str} {D:zk9} {σ:St} {H:Hp} (h:tv σ H fun y H1=>ta σ H1 fun x H2=>∃a C dx fs,x=.ref a∧H2 a=some (.ins C dx fs)∧Cls K C∧zS K C f∧fs.length < 1000∧D.nx σ (upd H2 a (.ins C dx (yH f y fs)))):zry K ta tv f D σ H:=h
theorem znx {K:PySem.W.Frag} {ta tv:TE} {f:Str} {R:TS} {D:zk9} {σ:St} {H:Hp} (h:tv σ H fun y H1=>ta σ H1 fun x H2=>∃a C dx fs,x=.ref a∧H2 a=some (.ins C dx fs)∧Cls K C∧zS K C f∧fs.length < 1000∧R D σ (upd H2 a (.ins C dx (yH f y fs)))):zsm (zry K ta tv f) R D σ H:=h
theorem zcb {β:Type} {G:Hp} {C:Addr} {R:V→Option β→Prop} (h0:∀v,R v none→v=.non) (h1:∀v x,R v (some x)→∃a dx fs,v=.ref a∧G a=some (.ins C dx fs)):∀{vs:List V} {ys:List (Option β)},Paired R vs ys→
  (∀v ∈ vs,v=.non∨∃a dx fs,v=.ref a∧G a=some (.ins C dx fs))∧(V.non ∈ vs↔none ∈ ys)
 | _,_,.nil=>⟨fun v h=>(by cases h),by simp⟩
 | _,none::_,.cons r t=>by
  obtain ⟨o1,o2⟩:=zcb h0 h1 t
  have:=h0 _ r
  subst this
  refine ⟨fun v h=>?_,by simp⟩
  rcases List.mem_cons.mp h with rfl | h
  ·exact .inl rfl
  ·exact o1 v h
 | _,some x::_,.cons r t=>by
  obtain ⟨o1,o2⟩:=zcb h0 h1 t
  obtain ⟨a,dx,fs,rfl,e⟩:=h1 _ _ r
  refine ⟨fun v h=>?_,by simp [o2]⟩
  rcases List.mem_cons.mp h with rfl | h
  ·exact .inr ⟨a,dx,fs,rfl,e⟩
  ·exact o1 v h
theorem zo9 {K:PySem.W.Frag} {tl0 te:TE} {j:Nat} {σ:St} {H:Hp} {Q:VK} {β:Type} {us:List B} {f:B→β} {G:Hp} (R:Hp→V→β→Prop) (mono:∀G G' v y,zC G G'→R G v y→R G' v y)
  (h1:∀Q':VK,(∀v G1 H1,zJ G H G1 H1→zL zfL G1 v us→Q' v H1)→tl0 σ H Q')
  (h2:∀u x G2 H2 Q',zC G2 H2→zfL G2 u x→(∀v G3 H3,zJ G2 H2 G3 H3→R G3 v (f x)→Q' v H3)→te ((ZO σ [j]).set j (some u)) H2 Q')
  (hq:∀v G' H',zJ G H G' H'→zL R G' v (us.map f)→Q v H'):tLc (zfm K (zrw tl0)) (Jf j) ziq te [j] σ H Q:=by
 refine Qn R mono (fun v H1=>∃G1,zJ G H G1 H1∧zL zfL G1 v us) (h1 _ fun v G1 H1 g1 hv=>⟨G1,g1,hv⟩) ?_
 rintro v H1 ⟨G1,g1,p,vs,rfl,hp,hR⟩
 have hl:=Paired.length hR
 refine ⟨p,vs,G1,fun i=>(us[i]?).map f,rfl,SqL.of (g1.gh _ _ hp),g1.gh,fun i x G4 H4 P hx g4 hP=>?_,fun p4 ws G4 H4 g4 hp4 hG4 e4 hR4=>?_⟩
 ·obtain ⟨b,hb,hr⟩:=Paired.at_ hR hx
  simp only [hb,Option.map_some] at hP
  exact zdL (B:=P none H4) (h2 _ b G4 H4 _ g4.gh (zfL.mono g4.gg hr) fun v G3 H3 g3 r3=>hP v G3 H3 g3 r3)
 ·rw [hl,ZY] at hR4
  refine hq _ (upd G4 p4 (.lst ws)) H4 (g1.trans (g4.pub hp4 hG4 e4)) ⟨p4,ws,rfl,za,Paired.mapP hR4 fun v y=>mono _ _ v y (zd hG4)⟩
noncomputable abbrev zeA (c:Cl):Sp:=fun vs H Q _=>∃G p dx fv hv bv line first l r,vs=[.ref p,fv,hv,bv]∧zC G H∧G p=none∧H p=some (.ins c.Message dx [])∧zmm c G fv line first∧zL (zbP c) G hv l∧(∃a,bv=.ref a∧zD G a r)∧
 ∀v3 v4 v5 v6 v7 v8 G' H',Gr p G H G' H'→H' p=some (.ins c.Message dx (yw fv hv bv v3 v4 v5 v6 v7 v8))→MoF c G' line first l r fv hv bv v3 v4 v5 v6 v7 v8→Q .non H'
noncomputable abbrev zmC (c:Cl):Sp:=fun vs H Q _=>∃G v line first l r,vs=[v]∧zC G H∧zmk c G v line first l r∧∀t H',(t=true↔Fit first l r)→zC H H'→Q (.bl t) H'
theorem zlE (v0 v1 v2 v3 v4 v5 v6 v7 v8:V):yH "sequence" v8 (yH "call_id" v7 (yH "contacts" v6 (yH "receiver" v5 (yH "sender" v4 (yH "vias" v3 (yH "body" v2 (yH "headers" v1 (yH "first" v0 []))))))))=yw v0 v1 v2 v3 v4 v5 v6 v7 v8:=by rfl
include T Fs
theorem ze8:JV P w K mg base 11 "Message" c.Message ["self","first","headers","body"] (zeA c):=by
 refine Fs.d_Message_init.ok Zk zfE (fun vs H Q E h=>?_) (fun f cdv A outer s H vs Q E hr h=>?_)
 ·obtain ⟨G,p,dx,fv,hv,bv,line,first,l,r,rfl,_⟩:=h;rfl
 ·obtain ⟨G,p,dx,fv,hv,bv,line,first,l,r,rfl,sg,np,hp,hf,hh,hb,k⟩:=h
  refine ⟨_,(zc (zM (K:=K) (pv 0) (pv 1) rfl) (zc (zM (K:=K) (pv 0) (pv 2) rfl) (zc (zM (K:=K) (pv 0) (pv 3) rfl) (zc (zM (K:=K) (pv 0) (Q2 rfl Zk.nd (zK (K:=K) (yX (zq (ZQ T Fs) (hr.mono (by decide)) rfl (zl (pv 2) (zl (zN T.c_VIA rfl) zb))))) (z3 (own:=[("value",4)]) (by exact rfl)) (fun _ _ _ _ _=>zX (i:=4) Zk.nd rfl (Or.inl rfl)) (fun _ _ _ _ _=>yK) (fun _ _ _ _ _=>(zq (zm5 T Fs) (hr.mono (by decide)) rfl (zl (pv 4) zb)))) rfl) (zc (zM (K:=K) (pv 0) (zq (zbD T Fs) (hr.mono (by decide)) rfl (zl (zq (yy T Fs) (hr.mono (by decide)) rfl (zl (pv 2) (zl (zN T.c_FROM rfl) zb))) zb)) rfl) (zc (zM (K:=K) (pv 0) (zq (zbD T Fs) (hr.mono (by decide)) rfl (zl (zq (yy T Fs) (hr.mono (by decide)) rfl (zl (pv 2) (zl (zN T.c_TO rfl) zb))) zb)) rfl) (zc (zM (K:=K) (pv 0) (Q2 rfl Zk.nd (zK (K:=K) (yX (zq (ZQ T Fs) (hr.mono (by decide)) rfl (zl (pv 2) (zl (zN T.c_CONTACT rfl) zb))))) (z3 (own:=[("value",4)]) (by exact rfl)) (fun _ _ _ _ _=>zX (i:=4) Zk.nd rfl (Or.inl rfl)) (fun _ _ _ _ _=>yK) (fun _ _ _ _ _=>(zq (zhx T Fs) (hr.mono (by decide)) rfl (zl (pv 4) zb)))) rfl) (zc (zM (K:=K) (pv 0) (zq (yy T Fs) (hr.mono (by decide)) rfl (zl (pv 2) (zl (zN T.c_CALL_ID rfl) zb))) rfl) (zg (zM (K:=K) (pv 0) (zq (yy T Fs) (hr.mono (by decide)) rfl (zl (pv 2) (zl (zN T.c_CSEQ rfl) zb))) rfl)))))))))),fun hL=>?_⟩
  have L0:([]:List (Str × V)).length≤0:=Nat.le_refl _
  refine ⟨_,rfl,_,rfl,p,_,dx,_,rfl,hp,T.k_Message,T.n_Message_first,(by decide),?_⟩
  refine ⟨_,rfl,_,rfl,p,_,dx,_,rfl,za,T.k_Message,T.n_Message_headers,Nat.lt_of_le_of_lt (pl_ L0) (by decide),?_⟩
  refine ⟨_,rfl,_,rfl,p,_,dx,_,rfl,za,T.k_Message,T.n_Message_body,Nat.lt_of_le_of_lt (pl_ (pl_ L0)) (by decide),?_⟩
  have g3:=(((Gr.refl sg np).set (o:=.ins c.Message dx (yH "first" fv []))).set (o:=.ins c.Message dx (yH "headers" hv (yH "first" fv [])))).set (o:=.ins c.Message dx (yH "body" bv (yH "headers" hv (yH "first" fv []))))
  have L3:=pl_ (f:="body") (v:=bv) (pl_ (f:="headers") (v:=hv) (pl_ (f:="first") (v:=fv) L0))
  generalize e3:(yH "body" bv (yH "headers" hv (yH "first" fv [])))=fs3 at g3 L3
  have hp3:(upd (upd (upd H p (.ins c.Message dx (yH "first" fv []))) p (.ins c.Message dx (yH "headers" hv (yH "first" fv [])))) p (.ins c.Message dx fs3)) p=some (.ins c.Message dx fs3):=za
  generalize upd (upd (upd H p (.ins c.Message dx (yH "first" fv []))) p (.ins c.Message dx (yH "headers" hv (yH "first" fv [])))) p (.ins c.Message dx fs3)=H3 at g3 hp3 ⊢
  have d3:=g3
  have hd3:=hp3
  have m3:zC G G:=g3.gg
  dsimp only
  refine znx ?_
  refine zo9 (G:=G) (Ji c) (fun _ _ _ _=>Ji.mono) (fun Q' q=>⟨_,rfl,G,hv,l,("via","v"),rfl,d3.gh,(zL.mono (R:=zbP c) (fun _ _ _ _=>zbP.mono) m3 hh),(by decide +kernel),q⟩) (fun u x G2 H2 Q' s2 ⟨a,e,h1,h2,h3⟩ q=>⟨_,rfl,G2,a,x,by rw [e],s2,h1,h2,h3,q⟩) (fun v3 G4 H4 g4 r4=>?_)
  have c4:=d3.call g4 (by rw [hd3];simp)
  have hp4:=g4.hh _ _ hd3
  refine ⟨_,rfl,p,_,dx,_,rfl,hp4,T.k_Message,T.n_Message_vias,Nat.lt_of_le_of_lt L3 (by decide),?_⟩
  have d4:=c4.set (o:=.ins c.Message dx (yH "vias" v3 fs3))
  have L4:=pl_ (f:="vias") (v:=v3) L3
  generalize e4:yH "vias" v3 fs3=fs4 at d4 L4
  have hd4:(upd H4 p (.ins c.Message dx fs4)) p=some (.ins c.Message dx fs4):=za
  generalize upd H4 p (.ins c.Message dx fs4)=K4 at d4 hd4 ⊢
  have m4:zC G G4:=d4.gg
  refine znx ?_
  refine ⟨_,rfl,G4,hv,l,("from","f"),rfl,d4.gh,(zL.mono (R:=zbP c) (fun _ _ _ _=>zbP.mono) m4 hh),(by decide +kernel),fun x5 X5 Y5 z5 ⟨a5,ea5,ra5,la5,sa5⟩=>⟨X5,a5,_,by rw [ea5],z5.gh,ra5,la5,sa5,fun v4 G5 H5 w5 r5=>?_⟩⟩
  have g5:=z5.trans w5
  have c5:=d4.call g5 (by rw [hd4];simp)
  have hp5:=g5.hh _ _ hd4
  refine ⟨_,rfl,p,_,dx,_,rfl,hp5,T.k_Message,T.n_Message_sender,Nat.lt_of_le_of_lt L4 (by decide),?_⟩
  have d5:=c5.set (o:=.ins c.Message dx (yH "sender" v4 fs4))
  have L5:=pl_ (f:="sender") (v:=v4) L4
  generalize e5:yH "sender" v4 fs4=fs5 at d5 L5
  have hd5:(upd H5 p (.ins c.Message dx fs5)) p=some (.ins c.Message dx fs5):=za
  generalize upd H5 p (.ins c.Message dx fs5)=K5 at d5 hd5 ⊢
  have m5:zC G G5:=d5.gg
  refine znx ?_
  refine ⟨_,rfl,G5,hv,l,("to","t"),rfl,d5.gh,(zL.mono (R:=zbP c) (fun _ _ _ _=>zbP.mono) m5 hh),(by decide +kernel),fun x6 X6 Y6 z6 ⟨a6,ea6,ra6,la6,sa6⟩=>⟨X6,a6,_,by rw [ea6],z6.gh,ra6,la6,sa6,fun v5 G6 H6 w6 r6=>?_⟩⟩
  have g6:=z6.trans w6
  have c6:=d5.call g6 (by rw [hd5];simp)
  have hp6:=g6.hh _ _ hd5
  refine ⟨_,rfl,p,_,dx,_,rfl,hp6,T.k_Message,T.n_Message_receiver,Nat.lt_of_le_of_lt L5 (by decide),?_⟩
  have d6:=c6.set (o:=.ins c.Message dx (yH "receiver" v5 fs5))
  have L6:=pl_ (f:="receiver") (v:=v5) L5
  generalize e6:yH "receiver" v5 fs5=fs6 at d6 L6
  have hd6:(upd H6 p (.ins c.Message dx fs6)) p=some (.ins c.Message dx fs6):=za
  generalize upd H6 p (.ins c.Message dx fs6)=K6 at d6 hd6 ⊢
  have m6:zC G G6:=d6.gg
  refine znx ?_
  refine zo9 (G:=G6) (zdz c) (fun _ _ _ _=>zdz.mono) (fun Q' q=>⟨_,rfl,G6,hv,l,("contact","m"),rfl,d6.gh,(zL.mono (R:=zbP c) (fun _ _ _ _=>zbP.mono) m6 hh),(by decide +kernel),q⟩) (fun u x G2 H2 Q' s2 ⟨a,e,h1,h2,h3⟩ q=>⟨_,rfl,G2,a,x,by rw [e],s2,h1,h2,h3,q⟩) (fun v6 G7 H7 g7 r7=>?_)
  have c7:=d6.call g7 (by rw [hd6];simp)
  have hp7:=g7.hh _ _ hd6
  refine ⟨_,rfl,p,_,dx,_,rfl,hp7,T.k_Message,T.n_Message_contacts,Nat.lt_of_le_of_lt L6 (by decide),?_⟩
  have d7:=c7.set (o:=.ins c.Message dx (yH "contacts" v6 fs6))
  have L7:=pl_ (f:="contacts") (v:=v6) L6
  generalize e7:yH "contacts" v6 fs6=fs7 at d7 L7
  have hd7:(upd H7 p (.ins c.Message dx fs7)) p=some (.ins c.Message dx fs7):=za
  generalize upd H7 p (.ins c.Message dx fs7)=K7 at d7 hd7 ⊢
  have m7:zC G G7:=d7.gg
  refine znx ?_
  refine ⟨_,rfl,G7,hv,l,("call-id","i"),rfl,d7.gh,(zL.mono (R:=zbP c) (fun _ _ _ _=>zbP.mono) m7 hh),(by decide +kernel),fun v7 G8 H8 g8 r8=>?_⟩
  have c8:=d7.call g8 (by rw [hd7];simp)
  have hp8:=g8.hh _ _ hd7
  refine ⟨_,rfl,p,_,dx,_,rfl,hp8,T.k_Message,T.n_Message_call_id,Nat.lt_of_le_of_lt L7 (by decide),?_⟩
  have d8:=c8.set (o:=.ins c.Message dx (yH "call_id" v7 fs7))
  have L8:=pl_ (f:="call_id") (v:=v7) L7
  generalize e8:yH "call_id" v7 fs7=fs8 at d8 L8
  have hd8:(upd H8 p (.ins c.Message dx fs8)) p=some (.ins c.Message dx fs8):=za
  generalize upd H8 p (.ins c.Message dx fs8)=K8 at d8 hd8 ⊢
  have m8:zC G G8:=d8.gg
  refine zr9 ?_
  refine ⟨_,rfl,G8,hv,l,("cseq","cseq"),rfl,d8.gh,(zL.mono (R:=zbP c) (fun _ _ _ _=>zbP.mono) m8 hh),(by decide +kernel),fun v8 G9 H9 g9 r9=>?_⟩
  have c9:=d8.call g9 (by rw [hd8];simp)
  have hp9:=g9.hh _ _ hd8
  refine ⟨_,rfl,p,_,dx,_,rfl,hp9,T.k_Message,T.n_Message_sequence,Nat.lt_of_le_of_lt L8 (by decide),?_⟩
  have d9:=c9.set (o:=.ins c.Message dx (yH "sequence" v8 fs8))
  have L9:=pl_ (f:="sequence") (v:=v8) L8
  generalize e9:yH "sequence" v8 fs8=fs9 at d9 L9
  have hd9:(upd H9 p (.ins c.Message dx fs9)) p=some (.ins c.Message dx fs9):=za
  generalize upd H9 p (.ins c.Message dx fs9)=K9 at d9 hd9 ⊢
  have m9:zC G G9:=d9.gg
  subst e3 e4 e5 e6 e7 e8 e9
  rw [zlE] at hd9
  refine k v3 v4 v5 v6 v7 v8 G9 K9 d9 hd9 ?_
  have n8:=g9.gg
  have n7:=g8.gg.trans n8
  have n6:=g7.gg.trans n7
  have n5:=g6.gg.trans n6
  have n4:=g5.gg.trans n5
  obtain ⟨bA,eb,hbr⟩:=hb
  exact ⟨hf.mono m9,zL.mono (R:=zbP c) (fun _ _ _ _=>zbP.mono) m9 hh,⟨bA,eb,m9 _ _ hbr⟩,zL.mono (R:=Ji c) (fun _ _ _ _=>Ji.mono) n4 r4,zgn.mono n5 r5,zgn.mono n6 r6,zL.mono (R:=zdz c) (fun _ _ _ _=>zdz.mono) n7 r7,r8.mono n8,r9⟩
end
section
variable {P:Program} {w:World} {K:PySem.W.Frag} {mg:Str→Option Value} {base:Heap} {c:Cl} {le ln:Addr} (T:Txt K mg c le ln) (Fs:YM K mg c)
theorem zjd {l:List Header} {r:B}:zng l r=true↔(valuesOf l "content-length"=[]∨∃v,valuesOf l "content-length"=[v]∧zG v 9=true∧natOf v=r.length):=by
 unfold zng
 match valuesOf l "content-length" with
 | []=>simp
 | [v]=>simp
 | _::_::_=>simp
theorem zjn {l:List Header}:zhK l=true↔(valuesOf l "expires"=[]∨∃v,valuesOf l "expires"=[v]∧zG v 9=true):=by
 unfold zhK
 match valuesOf l "expires" with
 | []=>simp
 | [v]=>simp
 | _::_::_=>simp
noncomputable def zde:First→B
 | .answer=>[]
 | .request m _ _=>m
theorem ziJ {b:B} {first:First} (hm:∀m t x,first=.request m t x→methodOk m=true):zls b (zde first)=true↔∃q,cseqOf b=some q∧∀m t x,first=.request m t x→q.2=m:=by
 unfold zls
 rw [zjo]
 match splitBy 32 b [] with
 | []=>simp
 | [_]=>simp
 | _::_::_::_=>simp
 | [d,m']=>
  simp only
  by_cases h1:zG d 9=true
  ·by_cases h2:methodOk m'=true
   ·rw [if_pos ⟨h1,h2⟩,h1,h2]
    cases first with
    | answer=>simp [zde]
    | request m t x=>
     have:=zfc (hm m t x rfl)
     simp [zde,this]
     exact decide_eq_true_iff
   ·rw [if_neg (fun q=>h2 q.2)]
    simp [h2]
  ·rw [if_neg (fun q=>h1 q.1)]
   simp [h1]
theorem zmm.method {c:Cl} {G:Hp} {v:V} {line:B} {first:First} (h:zmm c G v line first):∃f lv mA tv dx,v=.ref f∧G f=some (.ins c.First dx (Q6 lv (.ref mA) tv))∧zD G mA (zde first)∧∀m t x,first=.request m t x→methodOk m=true:=by
 cases first with
 | answer=>
  obtain ⟨f,lA,mA,dx,rfl,h1,h2,h3⟩:=h
  exact ⟨f,_,mA,_,dx,rfl,h1,h3,fun _ _ _ e=>by cases e⟩
 | request m t x=>
  obtain ⟨f,lA,mA,tv,dx,rfl,h1,h2,h3,h4,h5,h6⟩:=h
  exact ⟨f,_,mA,_,dx,rfl,h1,h3,fun _ _ _ e=>by cases e;exact h5⟩
theorem zmr {c:Cl} {G:Hp} {vs:List V} {ys:List (Option Via)} (h:Paired (Ji c G) vs ys):(∀v ∈ vs,v=.non∨∃a dx fs,v=.ref a∧G a=some (.ins c.Via dx fs))∧(V.non ∈ vs↔none ∈ ys):=
 zcb (fun v r=>r) (fun v x r=>by obtain ⟨a,ev,pv,bA,dx,hb,e,h1,_⟩:=r;exact ⟨a,dx,_,e,h1⟩) h
theorem zhM {c:Cl} {G:Hp} {vs:List V} {ys:List (Option Contact)} (h:Paired (zdz c G) vs ys):(∀v ∈ vs,v=.non∨∃a dx fs,v=.ref a∧G a=some (.ins c.Party dx fs))∧(V.non ∈ vs↔none ∈ ys):=
 zcb (fun v r=>r) (fun v x r=>by
  cases x with
  | all=>obtain ⟨a,pv,dx,e,h1⟩:=r;exact ⟨a,dx,_,e,h1⟩
  | at_ n=>obtain ⟨a,tv,pv,dx,txt,e,h1,_⟩:=r;exact ⟨a,dx,_,e,h1⟩) h
theorem zjh {c:Cl} {G:Hp} {vs:List V} {ys:List (Option Header)} (h:Paired (zfK c G) vs ys):(∀v ∈ vs,v=.non∨∃a dx fs,v=.ref a∧G a=some (.ins c.Header dx fs))∧(V.non ∈ vs↔none ∈ ys):=
 zcb (fun v r=>r) (fun v x r=>by obtain ⟨a,n,lv,vv,dx,e,h1,_⟩:=r;exact ⟨a,dx,_,e,h1⟩) h
theorem zgn.non {c:Cl} {G:Hp} {v:V} {x:Option Named} (h:zgn c G v x):v=.non↔x.isSome=false:=by
 cases x with
 | none=>exact ⟨fun _=>rfl,fun _=>h⟩
 | some n=>
  obtain ⟨a,tv,pv,dx,txt,e,_⟩:=h
  subst e
  exact ⟨fun q=>(by cases q),fun q=>by cases q⟩
include T Fs
theorem zm7:yG P w K mg base 4 "is_fit" ["message"] (zmC c):=by
 refine Fs.d_is_fit.ok zmF znM (fun vs H Q E h=>?_) (fun f cdv A outer s H vs Q E hr h=>?_)
 ·obtain ⟨G,v,line,first,l,r,rfl,_⟩:=h;rfl
 ·obtain ⟨G,v,line,first,l,r,rfl,sg,hm,k⟩:=h
  have hm':=hm
  obtain ⟨a,dx,fv,hv,bv,v3,v4,v5,v6,v7,v8,rfl,ho,mf⟩:=hm'
  refine ⟨_,(zc (z4 (Za (PW.pt (Z9 (zw (zaw (K:=K) hr.units0) (zj (K:=K) (pv 0) rfl) (zO zb) (zz _)) (Z9 (zw (zcd (K:=K) (C:=c.Via) hr.units) zY (zj (K:=K) (pv 0) rfl) rfl) (Zm (zw (zcd (K:=K) (C:=c.Party) hr.units) zY (zj (K:=K) (pv 0) rfl) rfl)))))) (zg (zm zeZ)) zF) (zc (z4 (Za (PW.pt (Z9 (zw YG (zj (K:=K) (pv 0) rfl) zY (zz _)) (Zm (zw YG (zj (K:=K) (pv 0) rfl) zY (zz _)))))) (zg (zm zeZ)) zF) (zc (z4 (Za (PW.pt (Z9 (yT (yi (zq (zhv T Fs) (hr.mono (by decide)) rfl (zl (zj (K:=K) (pv 0) rfl) zb)))) (Zm (yT (yi (zq (zf4 T Fs) (hr.mono (by decide)) rfl (zl (zj (K:=K) (pv 0) rfl) (zl (zj (K:=K) (zj (K:=K) (pv 0) rfl) rfl) zb))))))))) (zg (zm zeZ)) zF) (zc (z4 (Za (PW.pt (za2 (yi (zq (zck T Fs) (hr.mono (by decide)) rfl (zl (pv 0) zb))) (Q1 (yT (yi (zq (zlO T Fs) (hr.mono (by decide)) rfl (zl (zq (yy T Fs) (hr.mono (by decide)) rfl (zl (zj (K:=K) (pv 0) rfl) (zl (zN T.c_MAX_FORWARDS rfl) zb))) zb)))))))) (zg (zm zeZ)) zF) (zg (zm (Yb (zq (zc9 T Fs) (hr.mono (by decide)) rfl (zl (pv 0) zb)) (Zn (zq (zcl T Fs) (hr.mono (by decide)) rfl (zl (pv 0) zb)))))))))),fun hL=>?_⟩
  obtain ⟨p3,vs3,rfl,hp3,hR3⟩:=mf.vi
  obtain ⟨p6,vs6,rfl,hp6,hR6⟩:=mf.ct
  obtain ⟨o3,q3⟩:=zmr hR3
  obtain ⟨o6,q6⟩:=zhM hR6
  have hl3:=Paired.length hR3
  have e3:vs3=[]↔valuesOf l "via"=[]:=by rw [← List.length_eq_zero_iff,hl3,List.length_map,List.length_eq_zero_iff]
  refine ⟨fun t H1=>zC H H1∧(t=true↔(valuesOf l "via"=[]∨none ∈ (valuesOf l "via").map viaOf∨none ∈ (valuesOf l "contact").map contactOf)),?_,fun t H1 ⟨s1,ht⟩=>?_⟩
  ·refine ⟨_,rfl,a,_,dx,_,_,rfl,sg _ _ ho,T.k_Message,T.n_Message_vias,yg _ _ _ _ _ _ _ _ _,(by decide),fun q hq=>⟨p3,q,_,rfl,rfl,SqL.of ((zd hq) _ _ (sg _ _ hp3)),SqL.of za,_,rfl,?_⟩⟩
   have s1:=zd (o:=.lst []) hq
   generalize upd H q (.lst [])=H1 at s1 ⊢
   have s1g:=sg.trans s1
   refine zR (fun h1=>⟨s1,?_⟩) (fun h1=>?_)
   ·have:valuesOf l "via"=[]:=e3.mp (by simpa using h1)
    simp [this]
   ·have n1:¬ valuesOf l "via"=[]:=fun q=>h1 (by simpa using e3.mpr q)
    refine ⟨_,rfl,a,_,dx,_,_,rfl,s1g _ _ ho,T.k_Message,T.n_Message_vias,yg _ _ _ _ _ _ _ _ _,rfl,p3,vs3,rfl,SqL.of (s1g _ _ hp3),fun v hv=>?_,T.e_Via,_,rfl,zR (fun h2=>⟨s1,?_⟩) (fun h2=>?_)⟩
    ·rcases o3 v hv with h | ⟨a,dx,fs,h,h'⟩
     ·exact .inl h
     ·exact .inr ⟨a,dx,fs,h,s1g _ _ h'⟩
    ·have:=q3.mp (by simpa using h2)
     simp only [true_iff]
     exact .inr (.inl this)
    ·have n2:¬ none ∈ (valuesOf l "via").map viaOf:=fun q=>h2 (by simpa using q3.mpr q)
     refine ⟨_,rfl,a,_,dx,_,_,rfl,s1g _ _ ho,T.k_Message,T.n_Message_contacts,yQ _ _ _ _ _ _ _ _ _,rfl,p6,vs6,rfl,SqL.of (s1g _ _ hp6),fun v hv=>?_,T.e_Party,_,rfl,s1,?_⟩
     ·rcases o6 v hv with h | ⟨a,dx,fs,h,h'⟩
      ·exact .inl h
      ·exact .inr ⟨a,dx,fs,h,s1g _ _ h'⟩
     ·rw [decide_eq_true_eq,q6]
      exact ⟨fun q=>.inr (.inr q),fun q=>by rcases q with q | q | q;exact absurd q n1;exact absurd q n2;exact q⟩
  ·have s1g:=sg.trans s1
   refine zR (fun h1=>?_) (fun h1=>?_)
   ·refine k false H1 ?_ s1
    refine ⟨fun q=>(by cases q),fun q=>?_⟩
    rcases ht.mp h1 with h | h | h
    ·exact absurd h q.novia
    ·exact absurd h q.vias
    ·exact absurd h q.contacts
   ·have n1:¬ (valuesOf l "via"=[]∨none ∈ (valuesOf l "via").map viaOf∨none ∈ (valuesOf l "contact").map contactOf):=fun q=>h1 (ht.mpr q)
    simp only [not_or] at n1
    obtain ⟨n1,n2,n3⟩:=n1
    walk_at "nx"
    refine ⟨fun t H2=>H2=H1∧(t=true↔((namedOf (zZ l "from")).isSome=false∨(namedOf (zZ l "to")).isSome=false)),?_,fun t H2 ⟨e2,ht2⟩=>?_⟩
    ·refine ⟨_,rfl,a,_,dx,_,_,rfl,s1g _ _ ho,T.k_Message,T.n_Message_sender,zd6 _ _ _ _ _ _ _ _ _,rfl,_,rfl,zR (fun h2=>⟨rfl,?_⟩) (fun h2=>?_)⟩
     ·have:=mf.fr.non.mp (by simpa using h2)
      simp only [true_iff]
      exact .inl this
     ·have h2':¬ v4=.non:=by simpa using h2
      rw [mf.fr.non] at h2'
      refine ⟨_,rfl,a,_,dx,_,_,rfl,s1g _ _ ho,T.k_Message,T.n_Message_receiver,yP _ _ _ _ _ _ _ _ _,rfl,_,rfl,rfl,?_⟩
      rw [decide_eq_true_eq,mf.to.non]
      exact ⟨.inr,fun q=>q.resolve_left h2'⟩
    ·subst e2
     refine zR (fun h2=>?_) (fun h2=>?_)
     ·refine k false H2 ?_ s1
      refine ⟨fun q=>(by cases q),fun q=>?_⟩
      rcases ht2.mp h2 with h | h
      ·rw [q.from_] at h;cases h
      ·rw [q.to] at h;cases h
     ·have n4:¬ _:=fun q=>h2 (ht2.mpr q)
      simp only [not_or,Bool.not_eq_false] at n4
      obtain ⟨n4,n5⟩:=n4
      walk_at "nx"
      obtain ⟨iA,ei,hi,hiz,_⟩:=mf.id
      obtain ⟨sA,es,hs,hsz,_⟩:=mf.sq
      subst ei es
      obtain ⟨f1,lv,mA,tv,dx',rfl,hf1,hf2,hf3⟩:=mf.fi.method
      refine ⟨fun t H3=>zC H2 H3∧(t=true↔¬ (idOk (zZ l "call-id")=true∧zls (zZ l "cseq") (zde first)=true)),?_,fun t H3 ⟨s3,ht3⟩=>?_⟩
      ·refine ⟨_,rfl,a,_,dx,_,_,rfl,s1g _ _ ho,T.k_Message,T.n_Message_call_id,yF _ _ _ _ _ _ _ _ _,iA,_,rfl,s1g _ _ hi,_,rfl,zR (fun h3=>⟨zC.refl _,?_⟩) (fun h3=>?_)⟩
       ·have h3':idOk (zZ l "call-id")=false:=by simpa using h3
        simp [h3']
       ·have h3':idOk (zZ l "call-id")=true:=by simpa using h3
        refine ⟨_,rfl,a,_,dx,_,_,rfl,s1g _ _ ho,T.k_Message,T.n_Message_sequence,Zi _ _ _ _ _ _ _ _ _,_,rfl,a,_,dx,_,_,rfl,s1g _ _ ho,T.k_Message,T.n_Message_first,ye _ _ _ _ _ _ _ _ _,f1,_,dx',_,_,rfl,s1g _ _ hf1,T.k_First,T.n_First_method,yC _ _ _,sA,_,mA,_,rfl,s1g _ _ hs,hsz,s1g _ _ hf2,fun H3 s3=>⟨_,rfl,s3,?_⟩⟩
        simp [h3']
      ·have s13:=s1.trans s3
       have s3g:=s1g.trans s3
       refine zR (fun h3=>?_) (fun h3=>?_)
       ·refine k false H3 ?_ s13
        refine ⟨fun q=>(by cases q),fun q=>?_⟩
        exact absurd ⟨q.id,(ziJ hf3).mpr q.cseq⟩ (ht3.mp h3)
       ·have n6:idOk (zZ l "call-id")=true∧zls (zZ l "cseq") (zde first)=true:=Classical.byContradiction fun q=>h3 (ht3.mpr q)
        walk_at "nx"
        refine ⟨fun t H4=>zC H3 H4∧(t=true↔(zpT first=true∧¬ (zG (zZ l "max-forwards") 3&&decide (natOf (zZ l "max-forwards")≤255))=true)),?_,fun t H4 ⟨s4,ht4⟩=>?_⟩
        ·refine ⟨_,rfl,G,_,line,first,l,r,rfl,s3g,hm,fun H4 s4=>⟨_,rfl,zR (fun h4=>?_) (fun h4=>⟨s4,?_⟩)⟩⟩
         ·have s4g:=s3g.trans s4
          refine ⟨_,rfl,a,_,dx,_,_,rfl,s4g _ _ ho,T.k_Message,T.n_Message_headers,zW _ _ _ _ _ _ _ _ _,G,_,l,("max-forwards","max-forwards"),rfl,s4g,mf.hd,(by decide +kernel),fun v1 G1 H5 g5 ⟨p,ev,hp,hz,_⟩=>?_⟩
          subst ev
          refine ⟨p,_,rfl,g5.gh _ _ hp,fun H6 s6=>⟨_,rfl,s4.trans (g5.hh.trans s6),?_⟩⟩
          rw [h4,Bool.not_eq_true']
          simp only [true_and,Bool.not_eq_true]
         ·simp [h4]
        ·have s14:=s13.trans s4
         have s4g:=s3g.trans s4
         refine zR (fun h4=>?_) (fun h4=>?_)
         ·refine k false H4 ?_ s14
          refine ⟨fun q=>(by cases q),fun q=>?_⟩
          obtain ⟨r1,r2⟩:=ht4.mp h4
          cases first with
          | answer=>cases r1
          | request m t x=>
           have:=q.hops m t x rfl
           exact absurd (by simp [this]) r2
         ·have n7:¬ (zpT first=true∧_):=fun q=>h4 (ht4.mpr q)
          walk_at "nx"
          have fin:zng l r=true→zhK l=true→Fit first l r:=fun f1 f2=>by
           refine ⟨n1,n2,n3,n4,n5,n6.1,(ziJ hf3).mp n6.2,fun m t x e=>?_,zjd.mp f1,zjn.mp f2⟩
           have:(zG (zZ l "max-forwards") 3&&decide (natOf (zZ l "max-forwards")≤255))=true:=Classical.byContradiction fun q=>n7 ⟨by rw [e];rfl,q⟩
           simpa using this
          refine ⟨_,rfl,G,_,line,first,l,r,rfl,s4g,hm,fun H5 s5=>⟨_,rfl,zR (fun h5=>?_) (fun h5=>?_)⟩⟩
          ·refine ⟨_,rfl,G,_,line,first,l,r,rfl,s4g.trans s5,hm,fun H6 s6=>?_⟩
           exact k _ H6 ⟨fun q=>fin h5 q,fun q=>zjn.mpr q.expires⟩ (s14.trans (s5.trans s6))
          ·exact k _ H5 ⟨fun q=>absurd q (by simp),fun q=>absurd (zjd.mpr q.length) h5⟩ (s14.trans s5)
end
section
variable {P:Program} {w:World} {K:PySem.W.Frag} {mg:Str→Option Value} {base:Heap} {c:Cl} {le ln:Addr} (T:Txt K mg c le ln) (Fs:YM K mg c)
noncomputable def ZR (c:Cl) (G:Hp) (v:V) (m:Msg):Prop:=∃b f hs r,zmk c G v f m.first m.headers r∧zif b f hs r m∧b.length≤16384∧(zV (f::hs)).length≤b.length∧r.length≤b.length
noncomputable def zse (c:Cl) (G:Hp) (v:V):Option Msg→Prop
 | none=>v=.non
 | some m=>ZR c G v m
noncomputable abbrev zgP (c:Cl):Sp:=fun vs H Q _=>∃G a b,vs=[.ref a]∧zC G H∧zD G a b∧∀v G' H',zJ G H G' H'→zse c G' v (msgOf b)→Q v H'
theorem zfK.all {c:Cl} {G:Hp}:∀{vs:List V} {ps:List Header},Paired (zfK c G) vs (ps.map some)→Paired (zbP c G) vs ps
 | _,[],.nil=>.nil
 | _,_::_,.cons r t=>.cons r (zfK.all t)
theorem ziU {G H:Hp}:∀{qs:List Addr} {ls:List B},(∀q ∈ qs,G q=H q)→Paired (fun q x=>zD H q x) qs ls→Paired (fun q x=>zD G q x) qs ls
 | _,_,_,.nil=>.nil
 | _,_,hq,.cons r t=>.cons ((hq _ List.mem_cons_self).trans r) (ziU (fun q h=>hq q (List.mem_cons_of_mem _ h)) t)
theorem zqg.non {c:Cl} {G:Hp} {v:V} {line:B} {x:Option First} (h:zqg c G v line x):v=.non↔x=none:=by
 cases x with
 | none=>exact ⟨fun _=>rfl,fun _=>h⟩
 | some n=>
  obtain ⟨f,_,_,_,_,e,_⟩:=zmm.method h
  subst e
  exact ⟨fun q=>(by cases q),fun q=>(by cases q)⟩
theorem Gr.done {p dx:Addr} {G H G' H':Hp} {u o:HO} (np:H p=none) (nd:H dx=none) (s:zC G H) (g:Gr p G (upd (upd H dx u) p o) G' H') (e:H' p=some o'):zJ G H (upd G' p o') H':=by
 refine ⟨g.gg.trans (zd g.np),fun b q h=>?_,fun b q h=>?_,fun b h1 h2=>?_⟩
 ·have n1:=zy h np
  have n2:=zy h nd
  exact g.hh b q (by rw [zv n1,zv n2];exact h) n1
 ·by_cases hb:b=p
  ·subst hb;rw [za] at h;cases h;exact e
  ·rw [zv hb] at h;exact g.gh b q h
 ·by_cases hb:b=p
  ·subst hb;exact absurd np h2
  ·rw [zv hb]
   refine g.sep b h1 ?_
   cases e:H b with
   | none=>exact absurd e h2
   | some q=>rw [zv (zy e np),zv (zy e nd),e];simp
include T Fs
theorem zhu:yG P w K mg base 13 "message_of" ["row"] (zgP c):=by
 refine Fs.d_message_of.ok Zr zhS (fun vs H Q E h=>?_) (fun f cdv A outer s H vs Q E hr h=>?_)
 ·obtain ⟨G,a,b,rfl,_⟩:=h;rfl
 ·obtain ⟨G,a,b,rfl,sg,hb,k⟩:=h
  refine ⟨_,(zc (z4 (zw zhs (yo (zx (K:=K)) rfl T.b_len PySem.boot_len (zl (pv 0) zb)) (zN T.c_MOST_BYTES rfl) (zz _)) (zg (zm zY)) zF) (zc (zE (i:=1) Zr.nd rfl (Or.inl rfl) (zq (zhw T Fs) (hr.mono (by decide)) rfl (zl (pv 0) zb))) (zc (z4 (zw (zaw (K:=K) hr.units0) (pv 1) (zO zb) (zz _)) (zg (zm zY)) zF) (zc (zE (i:=2) Zr.nd rfl (Or.inl rfl) (zq (zkh T Fs) (hr.mono (by decide)) rfl (zl (yE (zI (K:=K)) (pv 1) zu (fun _ _=>rfl)) zb))) (zc (Jx (i:=3) (hc:=rfl) (hN:=Zr.nd) (hy:=rfl) (hyl:=rfl) (hsw:=zbc rfl rfl rfl (by decide +kernel)) (zK (K:=K) (yX (ya (z9 (K:=K)) (pv 1) (yb zu) yR))) (z3 (own:=[("line",5)]) (by exact rfl)) (fun _ _ _ _ _=>zX (i:=5) Zr.nd rfl (Or.inl rfl)) (fun _ _ _ _ _=>yK) (fun _ _ _ _ _=>(zq (zi0 T Fs) (hr.mono (by decide)) rfl (zl (pv 5) zb)))) (zc (z4 (Za (PW.pt (Z9 (zw YG (pv 2) zY (zz _)) (Zm (zw (zcd (K:=K) (C:=c.Header) hr.units) zY (pv 3) rfl))))) (zg (zm zY)) zF) (zc (zE (i:=4) Zr.nd rfl (Or.inl rfl) (YY (ze8 T Fs) (hr.mono (by decide)) rfl (zl (pv 2) (zl (pv 3) (zl (ya (z9 (K:=K)) (pv 0) (yb (zq (zi1 T Fs) (hr.mono (by decide)) rfl (zl (pv 1) zb))) yR) zb))))) (zg (zm (yI (yi (zq (zm7 T Fs) (hr.mono (by decide)) rfl (zl (pv 4) zb))) (pv 4) zY)))))))))),fun hL=>?_⟩
  have hbH:=sg _ _ hb
  refine ⟨_,rfl,a,_,rfl,.inl (SqL.of hbH),_,_,rfl,rfl,_,rfl,zR (fun h1=>?_) (fun h1=>?_)⟩
  ·refine k _ G H (zJ.refl sg) ?_
   rw [zgC (by simp only [zi] at h1;simp at h1;omega)]
   rfl
  ·have hlong:¬ 16384 < b.length:=by simp only [zi] at h1;simp at h1;omega
   walk_at "nx"
   refine ⟨_,rfl,a,b,rfl,hbH,(by omega),fun p ps ls H1 s1 hp e1 hf hR hpost=>?_⟩
   walk_at "nm"
   have hll:=Paired.length hR
   refine ⟨_,rfl,(by decide),fun q hq=>⟨p,q,_,rfl,rfl,SqL.of ((zd hq) _ _ e1),SqL.of za,_,rfl,?_⟩⟩
   have s2:=zd (o:=.lst []) hq
   generalize upd H1 q (.lst [])=H2 at s2 ⊢
   refine zR (fun h2=>?_) (fun h2=>?_)
   ·refine k _ G H2 (zJ.more sg (s1.trans s2)) ?_
    have e:ps=[]:=by simpa using h2
    subst e
    cases hR
    rcases hpost with ⟨e,_⟩ | ⟨e,_⟩
    ·rw [zcr e];rfl
    ·rw [zdI e];rfl
   ·walk_at "nx"
    have ne:ps≠[]:=by simpa using h2
    cases hR with
    | nil=>exact absurd rfl ne
    | @cons q0 f qs hs r0 rT=>
    obtain ⟨eL,hsig,hsum⟩:=hpost.resolve_left (fun q=>by cases q.2)
    obtain ⟨G2,g2,hG⟩:=zJ.grab sg s1 (q0::qs) hf
    have g12:=g2.trans (zJ.more g2.gh s2)
    have hb100:∀l ∈ f::hs,l.length≤100000:=fun l hl=>Nat.le_trans (hsig l hl).2.2 (by omega)
    refine ⟨_,rfl,p,_,_,_,rfl,rfl,SqL.of (s2 _ _ e1),yk (j:=0) rfl,G2,q0,f,rfl,g12.gh,(hG q0 List.mem_cons_self).trans r0,hb100 f List.mem_cons_self,fun fv G3 H3 g3 hfv=>?_⟩
    walk_at "nm"
    refine zfH ?_
    have g13:=g12.trans g3
    have e3:=g3.hh _ _ (s2 _ _ e1)
    have rT3:Paired (fun q x=>zD G3 q x) qs hs:=Paired.mapP (ziU (fun q h=>hG q (List.mem_cons_of_mem _ h)) rT) fun q x h=>g3.gg _ _ h
    refine Qn (zfK c) (fun G G' v y s=>zfK.mono s) (fun v H4=>∃p2,v=.ref p2∧H4 p2=some (.lst (qs.map V.ref))∧zJ G H G3 H4∧zC H3 H4) ?_ ?_
    ·refine ⟨_,rfl,_,rfl,p,_,rfl,SqL.of e3,fun p2 hp2=>⟨p2,rfl,?_,g13.trans (zJ.more g13.gh (zd hp2)),zd hp2⟩⟩
     rw [za]
     exact congrArg (fun l=>some (HO.lst l)) (zcv (List.map V.ref (q0::qs)) 1)
    ·rintro v H4 ⟨p2,rfl,e4,g14,s34⟩
     have hl2:=Paired.length rT3
     refine ⟨p2,qs.map V.ref,G3,fun i=>(hs[i]?).map headerOf,rfl,SqL.of e4,g14.gh,fun i x G4 H4 P hx g4 hP=>?_,fun p4 vs G5 H5 g5 hp4 hG4 e5 hR5=>?_⟩
     ·obtain ⟨qi,hqi,rfl⟩:=zb9 hx
      obtain ⟨l,hl,hrow⟩:=Paired.at_ rT3 hqi
      simp only [hl,Option.map_some] at hP
      have hmem:=List.mem_cons_of_mem f (List.mem_of_getElem? hl)
      refine zdL (B:=P none H4) ⟨_,rfl,G4,qi,l,rfl,g4.gh,g4.gg _ _ hrow,hb100 l hmem,(hsig l hmem).1,fun v G5 H5 g5 hv=>hP v G5 H5 g5 hv⟩
     ·rw [List.length_map,hl2,ZY] at hR5
      dsimp only
      obtain ⟨o1,o2⟩:=zjh hR5
      have g15:=g14.trans g5
      have hfn:=hfv.non
      have hM:=zi7 hlong eL
      refine ⟨fun t H6=>H6=H5∧(t=true↔(firstOf f=none∨none ∈ hs.map headerOf)),?_,fun t H6 ⟨e6,ht⟩=>?_⟩
      ·refine ⟨_,rfl,rfl,_,rfl,zR (fun h3=>⟨rfl,?_⟩) (fun h3=>?_)⟩
       ·have:=hfn.mp (by simpa using h3)
        simp [this]
       ·have n3:¬ firstOf f=none:=fun q=>h3 (by simpa using hfn.mpr q)
        refine ⟨_,rfl,rfl,p4,vs,rfl,SqL.of e5,fun v hv=>?_,T.e_Header,_,rfl,rfl,?_⟩
        ·rcases o1 v hv with h | ⟨a,dx,fs,h,h'⟩
         ·exact .inl h
         ·exact .inr ⟨a,dx,fs,h,g5.gh _ _ h'⟩
        ·rw [decide_eq_true_eq,o2]
         exact ⟨.inr,fun q=>q.resolve_left n3⟩
      ·subst e6
       refine zR (fun h3=>?_) (fun h3=>?_)
       ·refine k _ G5 H6 g15 ?_
        cases em:msgOf b with
        | none=>rfl
        | some m=>
         have im:=(hM m).mp em
         rcases ht.mp h3 with h | h
         ·rw [im.first] at h;cases h
         ·rw [← YJ,im.headers] at h;cases h
       ·walk_at "nx"
        have n3:¬ _:=fun q=>h3 (ht.mpr q)
        simp only [not_or] at n3
        obtain ⟨n3,n4⟩:=n3
        obtain ⟨first,ef⟩:∃x,firstOf f=some x:=Option.ne_none_iff_exists'.mp n3
        obtain ⟨l,el⟩:∃x,hs.mapM headerOf=some x:=by
         cases e:hs.mapM headerOf with
         | none=>exact absurd (YJ.mp e) n4
         | some x=>exact ⟨x,rfl⟩
        rw [ef] at hfv
        rw [Zh.mp el] at hR5
        have gP:=g5.pub hp4 hG4 e5
        have g16:=g14.trans gP
        have sP:=zd (o:=.lst vs) hG4
        have rows6:Zw H6 p (f::hs):=⟨q0::qs,g5.hh _ _ (s34 _ _ e3),.cons (g16.gh _ _ (sP _ _ (g5.gg _ _ (g3.gg _ _ ((hG q0 List.mem_cons_self).trans r0))))) (Paired.mapP rT3 fun q x h=>g5.s _ _ h)⟩
        refine ⟨_,rfl,_,rfl,_,rfl,_,rfl,p,f::hs,rfl,rows6,fun H7 s7=>⟨_,rfl,a,_,rfl,SqL.of (s7 _ _ (g15.hh _ _ hbH)),fun p8 hp8=>?_⟩⟩
        rw [Yx _ rfl]
        have g17:=g16.trans (zJ.more g16.gh s7)
        generalize hr:b.drop (((f::hs).map fun l=>l.length + 2).sum + 2)=r at eL hM ⊢
        have g18:=g17.trans (zJ.keep g17.gh (zd (o:=.lst (rv r)) hp8) hp8 za)
        have s8:=zd (o:=.lst (rv r)) (g17.gh.free hp8)
        generalize upd H7 p8 (.lst (rv r))=H8 at g18 ⊢
        have hr8:zD (upd (upd G5 p4 (.lst vs)) p8 (.lst (rv r))) p8 r:=za
        have hfi:=zmm.mono s8 (zmm.mono sP (zmm.mono g5.gg hfv))
        have hhd:zL (zbP c) (upd (upd G5 p4 (.lst vs)) p8 (.lst (rv r))) (.ref p4) l:=⟨p4,vs,rfl,s8 _ _ za,Paired.mapP (zfK.all hR5) fun v y h=>zbP.mono s8 (zbP.mono sP h)⟩
        generalize upd (upd G5 p4 (.lst vs)) p8 (.lst (rv r))=G8 at g18 hr8 hfi hhd
        refine fun o dx no ndx ne=>⟨G8,o,dx,fv,_,_,f,first,l,r,rfl,?_,g18.gh.free no,za,hfi,hhd,⟨p8,rfl,hr8⟩,fun v3 v4 v5 v6 v7 v8 G9 H9 gr ho mf=>⟨rfl,?_⟩⟩
        ·intro x u h
         have h':=g18.gh _ _ h
         rw [zv (zy h' no),zv (zy h' ndx)]
         exact h'
        ·walk_at "nm"
         have g9:=g18.trans (Gr.done no ndx g18.gh gr ho)
         have s9:=zd (o:=.ins c.Message dx (yw fv (.ref p4) (.ref p8) v3 v4 v5 v6 v7 v8)) gr.np
         have hmo:zmk c (upd G9 o (.ins c.Message dx (yw fv (.ref p4) (.ref p8) v3 v4 v5 v6 v7 v8))) (.ref o) f first l r:=⟨o,dx,_,_,_,_,_,_,_,_,_,rfl,za,MoF.mono s9 mf⟩
         generalize upd G9 o (.ins c.Message dx (yw fv (.ref p4) (.ref p8) v3 v4 v5 v6 v7 v8))=G10 at g9 hmo
         refine ⟨_,rfl,G10,_,f,first,l,r,rfl,g9.gh,hmo,fun t H11 ht s11=>⟨_,rfl,zR (fun h4=>⟨_,rfl,?_⟩) (fun h4=>?_)⟩⟩
         ·refine k _ G10 H11 (g9.trans (zJ.more g9.gh s11)) ?_
          obtain ⟨m,im,i1,i2⟩:=zq0 (b:=b) ef el (ht.mp h4)
          rw [(hM m).mpr im]
          exact ⟨b,f,hs,r,by rw [i1,i2];exact hmo,im,by omega,hsum,by rw [← hr,List.length_drop];omega⟩
         ·refine k _ G10 H11 (g9.trans (zJ.more g9.gh s11)) ?_
          cases em:msgOf b with
          | none=>rfl
          | some m=>
           have im:=(hM m).mp em
           have hfit:=zrf im
           have i1:=im.first
           rw [ef] at i1
           have i2:=im.headers
           rw [el] at i2
           cases i1;cases i2
           exact absurd (ht.mpr hfit) h4
end
section
variable {P:Program} {w:World} {K:PySem.W.Frag} {mg:Str→Option Value} {base:Heap} {c:Cl} {le ln:Addr} (T:Txt K mg c le ln) (Fs:YM K mg c)
noncomputable def zsw:Option Nat→V
 | some n=>.int (n:Nat)
 | none=>.non
structure MsF (c:Cl) (G:Hp) (m:Msg) (fv hv bv v3 v4 v5 v6 v7 v8:V):Prop where
 fi:zmm c G fv m.line m.first
 hd:zL (zbP c) G hv m.headers
 bd:∃a,bv=.ref a∧zD G a m.body
 vi:zL (zid c) G v3 m.vias
 fr:zmo c G v4 m.from_
 to:zmo c G v5 m.to
 ct:zL (znS c) G v6 m.contacts
 id:zfL G v7 m.id
 sq:zfL G v8 (zZ m.headers "cseq")
theorem zo3 {c:Cl} {G:Hp}:∀{vs:List V} {ps:List Via},Paired (Ji c G) vs (ps.map some)→Paired (zid c G) vs ps
 | _,[],.nil=>.nil
 | _,_::_,.cons r t=>.cons r (zo3 t)
theorem zrk {c:Cl} {G:Hp}:∀{vs:List V} {ps:List Contact},Paired (zdz c G) vs (ps.map some)→Paired (znS c G) vs ps
 | _,[],.nil=>.nil
 | _,_::_,.cons r t=>.cons r (zrk t)
theorem ZR.opened {c:Cl} {G:Hp} {v:V} {m:Msg} (h:ZR c G v m):∃a dx fv hv bv v3 v4 v5 v6 v7 v8,v=.ref a∧G a=some (.ins c.Message dx (yw fv hv bv v3 v4 v5 v6 v7 v8))∧MsF c G m fv hv bv v3 v4 v5 v6 v7 v8:=by
 obtain ⟨b,f,hs,r,⟨a,dx,fv,hv,bv,v3,v4,v5,v6,v7,v8,e,ho,mf⟩,im,_⟩:=h
 refine ⟨a,dx,fv,hv,bv,v3,v4,v5,v6,v7,v8,e,ho,?_⟩
 obtain ⟨h1,h2,h3,h4,h5,h6,h7,h8,h9⟩:=mf
 refine ⟨by rw [im.line];exact h1,h2,by rw [im.body];exact h3,?_,?_,?_,?_,?_,h9⟩
 ·obtain ⟨p,vs,e,hp,hR⟩:=h4
  rw [Zh.mp im.vias] at hR
  exact ⟨p,vs,e,hp,zo3 hR⟩
 ·have:=im.from_
  rw [Zg _ _ _ Qu] at this
  rw [this] at h5
  exact h5
 ·have:=im.to
  rw [Zg _ _ _ Qu] at this
  rw [this] at h6
  exact h6
 ·obtain ⟨p,vs,e,hp,hR⟩:=h7
  rw [Zh.mp im.contacts] at hR
  exact ⟨p,vs,e,hp,zrk hR⟩
 ·have:=im.id
  rw [Zg _ _ _ (by rfl)] at this
  split at this
  ·have e:=Option.some.inj this
   rw [← e]
   exact h8
  ·cases this
theorem ZR.raw {c:Cl} {G:Hp} {v:V} {m:Msg} (h:ZR c G v m):∃line r,zmk c G v line m.first m.headers r:=by
 obtain ⟨b,f,hs,r,h,_⟩:=h
 exact ⟨f,r,h⟩
theorem zmk.mono {c:Cl} {G G':Hp} {v:V} {line:B} {first:First} {l:List Header} {r:B} (s:zC G G') (h:zmk c G v line first l r):zmk c G' v line first l r:=by
 obtain ⟨a,dx,fv,hv,bv,v3,v4,v5,v6,v7,v8,e,ho,mf⟩:=h
 exact ⟨a,dx,fv,hv,bv,v3,v4,v5,v6,v7,v8,e,s _ _ ho,mf.mono s⟩
theorem ZR.mono {c:Cl} {G G':Hp} {v:V} {m:Msg} (s:zC G G') (h:ZR c G v m):ZR c G' v m:=by
 obtain ⟨b,f,hs,r,h,im⟩:=h
 exact ⟨b,f,hs,r,h.mono s,im⟩
theorem ZR.seq {c:Cl} {G:Hp} {v:V} {m:Msg} (h:ZR c G v m):cseqOf (zZ m.headers "cseq")=some m.cseq:=by
 obtain ⟨b,f,hs,r,h,im,_⟩:=h
 have:=im.cseq
 rw [Zg _ _ _ zdq] at this
 exact this
theorem ZR.exp {c:Cl} {G:Hp} {v:V} {m:Msg} (h:ZR c G v m):zhK m.headers=true∧zrE m.headers=zsw m.expires:=by
 obtain ⟨b,f,hs,r,h,im,_⟩:=h
 unfold zhK zrE
 rcases QA.mp im.expires with ⟨e1,e2⟩ | ⟨x,e1,e2,e3⟩
 ·rw [e1,e2];exact ⟨rfl,rfl⟩
 ·rw [e1,e3];exact ⟨e2,rfl⟩
noncomputable def znZ (c:Cl) (G:Hp) (v:V) (word:Option B) (p:Sa39.Place):Prop:=∃a wA dx,v=.ref a∧G a=some (.ins c.Place dx (zdo (.ref wA) (.int (p.host:Nat)) (.int (p.port:Nat))))∧zD G wA (word.getD [])∧(∀w,word=some w→wordOk w=true)∧p.port≤65535
theorem znZ.mono {c:Cl} {G G':Hp} {v:V} {w:Option B} {p:Sa39.Place} (s:zC G G') (h:znZ c G v w p):znZ c G' v w p:=by
 obtain ⟨a,wA,dx,e,h1,h2,h3⟩:=h;exact ⟨a,wA,dx,e,s _ _ h1,s _ _ h2,h3⟩
noncomputable def Z7 (c:Cl) (G:Hp) (v:V) (e:Sa39.Entry):Prop:=∃a wA pv iA dx,v=.ref a∧G a=some (.ins c.Entry dx (Yt (.ref wA) pv (.int (e.until_:Nat)) (.ref iA) (.int (e.cseq:Nat))))∧zD G wA e.whom∧znZ c G pv e.word e.place∧zD G iA e.id∧e.until_ < 2 ^ 32∧e.whom.length≤64
theorem Z7.mono {c:Cl} {G G':Hp} {v:V} {x:Sa39.Entry} (s:zC G G') (h:Z7 c G v x):Z7 c G' v x:=by
 obtain ⟨a,wA,pv,iA,dx,e,h1,h2,h3,h4,h5⟩:=h;exact ⟨a,wA,pv,iA,dx,e,s _ _ h1,s _ _ h2,h3.mono s,s _ _ h4,h5⟩
theorem zpp {a b:Option B} (ha:∀w,a=some w→wordOk w=true) (hb:∀w,b=some w→wordOk w=true):a.getD []=b.getD []↔a=b:=by
 have hn:∀w,wordOk w=true→w≠[]:=by rintro w h rfl;exact absurd h (by decide +kernel)
 cases a with
 | none=>cases b with
  | none=>simp
  | some y=>have:=hn y (hb y rfl);simp [this.symm,this]
 | some x=>cases b with
  | none=>have:=hn x (ha x rfl);simp [this]
  | some y=>simp
theorem zhq {K:PySem.W.Frag} {tl0 te:TE} {j:Nat} {σ:St} {H:Hp} {Q:VK} {β:Type} {r:List V→Hp→VK→Prop} {a:Addr} {xs:List V} {ys:List β} (R:V→β→Prop) (f:β→Bool) (hl:SqL K H a xs) (hR:Paired R xs ys)
  (h1:tl0 σ H fun v H1=>v=.ref a∧H1=H)
  (hs:∀x y H2 Q',R x y→zC H H2→(∀H3,zC H2 H3→Q' (.bl (f y)) H3)→te ((ZO σ [j]).set j (some x)) H2 Q')
  (hq:∀p H2,zC H H2→SqL K H2 p ((ys.map f).map V.bl)→r [.ref p] H2 Q):tCB r (zgJ (tLc (zfm K (zrw tl0)) (Jf j) ziq te [j]) znV) σ H Q:=by
 refine Qn (Q:=fun x H1=>r [x] H1 Q) (fun _ v (b:Bool)=>v=V.bl b) (fun _ _ _ _ _ h=>h) _ h1 ?_
 rintro v H1 ⟨rfl,rfl⟩
 have hll:=Paired.length hR
 refine ⟨a,xs,H1,fun i=>(ys[i]?).map f,rfl,hl,zC.refl _,fun i x G2 H2 P hx g2 hP=>?_,fun p vs G2 H2 g2 hp hG e hR2=>?_⟩
 ·obtain ⟨y,hy,hr⟩:=Paired.at_ hR hx
  simp only [hy,Option.map_some] at hP
  exact zdL (B:=P none H2) (hs x y H2 _ hr g2.hh fun H3 s3=>hP _ G2 H3 (zJ.more g2.gh s3) rfl)
 ·rw [hll,ZY] at hR2
  refine hq p H2 g2.hh (SqL.of ?_)
  rw [e]
  have:∀{vs:List V} {bs:List Bool},Paired (fun v b=>v=V.bl b) vs bs→vs=bs.map V.bl:=by
   intro vs bs h
   induction h with
   | nil=>rfl
   | cons r t ih=>rw [r,ih];rfl
  rw [this hR2]
noncomputable abbrev ziy (c:Cl):Sp:=fun vs H Q _=>∃v w p,vs=[v]∧znZ c H v w p∧∀q H',zC H H'→H q=none→zD H' q (targetText w p)→Q (.ref q) H'
noncomputable abbrev zdU (c:Cl):Sp:=fun vs H Q _=>∃v w p v' w' p',vs=[v,v']∧znZ c H v w p∧znZ c H v' w' p'∧Q (.bl (decide (w=w'∧p=p'))) H
noncomputable def zit:Contact→Bool
 | .all=>true
 | .at_ _=>false
noncomputable abbrev zj2 (c:Cl):Sp:=fun vs H Q _=>∃v m,vs=[v]∧ZR c H v m∧∀H',zC H H'→Q (.bl (m.contacts.any zit)) H'
noncomputable def Jh (m:Msg):Bool:=m.contacts.any zit&&(decide (m.contacts.length=1)&&decide (m.expires=some 0))
noncomputable abbrev zfQ (c:Cl):Sp:=fun vs H Q _=>∃v m,vs=[v]∧ZR c H v m∧∀H',zC H H'→Q (.bl (Jh m)) H'
noncomputable def zcF:Contact→Bool
 | .all=>false
 | .at_ n=>match n.target.host with
  | .address _=>true
  | .name _=>false
noncomputable abbrev zbf (c:Cl):Sp:=fun vs H Q _=>∃v m,vs=[v]∧ZR c H v m∧∀H',zC H H'→Q (.bl (if m.contacts.any zit=true then Jh m else m.contacts.all zcF)) H'
include T Fs
theorem zay:yG P w K mg base 5 "place_row" ["place"] (ziy c):=by
 refine Fs.d_place_row.ok ziL zjB (fun vs H Q E h=>?_) (fun f cdv A outer s H vs Q E hr h=>?_)
 ·obtain ⟨v,w,p,rfl,_⟩:=h;rfl
 ·obtain ⟨v,w,p,rfl,⟨a,wA,dx,rfl,h1,h2,h3,h4⟩,k⟩:=h
  refine ⟨_,(zg (zm (zq (zht T Fs) (hr.mono (by decide)) rfl (zl (zj (K:=K) (pv 0) rfl) (zl (zj (K:=K) (pv 0) rfl) (zl (zj (K:=K) (pv 0) rfl) zb)))))),fun hL=>?_⟩
  refine ⟨_,rfl,a,_,dx,_,_,rfl,h1,T.k_Place,T.n_Place_word,zaD _ _ _,_,rfl,a,_,dx,_,_,rfl,h1,T.k_Place,T.n_Place_address,Z3 _ _ _,_,rfl,a,_,dx,_,_,rfl,h1,T.k_Place,T.n_Place_port,QH _ _ _,wA,w,p.host,p.port,rfl,h2,h3,?_,k⟩
  rw [p64];omega
theorem zd1:yG P w K mg base 1 "is_same_place" ["place","other"] (zdU c):=by
 refine Fs.d_is_same_place.ok zdY zd9 (fun vs H Q E h=>?_) (fun f cdv A outer s H vs Q E hr h=>?_)
 ·obtain ⟨v,w,p,v',w',p',rfl,_⟩:=h;rfl
 ·obtain ⟨v,w,p,v',w',p',rfl,⟨a,wA,dx,rfl,h1,h2,h3,h4⟩,⟨a',wA',dx',rfl,h1',h2',h3',h4'⟩,k⟩:=h
  refine ⟨_,(zg (zm (Yb (yj (yd (K:=K) hr.units) (zj (K:=K) (pv 0) rfl) (zj (K:=K) (pv 1) rfl) (zz _)) (Yb (yj Z0 (zj (K:=K) (pv 0) rfl) (zj (K:=K) (pv 1) rfl) (zz _)) (Zn (yj Z0 (zj (K:=K) (pv 0) rfl) (zj (K:=K) (pv 1) rfl) (zz _))))))),fun hL=>?_⟩
  refine ⟨_,rfl,a,_,dx,_,_,rfl,h1,T.k_Place,T.n_Place_word,zaD _ _ _,_,rfl,a',_,dx',_,_,rfl,h1',T.k_Place,T.n_Place_word,zaD _ _ _,wA,wA',_,_,rfl,rfl,SqL.of h2,SqL.of h2',_,rfl,zR (fun q1=>?_) (fun q1=>?_)⟩
  ·have e1:w=w':=(zpp h3 h3').mp (by simpa using q1)
   refine ⟨_,rfl,a,_,dx,_,_,rfl,h1,T.k_Place,T.n_Place_address,Z3 _ _ _,_,rfl,a',_,dx',_,_,rfl,h1',T.k_Place,T.n_Place_address,Z3 _ _ _,rfl,_,rfl,zR (fun q2=>?_) (fun q2=>?_)⟩
   ·refine ⟨_,rfl,a,_,dx,_,_,rfl,h1,T.k_Place,T.n_Place_port,QH _ _ _,_,rfl,a',_,dx',_,_,rfl,h1',T.k_Place,T.n_Place_port,QH _ _ _,rfl,qb ?_ k⟩
    have e2:p.host=p'.host:=by simp at q2;omega
    cases p;cases p'
    simp at e2
    rw [Bool.eq_iff_iff]
    simp [e1,e2]
    omega
   ·refine qb ?_ k
    rw [decide_eq_false]
    rintro ⟨_,rfl⟩
    exact q2 (by simp)
  ·refine qb ?_ k
   rw [decide_eq_false]
   rintro ⟨rfl,_⟩
   exact q1 (by simp)
theorem ze5:yG P w K mg base 1 "has_star" ["request"] (zj2 c):=by
 refine Fs.d_has_star.ok zbh zkE (fun vs H Q E h=>?_) (fun f cdv A outer s H vs Q E hr h=>?_)
 ·obtain ⟨v,m,rfl,_⟩:=h;rfl
 ·obtain ⟨v,m,rfl,hm,k⟩:=h
  obtain ⟨a,dx,fv,hv,bv,v3,v4,v5,v6,v7,v8,rfl,ho,mf⟩:=hm.opened
  refine ⟨_,(zg (zm (yo (znF (K:=K) rfl) rfl T.b_any zpl (zl (Q2 rfl zbh.nd (zK (K:=K) (yX (zj (K:=K) (pv 0) rfl))) (z3 (own:=[("contact",1)]) (by exact rfl)) (fun _ _ _ _ _=>zX (i:=1) zbh.nd rfl (Or.inl rfl)) (fun _ _ _ _ _=>yK) (fun _ _ _ _ _=>(yj YG (zj (K:=K) (pv 1) rfl) zY (zz _)))) zb)))),fun hL=>?_⟩
  obtain ⟨p,vs,rfl,hp,hR⟩:=mf.ct
  refine zf1 ?_
  refine zhq (znS c H) zit (SqL.of hp) hR ⟨_,rfl,a,_,dx,_,_,rfl,ho,T.k_Message,T.n_Message_contacts,yQ _ _ _ _ _ _ _ _ _,rfl,rfl⟩ (fun x y H2 Q' hr s2 kk=>?_) (fun p2 H2 s2 e2=>⟨p2,_,rfl,e2,qb ?_ (k H2 s2)⟩)
  ·cases y with
   | all=>
    obtain ⟨b,pv,dx',rfl,h1⟩:=hr
    exact ⟨_,rfl,b,_,dx',_,_,rfl,s2 _ _ h1,T.k_Party,T.n_Party_target,yB _ _,rfl,kk H2 (zC.refl _)⟩
   | at_ n=>
    obtain ⟨b,tv,pv,dx',txt,rfl,h1,h2,_⟩:=hr
    refine ⟨_,rfl,b,_,dx',_,_,rfl,s2 _ _ h1,T.k_Party,T.n_Party_target,yB _ _,rfl,qb ?_ (kk H2 (zC.refl _))⟩
    obtain ⟨o,_,_,_,_,_,eo,_⟩:=h2
    rw [eo];rfl
  ·rw [List.any_map];rfl
theorem za3:yG P w K mg base 4 "is_clearing" ["request"] (zfQ c):=by
 refine Fs.d_is_clearing.ok zfX zgg (fun vs H Q E h=>?_) (fun f cdv A outer s H vs Q E hr h=>?_)
 ·obtain ⟨v,m,rfl,_⟩:=h;rfl
 ·obtain ⟨v,m,rfl,hm,k⟩:=h
  have hm':=hm
  obtain ⟨a,dx,fv,hv,bv,v3,v4,v5,v6,v7,v8,rfl,ho,mf⟩:=hm.opened
  obtain ⟨line,r,hmo⟩:=hm'.raw
  refine ⟨_,(zg (zm (Yb (zq (ze5 T Fs) (hr.mono (by decide)) rfl (zl (pv 0) zb)) (Yb (yj Z0 (yo (zx (K:=K)) rfl T.b_len PySem.boot_len (zl (zj (K:=K) (pv 0) rfl) zb)) zu (zz _)) (Zn (yj Z0 (zq (zcm T Fs) (hr.mono (by decide)) rfl (zl (pv 0) zb)) zu (zz _))))))),fun hL=>?_⟩
  obtain ⟨p,vs,rfl,hp,hR⟩:=mf.ct
  have hl:=Paired.length hR
  refine ⟨_,rfl,_,m,rfl,hm',fun H1 s1=>⟨_,rfl,zR (fun h1=>?_) (fun h1=>?_)⟩⟩
  ·refine ⟨_,rfl,a,_,dx,_,_,rfl,s1 _ _ ho,T.k_Message,T.n_Message_contacts,yQ _ _ _ _ _ _ _ _ _,p,_,rfl,.inl (SqL.of (s1 _ _ hp)),rfl,_,rfl,zR (fun h2=>?_) (fun h2=>?_)⟩
   ·refine ⟨_,rfl,H,_,line,m.first,m.headers,r,rfl,s1,hmo,hm'.exp.1,fun H2 s2=>?_⟩
    rw [hm'.exp.2]
    have e2:m.contacts.length=1:=by simp at h2;omega
    refine ⟨by cases m.expires <;> rfl,qb ?_ (k H2 (s1.trans s2))⟩
    unfold Jh
    rw [h1,e2]
    cases m.expires with
    | none=>rfl
    | some n=>
     rw [Bool.eq_iff_iff]
     simp [zsw]
   ·refine qb ?_ (k H1 s1)
    unfold Jh
    rw [decide_eq_false (show ¬ m.contacts.length=1 by simp at h2;omega)]
    simp
  ·refine qb ?_ (k H1 s1)
   unfold Jh
   rw [Bool.not_eq_true] at h1
   rw [h1];rfl
end
section
variable {P:Program} {w:World} {K:PySem.W.Frag} {mg:Str→Option Value} {base:Heap} {c:Cl} {le ln:Addr} (T:Txt K mg c le ln) (Fs:YM K mg c)
noncomputable abbrev zdW (c:Cl):Sp:=fun vs H Q _=>∃G v n h,vs=[v]∧zC G H∧zmo c G v n∧n.target.host=.address h∧n.target.port≤65535∧∀v' G' H',zJ G H G' H'→znZ c G' v' n.target.word ⟨h,n.target.port⟩→Q v' H'
noncomputable abbrev zew (c:Cl):Sp:=fun vs H Q _=>∃v n mv m,vs=[v,mv]∧zmo c H v n∧ZR c H mv m∧∀H',zC H H'→Q (.int (lasts m n:Nat)) H'
noncomputable abbrev zdV (c:Cl):Sp:=fun vs H Q _=>∃G v es,∃now:Nat,vs=[v,.int now]∧zC G H∧zL (Z7 c) G v es∧∀v' G' H',zJ G H G' H'→zL (Z7 c) G' v' (es.filter fun e=>decide (now < e.until_))→Q v' H'
noncomputable abbrev zgV (c:Cl):Sp:=fun vs H Q _=>∃G v es wA w,vs=[v,.ref wA]∧zC G H∧zL (Z7 c) G v es∧zD H wA w∧∀v' G' H',zJ G H G' H'→zL (Z7 c) G' v' (es.filter fun e=>e.whom == w)→Q v' H'
noncomputable abbrev zcN (c:Cl):Sp:=fun vs H Q _=>∃mv m v es,vs=[mv,v]∧ZR c H mv m∧zL (Z7 c) H v es∧∀H',zC H H'→Q (.bl (es.any fun e=>e.id == m.id&&decide (m.cseq.1≤e.cseq))) H'
noncomputable abbrev zex (c:Cl):Sp:=fun vs H Q _=>∃v e,∃now:Nat,vs=[v,.int now]∧Z7 c H v e∧now≤e.until_∧∀p H',zC H H'→H p=none→zD H' p (contactLine now e)→Q (.ref p) H'
theorem Y3 {α:Type} (p:α→Bool) (l:List α):l.filterMap (fun x=>if p x=true then some x else none)=l.filter p:=by
 induction l with
 | nil=>rfl
 | cons a t ih=>
  rw [List.filterMap_cons,List.filter_cons]
  by_cases h:p a=true
  ·rw [if_pos h,if_pos h,ih]
  ·rw [if_neg h,if_neg h,ih]
theorem zkv {b:B}:digits 9 b=if zG b 9=true then some (natOf b) else none:=zaH ..
theorem zoE (m:Msg) (n:Named):lasts m n=match (Q3 n.params (ascii "expires")).find? fun v=>zG v 9 with
  | some v=>natOf v
  | none=>m.expires.getD 3600:=by
 unfold lasts Q3
 have:∀ps:Sa39.Params,(ps.filterMap fun p=>if p.1=ascii "expires" then p.2.bind (digits 9) else none).head?=(((ps.filter fun y=>y.1 == ascii "expires").map zim).find? fun v=>zG v 9).map natOf:=by
  intro ps
  induction ps with
  | nil=>rfl
  | cons p t ih=>
   rw [List.filterMap_cons,List.filter_cons]
   by_cases h:p.1=ascii "expires"
   ·rw [if_pos h,if_pos (by simpa using h),List.map_cons,List.find?_cons]
    cases e:p.2 with
    | none=>
     have:zim p=[]:=by unfold zim;rw [e];rfl
     rw [this,show zG [] 9=false from by decide +kernel]
     simpa using ih
    | some x=>
     have:zim p=x:=by unfold zim;rw [e];rfl
     rw [this,Option.bind_some,zkv]
     by_cases hd:zG x 9=true
     ·rw [if_pos hd,hd];rfl
     ·rw [if_neg hd,Bool.eq_false_iff.mpr hd]
      exact ih
   ·rw [if_neg h,if_neg (by simpa using h)]
    exact ih
 rw [this]
 cases (((n.params.filter fun y=>y.1 == ascii "expires").map zim).find? fun v=>zG v 9) <;> rfl
theorem zoW {α:Type} {p:α→Bool} {l:List α}:(l.map p).any id=l.any p:=by rw [List.any_map];rfl
include T Fs
theorem zbF:yG P w K mg base 5 "has_fit_contacts" ["request"] (zbf c):=by
 refine Fs.d_has_fit_contacts.ok ZJ zbN (fun vs H Q E h=>?_) (fun f cdv A outer s H vs Q E hr h=>?_)
 ·obtain ⟨v,m,rfl,_⟩:=h;rfl
 ·obtain ⟨v,m,rfl,hm,k⟩:=h
  have hm':=hm
  obtain ⟨a,dx,fv,hv,bv,v3,v4,v5,v6,v7,v8,rfl,ho,mf⟩:=hm.opened
  refine ⟨_,(zc (z4 (yi (zq (ze5 T Fs) (hr.mono (by decide)) rfl (zl (pv 0) zb))) (zg (zm (zq (za3 T Fs) (hr.mono (by decide)) rfl (zl (pv 0) zb)))) zF) (zg (zm (yo (zbJ (K:=K) rfl) rfl T.b_all zfG (zl (Q2 rfl ZJ.nd (zK (K:=K) (yX (zj (K:=K) (pv 0) rfl))) (z3 (own:=[("contact",1)]) (by exact rfl)) (fun _ _ _ _ _=>zX (i:=1) ZJ.nd rfl (Or.inl rfl)) (fun _ _ _ _ _=>yK) (fun _ _ _ _ _=>(yj zkg (zj (K:=K) (zj (K:=K) (zj (K:=K) (pv 1) rfl) rfl) rfl) zY (zz _)))) zb))))),fun hL=>?_⟩
  obtain ⟨p,vs,rfl,hp,hR⟩:=mf.ct
  refine ⟨_,rfl,_,m,rfl,hm',fun H1 s1=>⟨_,rfl,zR (fun h1=>?_) (fun h1=>?_)⟩⟩
  ·rw [if_pos h1] at k
   exact ⟨_,rfl,_,m,rfl,hm'.mono s1,fun H2 s2=>k H2 (s1.trans s2)⟩
  ·walk_at "nx"
   rw [if_neg h1] at k
   refine zf1 ?_
   have hR1:Paired (fun v y=>znS c H1 v y∧y ∈ m.contacts) vs m.contacts:=by
    have:∀{vs:List V} {ys:List Contact},Paired (znS c H) vs ys→Paired (fun v y=>znS c H1 v y∧y ∈ ys) vs ys:=by
     intro vs ys h
     induction h with
     | nil=>exact .nil
     | cons r t ih=>exact .cons ⟨r.mono s1,List.mem_cons_self⟩ (Paired.mapP ih fun v y h=>⟨h.1,List.mem_cons_of_mem _ h.2⟩)
    exact this hR
   refine zhq _ zcF (SqL.of (s1 _ _ hp)) hR1 ⟨_,rfl,a,_,dx,_,_,rfl,s1 _ _ ho,T.k_Message,T.n_Message_contacts,yQ _ _ _ _ _ _ _ _ _,rfl,rfl⟩ (fun x y H2 Q' hr s2 kk=>?_) (fun p2 H2 s2 e2=>⟨p2,_,rfl,e2,qb ?_ (k H2 (s1.trans s2))⟩)
   ·obtain ⟨hr,hy⟩:=hr
    cases y with
    | all=>exact absurd (List.any_eq_true.mpr ⟨_,hy,rfl⟩) h1
    | at_ n=>
     obtain ⟨b,tv,pv,dx',txt,rfl,q1,q2,_⟩:=hr
     obtain ⟨o,rA,wA,dx2,ev,hb,rfl,q3,q4,q5,⟨o2,hA,dx3,rfl,q6,q7⟩,q8⟩:=q2
     refine ⟨_,rfl,b,_,dx',_,_,rfl,s2 _ _ q1,T.k_Party,T.n_Party_target,yB _ _,o,_,dx2,_,_,rfl,s2 _ _ q3,T.k_Target,T.n_Target_endpoint,Zv _ _ _,o2,_,dx3,_,_,rfl,s2 _ _ q6,T.k_Endpoint,T.n_Endpoint_address,yc _ _ _,rfl,qb ?_ (kk H2 (zC.refl _))⟩
     unfold zcF
     simp only
     cases n.target.host <;> rfl
   ·rw [List.all_map];rfl
theorem zd2:yG P w K mg base 3 "contact_place" ["contact"] (zdW c):=by
 refine Fs.d_contact_place.ok JO zeb (fun vs H Q E h=>?_) (fun f cdv A outer s H vs Q E hr h=>?_)
 ·obtain ⟨G,v,n,h,rfl,_⟩:=h;rfl
 ·obtain ⟨G,v,n,h,rfl,sg,⟨b,tv,pvv,dx',txt,rfl,q1,⟨o,rA,wA,dx2,ev,hb,rfl,q3,q4,q5,⟨o2,hA,dx3,rfl,q6,q7⟩,q8⟩,_⟩,hh,hp,k⟩:=h
  refine ⟨_,(zc (zE (i:=1) JO.nd rfl (Or.inl rfl) (zj (K:=K) (zj (K:=K) (pv 0) rfl) rfl)) (zg (zm (YY (zhz T Fs) (hr.mono (by decide)) rfl (zl (zj (K:=K) (zj (K:=K) (pv 0) rfl) rfl) (zl (zj (K:=K) (pv 1) rfl) (zl (zj (K:=K) (pv 1) rfl) zb))))))),fun hL=>?_⟩
  rw [hh] at q6
  refine ⟨_,rfl,b,_,dx',_,_,rfl,sg _ _ q1,T.k_Party,T.n_Party_target,yB _ _,o,_,dx2,_,_,rfl,sg _ _ q3,T.k_Target,T.n_Target_endpoint,Zv _ _ _,?_⟩
  walk_at "nm"
  refine ⟨_,rfl,b,_,dx',_,_,rfl,sg _ _ q1,T.k_Party,T.n_Party_target,yB _ _,o,_,dx2,_,_,rfl,sg _ _ q3,T.k_Target,T.n_Target_word,yZ _ _ _,_,rfl,o2,_,dx3,_,_,rfl,sg _ _ q6,T.k_Endpoint,T.n_Endpoint_address,yc _ _ _,_,rfl,o2,_,dx3,_,_,rfl,sg _ _ q6,T.k_Endpoint,T.n_Endpoint_port,yV _ _ _,fun o dx no ndx ne=>⟨o,dx,_,_,_,rfl,za,fun H10 q1 q2=>zfb (fun o H10 s10 no he=>?_) no ndx q1 q2⟩⟩
  obtain ⟨dx,he⟩:=he
  refine k _ (upd G o _) H10 (zJ.keep sg s10 no he) ?_
  exact ⟨o,wA,dx,rfl,za,(zd (sg.free no)) _ _ q5,q8,hp⟩
theorem ze6:yG P w K mg base 4 "contact_span" ["contact","request"] (zew c):=by
 refine Fs.d_contact_span.ok Qg zfA (fun vs H Q E h=>?_) (fun f cdv A outer s H vs Q E hr h=>?_)
 ·obtain ⟨v,n,mv,m,rfl,_⟩:=h;rfl
 ·obtain ⟨v,n,mv,m,rfl,⟨b,tv,pvv,dx',txt,rfl,q1,q2,q3⟩,hm,k⟩:=h
  refine ⟨_,(zc (JP PassesOwn.never rfl (zK (K:=K) (zq (Z1 T Fs) (hr.mono (by decide)) rfl (zl (zj (K:=K) (pv 0) rfl) (zl yt zb)))) (zX (i:=2) Qg.nd rfl (Or.inl rfl)) (zg (z4 (yi (zq (Zo T Fs) (hr.mono (by decide)) rfl (zl (pv 2) (zl (zN T.c_MOST_NUMBER_DIGITS rfl) zb)))) (zg (zm (zq (yz T Fs) (hr.mono (by decide)) rfl (zl (pv 2) zb)))) zF))) (zc (zE (i:=3) Qg.nd rfl (Or.inl rfl) (zq (zcm T Fs) (hr.mono (by decide)) rfl (zl (pv 1) zb))) (zg (zm (yI (zw YG (pv 3) zY (zz _)) (zN T.c_USUAL_SPAN rfl) (pv 3)))))),fun hL=>?_⟩
  rw [zoE] at k
  refine ⟨_,rfl,b,_,dx',_,_,rfl,q1,T.k_Party,T.n_Party_parameters,QI _ _,H,_,_,"expires",rfl,zC.refl _,q3,(by decide +kernel),fun v1 G1 H1 g1 ⟨p,vs,ev,hp,hR⟩=>?_⟩
  rw [zB] at hR
  generalize Q3 n.params (ascii "expires")=us at hR k
  have hl:=Paired.length hR
  have hpH:=g1.gh _ _ hp
  refine ⟨p,_,ev,SqL.of hpH,fun _=>Yy (K:=K) (a:=p) (xs:=vs) (fun i σ H'=>∃v x,σ=[some (.ref b),some mv,v,x]∧zC H1 H'∧(us.find? fun v=>zG v 9)=((us.drop i).find? fun v=>zG v 9)) ⟨none,none,rfl,zC.refl _,rfl⟩ (fun i σ H' _ ⟨_,_,_,s2,_⟩=>SqL.of (s2 _ _ hpH)) ?_ ?_⟩
  ·rintro i x σ H' hi ⟨w1,w2,rfl,s2,hf⟩
   obtain ⟨l,hl,lA,rfl,hrow,_⟩:=Paired.at_ hR hi
   have hrow':=s2 _ _ (g1.gh _ _ hrow)
   rw [Jg hl,List.find?_cons] at hf
   refine ⟨_,rfl,lA,l,9,rfl,hrow',fun H2 s3=>⟨_,rfl,zR (fun h2=>?_) (fun h2=>?_)⟩⟩
   ·refine ⟨_,rfl,lA,l,rfl,s3 _ _ hrow',(z8.mp h2).2.2,?_⟩
    rw [h2] at hf
    rw [hf] at k
    exact k H2 (g1.hh.trans (s2.trans s3))
   ·rw [Bool.eq_false_iff.mpr h2] at hf
    exact ⟨_,_,rfl,s2.trans s3,hf⟩
  ·rintro σ H' ⟨w1,w2,rfl,s2,hf⟩
   rw [hl,List.drop_length] at hf
   have hs:=g1.hh.trans s2
   obtain ⟨line,r,hmo⟩:=hm.raw
   refine ⟨_,rfl,H,mv,line,_,_,r,rfl,hs,hmo,hm.exp.1,fun H2 s3=>?_⟩
   walk_at "nm"
   rw [hm.exp.2]
   rw [hf] at k
   simp only [List.find?_nil] at k
   cases em:m.expires with
   | none=>
    rw [em] at k
    exact ⟨_,rfl,rfl,_,rfl,k H2 (hs.trans s3)⟩
   | some n=>
    rw [em] at k
    exact ⟨_,rfl,rfl,_,rfl,_,rfl,k H2 (hs.trans s3)⟩
theorem YW:yG P w K mg base 1 "entries_there" ["entries","now"] (zdV c):=by
 refine Fs.d_entries_there.ok YN zea (fun vs H Q E h=>?_) (fun f cdv A outer s H vs Q E hr h=>?_)
 ·obtain ⟨G,v,es,now,rfl,_⟩:=h;rfl
 ·obtain ⟨G,v,es,now,rfl,sg,⟨pA,vs,rfl,hp,hR⟩,k⟩:=h
  refine ⟨_,(zg (zm (Q2 rfl YN.nd (zK (K:=K) (yX (pv 0))) (z3 (own:=[("entry",2)]) (by exact rfl)) (fun _ _ _ _ _=>zX (i:=2) YN.nd rfl (Or.inl rfl)) (fun _ _ _ _ _=>(zc3 (zw zhs (zj (K:=K) (pv 2) rfl) (pv 1) (zz _)))) (fun _ _ _ _ _=>(pv 2))))),fun hL=>?_⟩
  refine zf1 ?_
  refine Qn (Z7 c) (fun _ _ _ _=>Z7.mono) (fun v H1=>v=.ref pA∧H1=H) ⟨_,rfl,rfl,rfl⟩ ?_
  rintro v H1 ⟨rfl,rfl⟩
  have hl:=Paired.length hR
  refine ⟨pA,vs,G,fun i=>(es[i]?).bind fun e=>if decide (now < e.until_)=true then some e else none,rfl,SqL.of (sg _ _ hp),sg,fun i y G2 H2 P hy g2 hP=>?_,fun p4 us G4 H4 g4 hp4 hG4 e4 hR4=>?_⟩
  ·obtain ⟨e,hpi,hE⟩:=Paired.at_ hR hy
   simp only [hpi,Option.bind_some] at hP
   have hE':=hE
   obtain ⟨a,wA,pv,iA,dx,rfl,h1,_⟩:=hE
   refine ⟨_,rfl,a,_,dx,_,_,rfl,g2.s _ _ h1,T.k_Entry,T.n_Entry_until,JI _ _ _ _ _,_,rfl,_,_,rfl,rfl,_,rfl,zR (fun h6=>?_) (fun h6=>?_)⟩
   ·rw [if_pos (by simp at h6 ⊢;omega)] at hP
    exact ⟨_,rfl,hP _ G2 H2 (zJ.refl g2.gh) (Z7.mono g2.gg hE')⟩
   ·rw [if_neg (by simp at h6 ⊢;omega)] at hP
    exact hP G2 H2 (zJ.refl g2.gh)
  ·rw [hl,Y7,Y3 (fun e:Sa39.Entry=>decide (now < e.until_))] at hR4
   refine k _ (upd G4 p4 (.lst us)) H4 (g4.pub hp4 hG4 e4) ⟨p4,us,rfl,za,Paired.mapP hR4 fun v y=>Z7.mono (zd hG4)⟩
theorem JD:yG P w K mg base 1 "entries_of" ["entries","whom"] (zgV c):=by
 refine Fs.d_entries_of.ok Jo zhY (fun vs H Q E h=>?_) (fun f cdv A outer s H vs Q E hr h=>?_)
 ·obtain ⟨G,v,es,wA,w,rfl,_⟩:=h;rfl
 ·obtain ⟨G,v,es,xA,w,rfl,sg,⟨pA,vs,rfl,hp,hR⟩,hw,k⟩:=h
  refine ⟨_,(zg (zm (Q2 rfl Jo.nd (zK (K:=K) (yX (pv 0))) (z3 (own:=[("entry",2)]) (by exact rfl)) (fun _ _ _ _ _=>zX (i:=2) Jo.nd rfl (Or.inl rfl)) (fun _ _ _ _ _=>(zc3 (zw (yd (K:=K) hr.units) (zj (K:=K) (pv 2) rfl) (pv 1) (zz _)))) (fun _ _ _ _ _=>(pv 2))))),fun hL=>?_⟩
  refine zf1 ?_
  refine Qn (Z7 c) (fun _ _ _ _=>Z7.mono) (fun v H1=>v=.ref pA∧H1=H) ⟨_,rfl,rfl,rfl⟩ ?_
  rintro v H1 ⟨rfl,rfl⟩
  have hl:=Paired.length hR
  refine ⟨pA,vs,G,fun i=>(es[i]?).bind fun e=>if (e.whom == w)=true then some e else none,rfl,SqL.of (sg _ _ hp),sg,fun i y G2 H2 P hy g2 hP=>?_,fun p4 us G4 H4 g4 hp4 hG4 e4 hR4=>?_⟩
  ·obtain ⟨e,hpi,hE⟩:=Paired.at_ hR hy
   simp only [hpi,Option.bind_some] at hP
   have hE':=hE
   obtain ⟨a,wA,pv,iA,dx,rfl,h1,h2,_⟩:=hE
   refine ⟨_,rfl,a,_,dx,_,_,rfl,g2.s _ _ h1,T.k_Entry,T.n_Entry_whom,QJ _ _ _ _ _,_,rfl,wA,xA,_,_,rfl,rfl,SqL.of (g2.s _ _ h2),SqL.of (g2.hh _ _ hw),_,rfl,zR (fun h6=>?_) (fun h6=>?_)⟩
   ·rw [if_pos (by simpa using h6)] at hP
    exact ⟨_,rfl,hP _ G2 H2 (zJ.refl g2.gh) (Z7.mono g2.gg hE')⟩
   ·rw [if_neg (by simpa using h6)] at hP
    exact hP G2 H2 (zJ.refl g2.gh)
  ·rw [hl,Y7,Y3 (fun e:Sa39.Entry=>e.whom == w)] at hR4
   refine k _ (upd G4 p4 (.lst us)) H4 (g4.pub hp4 hG4 e4) ⟨p4,us,rfl,za,Paired.mapP hR4 fun v y=>Z7.mono (zd hG4)⟩
theorem zda:yG P w K mg base 3 "comes_too_late" ["request","entries"] (zcN c):=by
 refine Fs.d_comes_too_late.ok Zt zdv (fun vs H Q E h=>?_) (fun f cdv A outer s H vs Q E hr h=>?_)
 ·obtain ⟨mv,m,v,es,rfl,_⟩:=h;rfl
 ·obtain ⟨mv,m,v,es,rfl,hm,⟨pA,vs,rfl,hp,hR⟩,k⟩:=h
  refine ⟨_,(zc (zE (i:=2) Zt.nd rfl (Or.inr rfl) (zq (QF T Fs) (hr.mono (by decide)) rfl (zl (pv 0) zb))) (zg (zm (yo (znF (K:=K) rfl) rfl T.b_any zpl (zl (Q2 rfl Zt.nd (zK (K:=K) (yX (pv 1))) (z3 (own:=[("entry",3)]) (by exact rfl)) (fun _ _ _ _ _=>zX (i:=3) Zt.nd rfl (Or.inl rfl)) (fun _ _ _ _ _=>yK) (fun _ _ _ _ _=>(Yb (yj (yd (K:=K) hr.units) (zj (K:=K) (pv 3) rfl) (zj (K:=K) (pv 0) rfl) (zz _)) (Zn (yj zpK (zj (K:=K) (pv 3) rfl) (pv 2) (zz _)))))) zb))))),fun hL=>?_⟩
  obtain ⟨line,r,hmo⟩:=hm.raw
  obtain ⟨a,dx,fv,hv,bv,v3,v4,v5,v6,v7,v8,rfl,ho,mf⟩:=hm.opened
  obtain ⟨iA,rfl,hi,_⟩:=mf.id
  refine ⟨_,rfl,H,_,line,_,_,r,m.cseq,rfl,zC.refl _,hmo,hm.seq,fun H1 s1=>?_⟩
  walk_at "nm"
  refine zf1 ?_
  refine zhq (Z7 c H) (fun e=>e.id == m.id&&decide (m.cseq.1≤e.cseq)) (SqL.of (s1 _ _ hp)) hR ⟨_,rfl,rfl,rfl⟩ (fun x y H2 Q' hr s2 kk=>?_) (fun p2 H2 s2 e2=>⟨p2,_,rfl,e2,qb (zoW (p:=fun e:Sa39.Entry=>e.id == m.id&&decide (m.cseq.1≤e.cseq))).symm (k H2 (s1.trans s2))⟩)
  have s12:=s1.trans s2
  obtain ⟨b,wA,pv,jA,dx',rfl,h1,h2,h3,h4,_⟩:=hr
  refine ⟨_,rfl,b,_,dx',_,_,rfl,s12 _ _ h1,T.k_Entry,T.n_Entry_call_id,zfh _ _ _ _ _,_,rfl,a,_,dx,_,_,rfl,s12 _ _ ho,T.k_Message,T.n_Message_call_id,yF _ _ _ _ _ _ _ _ _,jA,iA,_,_,rfl,rfl,SqL.of (s12 _ _ h4),SqL.of (s12 _ _ hi),_,rfl,zR (fun q1=>?_) (fun q1=>?_)⟩
  ·refine ⟨_,rfl,b,_,dx',_,_,rfl,s12 _ _ h1,T.k_Entry,T.n_Entry_number,zgb _ _ _ _ _,_,rfl,_,_,rfl,rfl,qb ?_ (kk H2 (zC.refl _))⟩
   have e:y.id=m.id:=by simpa using q1
   rw [Bool.eq_iff_iff]
   simp [e]
  ·refine qb ?_ (kk H2 (zC.refl _))
   have e:¬ y.id=m.id:=by simpa using q1
   simp [e]
end
section
variable {P:Program} {w:World} {K:PySem.W.Frag} {mg:Str→Option Value} {base:Heap} {c:Cl} {le ln:Addr} (T:Txt K mg c le ln) (Fs:YM K mg c)
noncomputable def zeW (x:Via) (src:Nat):B:=if x.host=.address src then [] else ascii ";received="++addressText src
noncomputable abbrev zes (c:Cl):Sp:=fun vs H Q _=>∃v x,∃src:Nat,vs=[v,.int src]∧zid c H v x∧∀p H',zC H H'→H p=none→zD H' p (zeW x src)→Q (.ref p) H'
theorem zeg (x:Via) (src:Nat):(zeW x src).length≤93:=by
 unfold zeW
 split
 ·simp
 ·rw [List.length_append]
  have:=QN src
  have:(ascii ";received=").length=10:=by decide +kernel
  omega
theorem znZ.len {c:Cl} {G:Hp} {v:V} {w:Option B} {p:Sa39.Place} (h:znZ c G v w p):(targetText w p).length≤200:=by
 obtain ⟨_,_,_,_,_,_,hw,hp⟩:=h
 rw [show p=⟨p.host,p.port⟩ from rfl,zbQ]
 have a1:=QN p.host
 have a2:=Z6 p.port (by rw [p64];omega)
 have a3:(ascii "sip:").length=4:=by decide +kernel
 have a4:(zeo w).length≤65:=by
  unfold zeo
  cases e1:w with
  | none=>simp
  | some x=>simp;exact zee (hw x e1)
 simp only [List.length_append,List.length_cons]
 omega
noncomputable def JG (now:Nat) (e:Sa39.Entry):B:=e.whom++(ascii " "++(targetText e.word e.place++(ascii " "++(decimal (e.until_ - now)++ascii "\n"))))
noncomputable abbrev ziA (c:Cl):Sp:=fun vs H Q _=>∃v e,∃now:Nat,vs=[v,.int now]∧Z7 c H v e∧now≤e.until_∧∀p H',zC H H'→H p=none→zD H' p (JG now e)→Q (.ref p) H'
include T Fs
theorem zax:yG P w K mg base 3 "received_row" ["via","source"] (zes c):=by
 refine Fs.d_received_row.ok zeE zfw (fun vs H Q E h=>?_) (fun f cdv A outer s H vs Q E hr h=>?_)
 ·obtain ⟨v,x,src,rfl,_⟩:=h;rfl
 ·obtain ⟨v,x,src,rfl,⟨a,ev,pvv,bA,dx,hb,rfl,h1,⟨o,hA,dx',rfl,h2,h3⟩,h4⟩,k⟩:=h
  refine ⟨_,(zc (z4 (zw Z0 (zj (K:=K) (zj (K:=K) (pv 0) rfl) rfl) (pv 1) (zz _)) (zg (zm (zO zb))) zF) (zg (zm (zU yq (zq (zQ T Fs) (hr.mono (by decide)) rfl (zl yt zb)) (zq (za5 T Fs) (hr.mono (by decide)) rfl (zl (pv 1) zb)))))),fun hL=>?_⟩
  refine ⟨_,rfl,a,_,dx,_,_,rfl,h1,T.k_Via,T.n_Via_endpoint,ZH _ _ _,o,_,dx',_,_,rfl,h2,T.k_Endpoint,T.n_Endpoint_address,yc _ _ _,_,rfl,?_⟩
  refine ⟨by cases x.host <;> rfl,_,rfl,zR (fun q1=>?_) (fun q1=>?_)⟩
  ·refine ⟨Nat.zero_le _,fun p hp=>k p _ (zd hp) hp ?_⟩
   have:x.host=.address src:=by
    revert q1
    cases x.host with
    | name _=>simp [zd7]
    | address n=>simp [zd7];omega
   unfold zeW
   rw [if_pos this]
   exact za
  ·walk_at "nx"
   have:¬ x.host=.address src:=by
    intro e
    rw [e] at q1
    simp [zd7] at q1
   unfold zeW at k
   rw [if_neg this] at k
   refine ⟨";received=",rfl,(by decide +kernel),fun p H1 s1 hp e1=>⟨_,rfl,src,rfl,fun q H2 s2 hq e2=>⟨p,q,_,_,rfl,rfl,s2 _ _ e1,e2,?_,fun r hr=>?_⟩⟩⟩
   ·rw [zi,zi,zB]
    have:=QN src
    have:(ascii ";received=").length=10:=by decide +kernel
    exact sz (by omega)
   ·rw [yf,zB]
    exact k r _ (s1.trans (s2.trans (zd hr))) (s1.free (s2.free hr)) za
theorem ze7:yG P w K mg base 6 "contact_line" ["entry","now"] (zex c):=by
 refine Fs.d_contact_line.ok zeH zfB (fun vs H Q E h=>?_) (fun f cdv A outer s H vs Q E hr h=>?_)
 ·obtain ⟨v,e,now,rfl,_⟩:=h;rfl
 ·obtain ⟨v,e,now,rfl,⟨a,wA,pvv,iA,dx,rfl,h1,h2,h3,h4,h5,h6⟩,hn,k⟩:=h
  refine ⟨_,(zg (zm (zU yq (zU yq (zq (zQ T Fs) (hr.mono (by decide)) rfl (zl yt zb)) (zq (zay T Fs) (hr.mono (by decide)) rfl (zl (zj (K:=K) (pv 0) rfl) zb))) (zq (zQ T Fs) (hr.mono (by decide)) rfl (zl (zU Yq yt (zlH YL rfl T.b_str zjL (zl (zU zdD (zj (K:=K) (pv 0) rfl) (pv 1)) zb))) zb))))),fun hL=>?_⟩
  have hm:e.until_ - now < 2 ^ 64:=by
   have:(2:Nat) ^ 32=4294967296:=by decide +kernel
   rw [p64];omega
  have hl:=Z6 (e.until_ - now) hm
  have hi:((e.until_:Int) - (now:Int))=((e.until_ - now:Nat):Int):=by omega
  have ht:tl (Str.ofString ">;expires="++Str.ofString (toString ((e.until_ - now:Nat):Int)))=ascii ">;expires="++decimal (e.until_ - now):=by rw [TL.tl_append,JX,zB]
  have ht2:(Str.ofString ">;expires="++Str.ofString (toString ((e.until_ - now:Nat):Int))).cps.size=(ascii ">;expires="++decimal (e.until_ - now)).length:=by rw [← ht,Array.length_toList]
  have hx:(ascii ">;expires=").length=10:=by decide +kernel
  have hc:(ascii "Contact: <").length=10:=by decide +kernel
  have htt:=h3.len
  refine ⟨"Contact: <",rfl,(by decide +kernel),fun p H1 s1 hp e1=>⟨_,rfl,a,_,dx,_,_,rfl,s1 _ _ h1,T.k_Entry,T.n_Entry_place,Y2 _ _ _ _ _,_,_,_,rfl,h3.mono s1,fun q H2 s2 hq e2=>⟨p,q,_,_,rfl,rfl,s2 _ _ e1,e2,?_,fun r hr=>?_⟩⟩⟩
  ·rw [zi,zi,zB]
   exact sz (by omega)
  ·rw [yf,zB]
   have s3:=s1.trans (s2.trans (zd (o:=.lst (rv (ascii "Contact: <"++targetText e.word e.place))) hr))
   have e3:zD (upd H2 r (.lst (rv (ascii "Contact: <"++targetText e.word e.place)))) r (ascii "Contact: <"++targetText e.word e.place):=za
   generalize upd H2 r (.lst (rv (ascii "Contact: <"++targetText e.word e.place)))=H3 at s3 e3 ⊢
   refine ⟨_,rfl,a,_,dx,_,_,rfl,s3 _ _ h1,T.k_Entry,T.n_Entry_until,JI _ _ _ _ _,_,rfl,_,_,rfl,rfl,?_⟩
   refine ⟨((e.until_ - now:Nat):Int),congrArg (fun i=>[V.int i]) hi,zaC hm,_,_,rfl,rfl,?_,_,rfl,?_,fun q4 H4 s4 hq4 e4=>⟨r,q4,_,_,rfl,rfl,s4 _ _ e3,e4,?_,fun r5 hr5=>?_⟩⟩
   ·rw [QC,QC,JX,zB,sizeLine_eq]
    omega
   ·rw [ht2,List.length_append];omega
   ·rw [zi,zi,ht,List.length_append,List.length_append]
    exact sz (by omega)
   ·rw [yf,ht]
    refine k r5 _ (s3.trans (s4.trans (zd hr5))) (s3.free (s4.free hr5)) ?_
    unfold contactLine
    rw [List.append_assoc]
    exact za
theorem ziZ:yG P w K mg base 6 "list_line" ["entry","now"] (ziA c):=by
 refine Fs.d_list_line.ok ziM zjD (fun vs H Q E h=>?_) (fun f cdv A outer s H vs Q E hr h=>?_)
 ·obtain ⟨v,e,now,rfl,_⟩:=h;rfl
 ·obtain ⟨v,e,now,rfl,⟨a,wA,pvv,iA,dx,rfl,h1,h2,h3,h4,h5,h6⟩,hn,k⟩:=h
  refine ⟨_,(zg (zm (zU yq (zU yq (zU yq (zj (K:=K) (pv 0) rfl) (zq (zQ T Fs) (hr.mono (by decide)) rfl (zl yt zb))) (zq (zay T Fs) (hr.mono (by decide)) rfl (zl (zj (K:=K) (pv 0) rfl) zb))) (zq (zQ T Fs) (hr.mono (by decide)) rfl (zl (zU Yq (zU Yq yt (zlH YL rfl T.b_str zjL (zl (zU zdD (zj (K:=K) (pv 0) rfl) (pv 1)) zb))) yt) zb))))),fun hL=>?_⟩
  have hm:e.until_ - now < 2 ^ 64:=by
   have:(2:Nat) ^ 32=4294967296:=by decide +kernel
   rw [p64];omega
  have hl:=Z6 (e.until_ - now) hm
  have hi:((e.until_:Int) - (now:Int))=((e.until_ - now:Nat):Int):=by omega
  have ht:tl (Str.ofString " "++Str.ofString (toString ((e.until_ - now:Nat):Int))++Str.ofString "\n")=ascii " "++decimal (e.until_ - now)++ascii "\n":=by rw [TL.tl_append,TL.tl_append,JX,zB,zB]
  have ht2:(Str.ofString " "++Str.ofString (toString ((e.until_ - now:Nat):Int))++Str.ofString "\n").cps.size=(ascii " "++decimal (e.until_ - now)++ascii "\n").length:=by rw [← ht,Array.length_toList]
  have hx:(ascii " ").length=1:=by decide +kernel
  have hc:(ascii "\n").length=1:=by decide +kernel
  have htt:=h3.len
  refine ⟨_,rfl,a,_,dx,_,_,rfl,h1,T.k_Entry,T.n_Entry_whom,QJ _ _ _ _ _," ",rfl,(by decide +kernel),fun p H1 s1 hp e1=>⟨wA,p,_,_,rfl,rfl,s1 _ _ h2,e1,?_,fun r hr=>?_⟩⟩
  ·rw [zi,zi,zB]
   exact sz (by omega)
  ·rw [yf,zB]
   have s2:=s1.trans (zd (o:=.lst (rv (e.whom++ascii " "))) hr)
   have e2:zD (upd H1 r (.lst (rv (e.whom++ascii " ")))) r (e.whom++ascii " "):=za
   generalize upd H1 r (.lst (rv (e.whom++ascii " ")))=H2 at s2 e2 ⊢
   refine ⟨_,rfl,a,_,dx,_,_,rfl,s2 _ _ h1,T.k_Entry,T.n_Entry_place,Y2 _ _ _ _ _,_,_,_,rfl,h3.mono s2,fun q H3 s3 hq e3=>⟨r,q,_,_,rfl,rfl,s3 _ _ e2,e3,?_,fun r4 hr4=>?_⟩⟩
   ·rw [zi,zi,List.length_append]
    exact sz (by omega)
   ·rw [yf]
    have s4:=s2.trans (s3.trans (zd (o:=.lst (rv (e.whom++ascii " "++targetText e.word e.place))) hr4))
    have e4:zD (upd H3 r4 (.lst (rv (e.whom++ascii " "++targetText e.word e.place)))) r4 (e.whom++ascii " "++targetText e.word e.place):=za
    generalize upd H3 r4 (.lst (rv (e.whom++ascii " "++targetText e.word e.place)))=H4 at s4 e4 ⊢
    refine ⟨_,rfl,a,_,dx,_,_,rfl,s4 _ _ h1,T.k_Entry,T.n_Entry_until,JI _ _ _ _ _,_,rfl,_,_,rfl,rfl,?_⟩
    refine ⟨((e.until_ - now:Nat):Int),congrArg (fun i=>[V.int i]) hi,zaC hm,_,_,rfl,rfl,?_,_,_,rfl,rfl,?_,_,rfl,?_,fun q5 H5 s5 hq5 e5=>⟨r4,q5,_,_,rfl,rfl,s5 _ _ e4,e5,?_,fun r6 hr6=>?_⟩⟩
    ·rw [QC,QC,JX,zB,sizeLine_eq]
     omega
    ·rw [QC,QC,TL.tl_append,JX,zB,zB,List.length_append,sizeLine_eq]
     omega
    ·rw [ht2,List.length_append,List.length_append];omega
    ·rw [zi,zi,ht]
     simp only [List.length_append]
     exact sz (by omega)
    ·rw [yf,ht]
     refine k r6 _ (s4.trans (s5.trans (zd hr6))) (s4.free (s5.free hr6)) ?_
     unfold JG
     rw [show e.whom++(ascii " "++(targetText e.word e.place++(ascii " "++(decimal (e.until_ - now)++ascii "\n"))))=e.whom++ascii " "++targetText e.word e.place++(ascii " "++decimal (e.until_ - now)++ascii "\n") by simp only [List.append_assoc]]
     exact za
end
section
variable {P:Program} {w:World} {K:PySem.W.Frag} {mg:Str→Option Value} {base:Heap} {c:Cl} {le ln:Addr} (T:Txt K mg c le ln) (Fs:YM K mg c)
noncomputable def zp4 (b:B):PyData:=.list (b.map fun n:Nat=>.int (n:Int))
theorem zoH (b:B):PyData.canLayAll0 (b.map fun n:Nat=>.int (n:Int))=true∧PyData.depthAll (b.map fun n:Nat=>PyData.int (n:Int))≤1:=by
 induction b with
 | nil=>exact ⟨rfl,by decide⟩
 | cons n t ih=>constructor <;> simp [PyData.canLayAll0,PyData.canLay0,PyData.depthAll,PyData.depth] <;> first | exact ih.1 | (have:=ih.2;omega)
theorem zn9 (us:List B):PyData.canLayAll0 (us.map zp4)=true∧PyData.depthAll (us.map zp4)≤3:=by
 induction us with
 | nil=>exact ⟨rfl,by decide⟩
 | cons n t ih=>
  have:=zoH n
  constructor
  ·simp [PyData.canLayAll0,zp4,PyData.canLay0]
   exact ⟨this.1,ih.1⟩
  ·simp [PyData.depthAll,zp4,PyData.depth]
   have:=ih.2
   omega
theorem zkc (us:List B):SeqAt.shaped (.list (us.map zp4))=true:=by
 have:=zn9 us
 unfold SeqAt.shaped
 simp [PyData.canLay0,PyData.depth,this.1]
 omega
theorem znB {K:PySem.W.Frag} {H:Hp}:∀b:B,zjP K H (rv b) (b.map fun n:Nat=>PyData.int (n:Int))
 | []=>.nil
 | n::t=>.cons (.int n) (znB t)
theorem znA {K:PySem.W.Frag} {G H:Hp} (s:zC G H):∀{vs:List V} {us:List B},Paired (zoY G) vs us→zjP K H vs (us.map zp4)
 | _,_,.nil=>.nil
 | _,_,.cons ⟨a,e,h,_⟩ t=>.cons (e ▸ .lst (SqL.of (s _ _ h)) (znB _)) (znA s t)
theorem zoQ (us:List B):PyData.eqv (.list (us.map zp4)) (.list [])=decide (us=[]):=by
 cases us <;> rfl
noncomputable def zgG (c:Cl) (H:Hp) (v:V) (name:B) (own:Sa39.Place) (ev:V):Prop:=∃a nA dx,v=.ref a∧H a=some (.ins c.House dx (Ys (.ref nA) (.int (own.host:Nat)) (.int (own.port:Nat)) ev))∧zD H nA name∧name.length≤64∧own.port≤65535
theorem zgG.mono {c:Cl} {G G':Hp} {v:V} {n:B} {o:Sa39.Place} {e:V} (s:zC G G') (h:zgG c G v n o e):zgG c G' v n o e:=by
 obtain ⟨a,nA,dx,e,h1,h2,h3⟩:=h;exact ⟨a,nA,dx,e,s _ _ h1,s _ _ h2,h3⟩
noncomputable def zo5 (m:Msg) (name:B):B:=if (m.to.params.any fun p=>p.1 == ascii "tag")=true then [] else ascii ";tag="++hex16 (Sa39.sum (m.id++name))
noncomputable abbrev zlg (c:Cl):Sp:=fun vs H Q _=>∃hv mv name own ev m,vs=[hv,mv]∧zgG c H hv name own ev∧ZR c H mv m∧∀p H',zC H H'→H p=none→zD H' p (zo5 m name)→Q (.ref p) H'
theorem zi5 (ps:Sa39.Params) (n:B):Q3 ps n=[]↔(ps.any fun p=>p.1 == n)=false:=by
 unfold Q3
 rw [List.map_eq_nil_iff,List.filter_eq_nil_iff,List.any_eq_false]
noncomputable def YX (us:List B) (x:B):List B:=match us with
 | []=>[]
 | u::r=>(ascii "Via: "++u++x)::r.map fun u=>ascii "Via: "++u
noncomputable abbrev ziu (c:Cl):Sp:=fun vs H Q _=>∃mv m v w,∃src:Nat,vs=[mv,.int src]∧ZR c H mv m∧m.vias=v::w∧∀p ps H',zC H H'→H p=none→H' p=some (.lst (ps.map V.ref))→Paired (fun q x=>zD H' q x) ps (YX (valuesOf m.headers "via") (zeW v src))→Q (.ref p) H'
theorem zmP {G:Hp}:∀{vs:List V} {us:List B},Paired (zoY G) vs us→∃ps:List Addr,vs=ps.map V.ref∧Paired (fun q x=>zD G q x) ps us
 | _,_,.nil=>⟨[],rfl,.nil⟩
 | _,_,.cons ⟨a,e,h,_⟩ t=>by
  obtain ⟨ps,e2,h2⟩:=zmP t
  exact ⟨a::ps,by rw [e,e2];rfl,.cons h h2⟩
include T Fs
theorem zlK:yG P w K mg base 3 "tag_row" ["house","request"] (zlg c):=by
 refine Fs.d_tag_row.ok zlt zl8 (fun vs H Q E h=>?_) (fun f cdv A outer s H vs Q E hr h=>?_)
 ·obtain ⟨hv,mv,name,own,ev,m,rfl,_⟩:=h;rfl
 ·obtain ⟨hv,mv,name,own,ev,m,rfl,⟨hA,nA,dxh,rfl,g1,g2,g3,g4⟩,hm,k⟩:=h
  refine ⟨_,(zc (z4 (zw (zpJ (K:=K) hr.units) (zq (Z1 T Fs) (hr.mono (by decide)) rfl (zl (zj (K:=K) (zj (K:=K) (pv 1) rfl) rfl) (zl yt zb))) (zO zb) (zz _)) (zg (zm (zO zb))) zF) (zg (zm (zU yq (zq (zQ T Fs) (hr.mono (by decide)) rfl (zl yt zb)) (zq (zgv T Fs) (hr.mono (by decide)) rfl (zl (zU yq (zj (K:=K) (pv 1) rfl) (zj (K:=K) (pv 0) rfl)) zb)))))),fun hL=>?_⟩
  obtain ⟨a,dx,fv,hv,bv,v3,v4,v5,v6,v7,v8,rfl,ho,mf⟩:=hm.opened
  obtain ⟨b,tv,pvv,dx',txt,rfl,q1,q2,q3⟩:=mf.to
  obtain ⟨iA,rfl,hi,hiz,_⟩:=mf.id
  refine ⟨_,rfl,a,_,dx,_,_,rfl,ho,T.k_Message,T.n_Message_receiver,yP _ _ _ _ _ _ _ _ _,b,_,dx',_,_,rfl,q1,T.k_Party,T.n_Party_parameters,QI _ _,H,_,_,"tag",rfl,zC.refl _,q3,(by decide +kernel),fun v1 G1 H1 g5 ⟨p,vs,e5,hp,hR⟩=>?_⟩
  subst e5
  rw [zB] at hR
  refine ⟨Nat.zero_le _,fun q hq=>⟨_,_,.lst (SqL.of ((zd hq) _ _ (g5.gh _ _ hp))) (znA (g5.gh.trans (zd hq)) hR),.lst (SqL.of za) .nil,zkc _,by decide +kernel,_,rfl,?_⟩⟩
  rw [zoQ]
  have s2:=g5.hh.trans (zd (o:=.lst []) hq)
  generalize upd H1 q (.lst [])=H2 at s2 ⊢
  refine zR (fun h1=>?_) (fun h1=>?_)
  ·have n1:¬ Q3 m.to.params (ascii "tag")=[]:=by simpa using h1
   rw [zi5,Bool.not_eq_false] at n1
   unfold zo5 at k
   rw [if_pos n1] at k
   exact ⟨Nat.zero_le _,fun r hr=>k r _ (s2.trans (zd hr)) (s2.free hr) za⟩
  ·have n1:Q3 m.to.params (ascii "tag")=[]:=by simpa using h1
   rw [zi5] at n1
   unfold zo5 at k
   rw [if_neg (by rw [n1];simp)] at k
   walk_at "nx"
   refine ⟨";tag=",rfl,(by decide +kernel),fun p3 H3 s3 hp3 e3=>⟨_,rfl,a,_,dx,_,_,rfl,s3 _ _ (s2 _ _ ho),T.k_Message,T.n_Message_call_id,yF _ _ _ _ _ _ _ _ _,_,rfl,hA,_,dxh,_,_,rfl,s3 _ _ (s2 _ _ g1),T.k_House,T.n_House_name,zdK _ _ _ _,iA,nA,_,_,rfl,rfl,s3 _ _ (s2 _ _ hi),s3 _ _ (s2 _ _ g2),?_,fun p4 hp4=>?_⟩⟩
   ·rw [zi,zi];exact sz (by omega)
   ·rw [yf]
    refine ⟨p4,_,rfl,za,fun p5 H5 s5 hp5 e5=>⟨p3,p5,_,_,rfl,rfl,s5 _ _ ((zd hp4) _ _ e3),e5,?_,fun p6 hp6=>?_⟩⟩
    ·rw [zi,zi,zB,QK]
     have:(ascii ";tag=").length=5:=by decide +kernel
     exact sz (by omega)
    ·rw [yf,zB]
     have sA:=s2.trans (s3.trans ((zd hp4).trans s5))
     exact k p6 _ (sA.trans (zd hp6)) (sA.free hp6) za
end
section
variable {P:Program} {w:World} {K:PySem.W.Frag} {mg:Str→Option Value} {base:Heap} {c:Cl} {le ln:Addr} (T:Txt K mg c le ln) (Fs:YM K mg c)
noncomputable def zpm (G:Hp) (v:V) (b:B):Prop:=∃a,v=.ref a∧zD G a b∧b.length≤200000
theorem zpm.mono {G G':Hp} {v:V} {b:B} (s:zC G G') (h:zpm G v b):zpm G' v b:=by
 obtain ⟨a,e,h1,h2⟩:=h;exact ⟨a,e,s _ _ h1,h2⟩
theorem zC.upd' {H H':Hp} {p:Addr} {o:HO} (s:zC H H') (h:H p=none):zC H (upd H' p o):=fun b u e=>by rw [zv (zy e h)];exact s b u e
theorem ZR.viaVals {c:Cl} {G:Hp} {v:V} {m:Msg} (h:ZR c G v m):(valuesOf m.headers "via").map viaOf=m.vias.map some:=by
 obtain ⟨b,f,hs,r,h,im,_⟩:=h
 exact Zh.mp im.vias
theorem zc2 {G H:Hp} {p4:Addr} (s:∀b o,G b=some o→H b=some o):∀{vs:List V} {us:List B},Paired (zpm G) vs us→∃ps:List Addr,vs=ps.map V.ref∧Paired (fun q x=>zD H q x) ps us
 | _,_,.nil=>⟨[],rfl,.nil⟩
 | _,_,.cons ⟨a,e,h,_⟩ t=>by
  obtain ⟨ps,e2,h2⟩:=zc2 (p4:=p4) s t
  exact ⟨a::ps,by rw [e,e2];rfl,.cons (s _ _ h) h2⟩
theorem zsT {n:Nat} (h:0 < n):ixN n 0=some 0:=by unfold ixN;rw [if_pos (by omega),if_pos (by omega)];rfl
include T Fs
theorem ziX:yG P w K mg base 4 "via_lines" ["request","source"] (ziu c):=by
 refine Fs.d_via_lines.ok J2 zjx (fun vs H Q E h=>?_) (fun f cdv A outer s H vs Q E hr h=>?_)
 ·obtain ⟨mv,m,v,w,src,rfl,_⟩:=h;rfl
 ·obtain ⟨mv,m,x,xr,src,rfl,hm,hx,k⟩:=h
  refine ⟨_,(zc (Jx (i:=2) (hc:=rfl) (hN:=J2.nd) (hy:=rfl) (hyl:=rfl) (hsw:=zbc rfl rfl rfl (by decide +kernel)) (zK (K:=K) (yX (zq (ZQ T Fs) (hr.mono (by decide)) rfl (zl (zj (K:=K) (pv 0) rfl) (zl (zN T.c_VIA rfl) zb))))) (z3 (own:=[("value",3)]) (by exact rfl)) (fun _ _ _ _ _=>zX (i:=3) J2.nd rfl (Or.inl rfl)) (fun _ _ _ _ _=>yK) (fun _ _ _ _ _=>(zU yq (zq (zQ T Fs) (hr.mono (by decide)) rfl (zl yt zb)) (pv 3)))) (zc (zqK (zU yq (yE (zI (K:=K)) (pv 2) zu (fun _ _=>rfl)) (zq (zax T Fs) (hr.mono (by decide)) rfl (zl (yE (zI (K:=K)) (zj (K:=K) (pv 0) rfl) zu (fun _ _=>rfl)) (zl (pv 1) zb)))) (zqN (pv 2) zu zn8)) (zg (zm (pv 2))))),fun hL=>?_⟩
  have hvv:=hm.viaVals
  obtain ⟨a,dx,fv,hv,bv,v3,v4,v5,v6,v7,v8,rfl,ho,mf⟩:=hm.opened
  obtain ⟨p3,vs3,rfl,hp3,hR3⟩:=mf.vi
  have hc:(ascii "Via: ").length=5:=by decide +kernel
  refine zfH ?_
  have hus:∃us,valuesOf m.headers "via"=us:=⟨_,rfl⟩
  obtain ⟨us,hus⟩:=hus
  rw [hus] at k hvv
  refine Qn zpm (fun _ _ _ _=>zpm.mono) (fun v H1=>∃G1,zJ H H G1 H1∧zL zfL G1 v us) ?_ ?_
  ·exact ⟨_,rfl,a,_,dx,_,_,rfl,ho,T.k_Message,T.n_Message_headers,zW _ _ _ _ _ _ _ _ _,H,_,_,("via","v"),rfl,zC.refl _,mf.hd,(by decide +kernel),fun v1 G1 H1 g1 r1=>⟨G1,g1,hus ▸ r1⟩⟩
  ·rintro v H1 ⟨G1,g1,p,vs,rfl,hp,hR⟩
   have hl:=Paired.length hR
   refine ⟨p,vs,G1,fun i=>(us[i]?).map fun u=>ascii "Via: "++u,rfl,SqL.of (g1.gh _ _ hp),g1.gh,fun i y G2 H2 P hy g2 hP=>?_,fun p4 ws G4 H4 g4 hp4 hG4 e4 hR4=>?_⟩
   ·obtain ⟨u,hu,uA,rfl,hrow,hz,_⟩:=Paired.at_ hR hy
    simp only [hu,Option.map_some] at hP
    refine zdL (B:=P none H2) ⟨"Via: ",rfl,(by decide +kernel),fun q H3 s3 hq e3=>⟨_,rfl,q,uA,_,_,rfl,rfl,e3,s3 _ _ (g2.s _ _ hrow),?_,fun r hr=>?_⟩⟩
    ·rw [zi,zi,zB];exact sz (by omega)
    ·rw [yf,zB]
     have g3:=zJ.more g2.gh s3
     refine hP _ (upd G2 r (.lst (rv (ascii "Via: "++u)))) _ (g3.trans (zJ.keep g3.gh (zd hr) hr za)) ⟨r,rfl,za,?_⟩
     rw [List.length_append];omega
   ·rw [hl,ZY] at hR4
    dsimp only
    have s14:=g1.hh.trans g4.hh
    have np4:H p4=none:=g1.hh.free hp4
    cases us with
    | nil=>
     rw [hx] at hvv
     cases hvv
    | cons u ur=>
    cases hR4 with
    | @cons y _ yr _ r0 rT=>
    obtain ⟨yA,rfl,hy,hyl⟩:=r0
    rw [hx] at hR3
    cases hR3 with
    | @cons z _ zr _ z0 zT=>
    refine ⟨_,rfl,p4,_,_,_,rfl,rfl,SqL.of e4,yk (j:=0) rfl,_,rfl,a,_,dx,_,_,rfl,s14 _ _ ho,T.k_Message,T.n_Message_vias,yg _ _ _ _ _ _ _ _ _,p3,_,_,_,rfl,rfl,SqL.of (s14 _ _ hp3),yk (j:=0) rfl,_,rfl,z,x,src,rfl,z0.mono s14,fun q H5 s5 hq e5=>⟨yA,q,_,_,rfl,rfl,s5 _ _ (g4.gh _ _ hy),e5,?_,fun r hr=>?_⟩⟩
    ·rw [zi,zi]
     have:=zeg x src
     exact sz (by omega)
    ·rw [yf]
     have nr:r≠p4:=by
      rintro rfl
      rw [s5 _ _ e4] at hr;cases hr
     have s56:=s5.trans (zd (o:=.lst (rv (ascii "Via: "++u++zeW x src))) hr)
     refine ⟨_,rfl,p4,_,_,0,rfl,rfl,s56 _ _ e4,zsT (by simp),?_⟩
     obtain ⟨ps,e6,r6⟩:=zc2 (p4:=p4) (H:=upd (upd H5 r (.lst (rv (ascii "Via: "++u++zeW x src)))) p4 (.lst ((V.ref yA::yr).set 0 (.ref r)))) (fun b o h=>by
      have nb:b≠p4:=by
       rintro rfl
       rw [hG4] at h;cases h
      rw [zv nb]
      exact s56 _ _ (g4.gh _ _ h)) rT
     subst e6
     dsimp only
     refine ⟨_,rfl,k p4 (r::ps) _ (zC.upd' (s14.trans s56) np4) np4 za ?_⟩
     refine .cons ?_ r6
     show upd _ _ _ r=_
     rw [zv nr]
     exact za
end
section
variable {P:Program} {w:World} {K:PySem.W.Frag} {mg:Str→Option Value} {base:Heap} {c:Cl} {le ln:Addr} (T:Txt K mg c le ln) (Fs:YM K mg c)
noncomputable def zby (x:Via):Option Nat:=match (x.params.filterMap fun p=>if p.1=ascii "received" then p.2.bind addressOf else none).head? with
 | some a=>some a
 | none=>match x.host with
  | .address a=>some a
  | .name _=>none
theorem zib:addressOf []=none:=by decide +kernel
theorem zlA (x:Via):zby x=match (Q3 x.params (ascii "received")).findSome? addressOf with
  | some a=>some a
  | none=>match x.host with
   | .address a=>some a
   | .name _=>none:=by
 unfold zby Q3
 have:∀ps:Sa39.Params,(ps.filterMap fun p=>if p.1=ascii "received" then p.2.bind addressOf else none).head?=((ps.filter fun y=>y.1 == ascii "received").map zim).findSome? addressOf:=by
  intro ps
  induction ps with
  | nil=>rfl
  | cons p t ih=>
   rw [List.filterMap_cons,List.filter_cons]
   by_cases h:p.1=ascii "received"
   ·rw [if_pos h,if_pos (by simpa using h),List.map_cons,List.findSome?_cons]
    cases e:p.2 with
    | none=>
     have:zim p=[]:=by unfold zim;rw [e];rfl
     rw [this,zib]
     simpa using ih
    | some x=>
     have:zim p=x:=by unfold zim;rw [e];rfl
     rw [this,Option.bind_some]
     cases addressOf x with
     | none=>exact ih
     | some a=>rfl
   ·rw [if_neg h,if_neg (by simpa using h)]
    exact ih
 rw [this]
noncomputable abbrev zcK (c:Cl):Sp:=fun vs H Q _=>∃v x,vs=[v]∧zid c H v x∧∀H',zC H H'→Q (zpd (zby x)) H'
noncomputable def Jb (own:Sa39.Place) (x:Via) (m:Msg):B:=ascii "Via: SIP/2.0/UDP "++(addressText own.host++(58::(decimal own.port++(ascii ";branch=z9hG4bK"++hex16 (Sa39.sum (x.branch++(m.id++zZ m.headers "cseq")))))))
noncomputable abbrev zeu (c:Cl):Sp:=fun vs H Q _=>∃hv mv name own ev m x xr,vs=[hv,mv]∧zgG c H hv name own ev∧ZR c H mv m∧m.vias=x::xr∧∀p H',zC H H'→H p=none→zD H' p (Jb own x m)→Q (.ref p) H'
include T Fs
theorem zc6:yG P w K mg base 5 "return_address" ["via"] (zcK c):=by
 refine Fs.d_return_address.ok Q9 zds (fun vs H Q E h=>?_) (fun f cdv A outer s H vs Q E hr h=>?_)
 ·obtain ⟨v,x,rfl,_⟩:=h;rfl
 ·obtain ⟨v,x,rfl,⟨a,ev,pvv,bA,dx,hb,rfl,h1,⟨o,hA,dx',rfl,h2,h3⟩,h4,h5⟩,k⟩:=h
  refine ⟨_,(zc (JP PassesOwn.never rfl (zK (K:=K) (zq (Z1 T Fs) (hr.mono (by decide)) rfl (zl (zj (K:=K) (pv 0) rfl) (zl yt zb)))) (zX (i:=1) Q9.nd rfl (Or.inl rfl)) (zg (z4 (zw zkg (zq (Z2 T Fs) (hr.mono (by decide)) rfl (zl (pv 1) zb)) zY (zz _)) (zg (zm (zq (Z2 T Fs) (hr.mono (by decide)) rfl (zl (pv 1) zb)))) zF))) (zg (zm (zj (K:=K) (zj (K:=K) (pv 0) rfl) rfl)))),fun hL=>?_⟩
  rw [zlA] at k
  refine ⟨_,rfl,a,_,dx,_,_,rfl,h1,T.k_Via,T.n_Via_parameters,zd4 _ _ _,H,_,_,"received",rfl,zC.refl _,h4,(by decide +kernel),fun v1 G1 H1 g1 ⟨p,vs,ev,hp,hR⟩=>?_⟩
  rw [zB] at hR
  generalize Q3 x.params (ascii "received")=us at hR k
  have hl:=Paired.length hR
  have hpH:=g1.gh _ _ hp
  refine ⟨p,_,ev,SqL.of hpH,fun _=>Yy (K:=K) (a:=p) (xs:=vs) (fun i σ H'=>∃v,σ=[some (.ref a),v]∧zC H1 H'∧us.findSome? addressOf=(us.drop i).findSome? addressOf) ⟨none,rfl,zC.refl _,rfl⟩ (fun i σ H' _ ⟨_,_,s2,_⟩=>SqL.of (s2 _ _ hpH)) ?_ ?_⟩
  ·rintro i y σ H' hi ⟨w1,rfl,s2,hf⟩
   obtain ⟨l,hl,lA,rfl,hrow,hz⟩:=Paired.at_ hR hi
   have hrow':=s2 _ _ (g1.gh _ _ hrow)
   rw [Jg hl,List.findSome?_cons] at hf
   refine ⟨_,rfl,lA,l,rfl,hrow',hz,fun H2 s3=>⟨by cases addressOf l <;> rfl,_,rfl,zR (fun h6=>?_) (fun h6=>?_)⟩⟩
   ·refine ⟨_,rfl,lA,l,rfl,s3 _ _ hrow',hz,fun H3 s4=>?_⟩
    cases e:addressOf l with
    | none=>rw [e] at h6;simp [zpd] at h6
    | some n=>
     rw [e] at hf
     rw [hf] at k
     exact k H3 (g1.hh.trans (s2.trans (s3.trans s4)))
   ·cases e:addressOf l with
    | some n=>rw [e] at h6;simp [zpd] at h6
    | none=>
     rw [e] at hf
     exact ⟨_,rfl,s2.trans s3,hf⟩
  ·rintro σ H' ⟨w1,rfl,s2,hf⟩
   rw [hl,List.drop_length] at hf
   have hs:=g1.hh.trans s2
   rw [hf] at k
   refine ⟨_,rfl,a,_,dx,_,_,rfl,hs _ _ h1,T.k_Via,T.n_Via_endpoint,ZH _ _ _,o,_,dx',_,_,rfl,hs _ _ h2,T.k_Endpoint,T.n_Endpoint_address,yc _ _ _,?_⟩
   have:=k H' hs
   simp only [List.findSome?_nil] at this
   cases e:x.host with
   | name n=>rw [e] at this;exact this
   | address n=>rw [e] at this;exact this
theorem ze2:yG P w K mg base 4 "own_via_line" ["house","request"] (zeu c):=by
 refine Fs.d_own_via_line.ok J5 zfy (fun vs H Q E h=>?_) (fun f cdv A outer s H vs Q E hr h=>?_)
 ·obtain ⟨hv,mv,name,own,ev,m,x,xr,rfl,_⟩:=h;rfl
 ·obtain ⟨hv,mv,name,own,ev,m,x,xr,rfl,⟨hA,nA,dxh,rfl,g1,g2,g3,g4⟩,hm,hx,k⟩:=h
  refine ⟨_,(zc (zE (i:=2) J5.nd rfl (Or.inl rfl) (zq (zgv T Fs) (hr.mono (by decide)) rfl (zl (zU yq (zU yq (zj (K:=K) (yE (zI (K:=K)) (zj (K:=K) (pv 1) rfl) zu (fun _ _=>rfl)) rfl) (zj (K:=K) (pv 1) rfl)) (zj (K:=K) (pv 1) rfl)) zb))) (zg (zm (zU yq (zU yq (zU yq (zq (zQ T Fs) (hr.mono (by decide)) rfl (zl yt zb)) (zq (zaB T Fs) (hr.mono (by decide)) rfl (zl (zj (K:=K) (pv 0) rfl) (zl (zj (K:=K) (pv 0) rfl) zb)))) (zq (zQ T Fs) (hr.mono (by decide)) rfl (zl yt zb))) (pv 2))))),fun hL=>?_⟩
  obtain ⟨a,dx,fv,hv,bv,v3,v4,v5,v6,v7,v8,rfl,ho,mf⟩:=hm.opened
  obtain ⟨iA,rfl,hi,hiz,_⟩:=mf.id
  obtain ⟨sA,rfl,hs,hsz,_⟩:=mf.sq
  obtain ⟨p3,vs3,rfl,hp3,hR3⟩:=mf.vi
  rw [hx] at hR3
  cases hR3 with
  | @cons z _ zr _ z0 zT=>
  obtain ⟨zA,ze,zp,bA,zdx,zh,rfl,y1,y2,y3,y4,y5,y6⟩:=z0
  have hport:own.port < 2 ^ 64:=by rw [p64];omega
  refine ⟨_,rfl,a,_,dx,_,_,rfl,ho,T.k_Message,T.n_Message_vias,yg _ _ _ _ _ _ _ _ _,p3,_,_,_,rfl,rfl,SqL.of hp3,yk (j:=0) rfl,zA,_,zdx,_,_,rfl,y1,T.k_Via,T.n_Via_branch,zje _ _ _,_,rfl,a,_,dx,_,_,rfl,ho,T.k_Message,T.n_Message_call_id,yF _ _ _ _ _ _ _ _ _,bA,iA,_,_,rfl,rfl,y4,hi,?_,fun p1 hp1=>?_⟩
  ·rw [zi,zi];exact sz (by omega)
  ·rw [yf]
   have s1:=zd (o:=.lst (rv (x.branch++m.id))) hp1
   have e1:zD (upd H p1 (.lst (rv (x.branch++m.id)))) p1 (x.branch++m.id):=za
   generalize upd H p1 (.lst (rv (x.branch++m.id)))=H1 at s1 e1 ⊢
   refine ⟨_,rfl,a,_,dx,_,_,rfl,s1 _ _ ho,T.k_Message,T.n_Message_sequence,Zi _ _ _ _ _ _ _ _ _,p1,sA,_,_,rfl,rfl,e1,s1 _ _ hs,?_,fun p2 hp2=>?_⟩
   ·rw [zi,zi,List.length_append];exact sz (by omega)
   ·rw [yf,List.append_assoc]
    refine ⟨p2,_,rfl,za,fun p4 H4 s4 hp4 e4=>?_⟩
    walk_at "nm"
    have sH:=s1.trans ((zd hp2).trans s4)
    refine ⟨"Via: SIP/2.0/UDP ",rfl,(by decide +kernel),fun p5 H5 s5 hp5 e5=>⟨_,rfl,hA,_,dxh,_,_,rfl,s5 _ _ (sH _ _ g1),T.k_House,T.n_House_address,Qw _ _ _ _,_,rfl,hA,_,dxh,_,_,rfl,s5 _ _ (sH _ _ g1),T.k_House,T.n_House_port,zaE _ _ _ _,own.host,own.port,rfl,hport,fun p6 H6 s6 hp6 e6=>⟨p5,p6,_,_,rfl,rfl,s6 _ _ e5,e6,?_,fun p7 hp7=>?_⟩⟩⟩
    ·rw [zi,zi,zB,List.length_append,List.length_cons]
     have:=QN own.host
     have:=Z6 own.port hport
     have:(ascii "Via: SIP/2.0/UDP ").length=17:=by decide +kernel
     exact sz (by omega)
    ·rw [yf,zB]
     have l7:(ascii "Via: SIP/2.0/UDP "++(addressText own.host++58::decimal own.port)).length≤200:=by
      rw [List.length_append,List.length_append,List.length_cons]
      have:=QN own.host
      have:=Z6 own.port hport
      have:(ascii "Via: SIP/2.0/UDP ").length=17:=by decide +kernel
      omega
     have h7:∃w,w=ascii "Via: SIP/2.0/UDP "++(addressText own.host++58::decimal own.port):=⟨_,rfl⟩
     obtain ⟨w,hw⟩:=h7
     rw [← hw] at l7 ⊢
     refine ⟨";branch=z9hG4bK",rfl,(by decide +kernel),fun p8 H8 s8 hp8 e8=>⟨p7,p8,_,_,rfl,rfl,s8 _ _ za,e8,?_,fun p9 hp9=>?_⟩⟩
     ·rw [zi,zi,zB]
      have:(ascii ";branch=z9hG4bK").length=15:=by decide +kernel
      exact sz (by omega)
     ·rw [yf,zB]
      have s48:zC H4 H8:=s5.trans (s6.trans ((zd hp7).trans s8))
      refine ⟨_,rfl,p9,p4,_,_,rfl,rfl,za,(zd hp9) _ _ (s48 _ _ e4),?_,fun p10 hp10=>?_⟩
      ·rw [zi,zi,QK,List.length_append]
       have:(ascii ";branch=z9hG4bK").length=15:=by decide +kernel
       exact sz (by omega)
      ·rw [yf]
       refine k p10 _ ((sH.trans (s48.trans (zd hp9))).trans (zd hp10)) (sH.free (s48.free ((zd hp9).free hp10))) ?_
       unfold Jb
       rw [show ascii "Via: SIP/2.0/UDP "++(addressText own.host++(58::(decimal own.port++(ascii ";branch=z9hG4bK"++hex16 (Sa39.sum (x.branch++(m.id++zZ m.headers "cseq")))))))=w++ascii ";branch=z9hG4bK"++hex16 (Sa39.sum (x.branch++(m.id++zZ m.headers "cseq"))) by rw [hw];simp only [List.append_assoc,List.cons_append]]
       exact za
end
section
variable {P:Program} {w:World} {K:PySem.W.Frag} {mg:Str→Option Value} {base:Heap} {c:Cl} {le ln:Addr} (T:Txt K mg c le ln) (Fs:YM K mg c)
theorem Jk {p:Nat→Bool} (k:Nat):∀(b w:B),(∀x ∈ splitBy k b w,x.all p=true)→b.all (fun c=>p c||c == k)=true∧w.all p=true
 | [],w,h=>⟨rfl,h w (by simp [splitBy])⟩
 | c::t,w,h=>by
  unfold splitBy at h
  by_cases e:c=k
  ·rw [if_pos e] at h
   obtain ⟨h1,_⟩:=Jk k t [] (fun x hx=>h x (List.mem_cons_of_mem _ hx))
   refine ⟨?_,h w List.mem_cons_self⟩
   rw [List.all_cons,h1,e];simp
  ·rw [if_neg e] at h
   obtain ⟨h1,h2⟩:=Jk k t (w++[c]) h
   rw [List.all_append,Bool.and_eq_true] at h2
   refine ⟨?_,h2.1⟩
   have h3:=h2.2
   simp only [List.all_cons,List.all_nil,Bool.and_true] at h3
   rw [List.all_cons,h1,h3];rfl
theorem zic {b:B} {n:Nat} (h:addressOf b=some n):low b=b:=by
 unfold addressOf at h
 cases e:(splitBy 46 b []).mapM (number 255) with
 | none=>rw [e] at h;cases h
 | some l=>
  have hp:∀x ∈ splitBy 46 b [],x.all digit=true:=by
   intro x hx
   have e':=Zh.mp e
   have:number 255 x ∈ l.map some:=e' ▸ List.mem_map.mpr ⟨x,hx,rfl⟩
   obtain ⟨y,_,hy⟩:=List.mem_map.mp this
   unfold number at hy
   split at hy
   ·rename_i q
    first | exact q.2.2.1 | exact q.2.1 | (simp only [Bool.and_eq_true] at q;simp [q]) | (have:=q;simp_all)
   ·cases hy
  have h1:=(Jk 46 b [] hp).1
  unfold low
  rw [List.all_eq_true] at h1
  refine (List.map_congr_left fun c hc=>?_).trans (List.map_id' b)
  have:=h1 c hc
  have hg:great c=false:=by
   rw [Bool.or_eq_true,beq_iff_eq] at this
   rcases this with d | d
   ·unfold digit at d
    unfold great
    simp at d ⊢
    omega
   ·subst d;decide
  simp [hg]
noncomputable def zgc (name:B) (own:Sa39.Place):Host→Nat→Bool
 | .name n,_=>n == name
 | .address a,port=>a == own.host&&port == own.port
noncomputable abbrev zg1 (c:Cl):Sp:=fun vs H Q _=>∃hv tv name own ev t txt,vs=[hv,tv]∧zgG c H hv name own ev∧addressOf name=none∧znX c H tv t txt∧∀H',zC H H'→Q (.bl (zgc name own t.host t.port)) H'
include T Fs
theorem JE:zml P w K mg base 3 "owns" c.House ["self","target"] (zg1 c):=by
 refine Fs.d_House_owns.ok zb6 zh4 (fun vs H Q E h=>?_) (fun f cdv A outer s H vs Q E hr h=>?_)
 ·obtain ⟨hv,tv,name,own,ev,t,txt,rfl,_⟩:=h;rfl
 ·obtain ⟨hv,tv,name,own,ev,t,txt,rfl,⟨hA,nA,dxh,rfl,g1,g2,g3,g4⟩,hn,⟨o,rA,wA,dx2,ev2,hb,rfl,q3,q4,q5,⟨o2,xA,dx3,rfl,q6,q7,q9⟩,q8⟩,k⟩:=h
  refine ⟨_,(zc (zE (i:=2) zb6.nd rfl (Or.inl rfl) (zj (K:=K) (pv 1) rfl)) (zc (z4 (zw (yd (K:=K) hr.units) (zq (zei T Fs) (hr.mono (by decide)) rfl (zl (zj (K:=K) (pv 2) rfl) zb)) (zj (K:=K) (pv 0) rfl) (zz _)) (zg (zm zeZ)) zF) (zg (zm (Yb (yj Z0 (zj (K:=K) (pv 2) rfl) (zj (K:=K) (pv 0) rfl) (zz _)) (Zn (yj Z0 (zj (K:=K) (pv 2) rfl) (zj (K:=K) (pv 0) rfl) (zz _)))))))),fun hL=>?_⟩
  refine ⟨_,rfl,o,_,dx2,_,_,rfl,q3,T.k_Target,T.n_Target_endpoint,Zv _ _ _,?_⟩
  walk_at "nm"
  rw [Je] at q9
  refine ⟨_,rfl,o2,_,dx3,_,_,rfl,q6,T.k_Endpoint,T.n_Endpoint_host,zfi _ _ _,xA,_,rfl,q7,fun p H1 s1 hp e1=>⟨_,rfl,hA,_,dxh,_,_,rfl,s1 _ _ g1,T.k_House,T.n_House_name,zdK _ _ _ _,p,nA,_,_,rfl,rfl,SqL.of e1,SqL.of (s1 _ _ g2),_,rfl,zR (fun h1=>?_) (fun h1=>?_)⟩⟩
  ·have e:low hb=name:=by simpa using h1
   refine qb ?_ (k H1 s1)
   cases ea:addressOf hb with
   | some n=>
    rw [zic ea] at e
    rw [e,hn] at ea
    cases ea
   | none=>
    rw [ea] at q9
    simp only at q9
    split at q9
    ·have:=Option.some.inj q9
     rw [← this,e]
     simp [zgc]
    ·cases q9
  ·have e:¬ low hb=name:=by simpa using h1
   walk_at "nx"
   refine ⟨_,rfl,o2,_,dx3,_,_,rfl,s1 _ _ q6,T.k_Endpoint,T.n_Endpoint_address,yc _ _ _,_,rfl,hA,_,dxh,_,_,rfl,s1 _ _ g1,T.k_House,T.n_House_address,Qw _ _ _ _,?_⟩
   refine ⟨by cases t.host <;> rfl,_,rfl,zR (fun h2=>?_) (fun h2=>?_)⟩
   ·refine ⟨_,rfl,o2,_,dx3,_,_,rfl,s1 _ _ q6,T.k_Endpoint,T.n_Endpoint_port,yV _ _ _,_,rfl,hA,_,dxh,_,_,rfl,s1 _ _ g1,T.k_House,T.n_House_port,zaE _ _ _ _,rfl,qb ?_ (k H1 s1)⟩
    cases eh:t.host with
    | name n=>rw [eh] at h2;simp [zd7] at h2
    | address n=>
     rw [eh] at h2
     simp [zd7] at h2
     rw [Bool.eq_iff_iff]
     simp [zgc]
     omega
   ·refine qb ?_ (k H1 s1)
    cases eh:t.host with
    | address n=>
     rw [eh] at h2
     simp [zd7] at h2
     simp [zgc]
     intro q
     omega
    | name n=>
     rw [eh] at q9
     cases ea:addressOf hb with
     | some n=>rw [ea] at q9;simp at q9
     | none=>
      rw [ea] at q9
      simp only at q9
      split at q9
      ·have:=Option.some.inj q9
       cases this
       simp [zgc,e]
      ·cases q9
end
section
variable {P:Program} {w:World} {K:PySem.W.Frag} {mg:Str→Option Value} {base:Heap} {c:Cl} {le ln:Addr} (T:Txt K mg c le ln) (Fs:YM K mg c)
noncomputable def zoX (c:Cl) (G:Hp) (v:V) (row:B) (host port:Nat):Prop:=∃a rA dx,v=.ref a∧G a=some (.ins c.Sending dx (Z4 (.ref rA) (.int (host:Nat)) (.int (port:Nat))))∧zD G rA row
theorem zoX.mono {c:Cl} {G G':Hp} {v:V} {r:B} {h p:Nat} (s:zC G G') (x:zoX c G v r h p):zoX c G' v r h p:=by
 obtain ⟨a,rA,dx,e,h1,h2⟩:=x;exact ⟨a,rA,dx,e,s _ _ h1,s _ _ h2⟩
noncomputable abbrev zgO (c:Cl):Sp:=fun vs H Q _=>∃G,vs=[]∧zC G H∧∀v G' H',zJ G H G' H'→zoX c G' v [] 0 0→Q v H'
noncomputable abbrev J1 (c:Cl):Sp:=fun vs H Q _=>∃hv mv name own ev m meth t txt,vs=[hv,mv]∧zgG c H hv name own ev∧addressOf name=none∧ZR c H mv m∧m.first=.request meth t txt∧∀H',zC H H'→Q (.bl (zgc name own t.host t.port&&decide (t.word=none))) H'
include T Fs
theorem JB:yG P w K mg base 3 "no_sending" [] (zgO c):=by
 refine Fs.d_no_sending.ok zg8 zhR (fun vs H Q E h=>?_) (fun f cdv A outer s H vs Q E hr h=>?_)
 ·obtain ⟨G,rfl,_⟩:=h;rfl
 ·obtain ⟨G,rfl,sg,k⟩:=h
  refine ⟨_,(zg (zm (YY (Zp T Fs) (hr.mono (by decide)) rfl (zl (zO zb) (zl zu (zl zu zb)))))),fun hL=>?_⟩
  refine ⟨Nat.zero_le _,fun q hq=>fun o dx no ndx ne=>⟨o,dx,_,_,_,rfl,za,fun H10 q1 q2=>zfb (fun o H10 s10 no he=>?_) no ndx q1 q2⟩⟩
  obtain ⟨dx,he⟩:=he
  have g3:=zJ.keep sg (zd (o:=.lst (rv [])) hq) hq za
  have sB:=zd (o:=.ins c.Sending dx (Z4 (.ref q) (.int 0) (.int 0))) (g3.gh.free no)
  exact k _ (upd (upd G q (.lst (rv []))) o _) H10 (g3.trans (zJ.keep g3.gh s10 no he)) ⟨o,q,dx,rfl,za,sB _ _ za⟩
theorem YI:yG P w K mg base 4 "is_for_house_alone" ["house","request"] (J1 c):=by
 refine Fs.d_is_for_house_alone.ok YD zaO (fun vs H Q E h=>?_) (fun f cdv A outer s H vs Q E hr h=>?_)
 ·obtain ⟨hv,mv,name,own,ev,m,meth,t,txt,rfl,_⟩:=h;rfl
 ·obtain ⟨hv,mv,name,own,ev,m,meth,t,txt,rfl,hh,hn,hm,hf,k⟩:=h
  refine ⟨_,(zc (zE (i:=2) YD.nd rfl (Or.inl rfl) (zj (K:=K) (zj (K:=K) (pv 1) rfl) rfl)) (zg (zm (Yb (zlF (pv 0) (JE T Fs) (hr.mono (by decide)) (zl (pv 2) zb)) (Zn (yj (yd (K:=K) hr.units) (zj (K:=K) (pv 2) rfl) (zO zb) (zz _))))))),fun hL=>?_⟩
  obtain ⟨a,dx,fv,xv,bv,v3,v4,v5,v6,v7,v8,rfl,ho,mf⟩:=hm.opened
  have hfi:=mf.fi
  rw [hf] at hfi
  obtain ⟨f1,lA,mA,tv,dx',rfl,h1,h2,h3,h4,h5,h6⟩:=hfi
  refine ⟨_,rfl,a,_,dx,_,_,rfl,ho,T.k_Message,T.n_Message_first,ye _ _ _ _ _ _ _ _ _,f1,_,dx',_,_,rfl,h1,T.k_First,T.n_First_target,za6 _ _ _,?_⟩
  walk_at "nm"
  have hh':=hh
  obtain ⟨hA,nA,dxh,rfl,g1,_⟩:=hh'
  have h4':=h4
  obtain ⟨o,rA,wA,dx2,ev2,hb,rfl,q3,q4,q5,q6,q8⟩:=h4'
  refine ⟨_,rfl,hA,dxh,_,rfl,g1,rfl,_,rfl,_,_,name,own,ev,t,txt,rfl,hh,hn,h4,fun H1 s1=>⟨_,rfl,zR (fun w1=>?_) (fun w1=>?_)⟩⟩
  ·refine ⟨_,rfl,o,_,dx2,_,_,rfl,s1 _ _ q3,T.k_Target,T.n_Target_word,yZ _ _ _,Nat.zero_le _,fun q hq=>⟨wA,q,_,_,rfl,rfl,SqL.of ((zd hq) _ _ (s1 _ _ q5)),zgA,qb ?_ (k _ (s1.trans (zd hq)))⟩⟩
   rw [w1,Bool.true_and]
   cases e:t.word with
   | none=>rfl
   | some w=>
    have:=zjR (q8 w e)
    simp [this]
  ·refine qb ?_ (k H1 s1)
   rw [Bool.not_eq_true] at w1
   rw [w1];rfl
end
theorem zdN {b:B} {h:Header} (e:headerOf b=some h):h.value.length≤b.length∧h.line=b:=by
 rw [zfn] at e
 split at e
 ·cases e
  exact ⟨zfo b,rfl⟩
 ·cases e
theorem zkM (n:String):∀{hs:List B} {l:List Header},hs.map headerOf=l.map some→((valuesOf l n).map fun v=>v.length + 7).sum≤4 * (zV hs).length
 | [],[],_=>by simp [valuesOf]
 | b::hs,h::l,e=>by
  rw [List.map_cons,List.map_cons] at e
  have e1:=(List.cons.inj e).1
  have ih:=zkM n (List.cons.inj e).2
  have:=(zdN e1).1
  rw [zH,List.length_append,List.length_append]
  unfold valuesOf at ih ⊢
  rw [List.filter_cons]
  split
  ·rw [List.map_cons,List.map_cons,List.sum_cons]
   simp only [List.length_cons,List.length_nil]
   omega
  ·simp only [List.length_cons,List.length_nil]
   omega
theorem zij (us:List B) (x:B):(zV (YX us x)).length≤(us.map fun v=>v.length + 7).sum + x.length:=by
 have hc:(ascii "Via: ").length=5:=by decide +kernel
 have:∀r:List B,(zV (r.map fun u=>ascii "Via: "++u)).length=(r.map fun v=>v.length + 7).sum:=by
  intro r
  induction r with
  | nil=>rfl
  | cons u t ih=>
   rw [List.map_cons,zH,List.length_append,List.length_append,List.length_append,ih,List.map_cons,List.sum_cons]
   simp only [List.length_cons,List.length_nil]
   omega
 cases us with
 | nil=>simp [YX,yN]
 | cons u r=>
  show (zV ((ascii "Via: "++u++x)::r.map fun u=>ascii "Via: "++u)).length≤_
  rw [zH,List.length_append,List.length_append,List.length_append,List.length_append,this,List.map_cons,List.sum_cons]
  simp only [List.length_cons,List.length_nil]
  omega
theorem ZR.vals {c:Cl} {G:Hp} {v:V} {m:Msg} (h:ZR c G v m) (n:String):((valuesOf m.headers n).map fun v=>v.length + 7).sum≤65536:=by
 obtain ⟨b,f,hs,r,_,im,h1,h2,h3⟩:=h
 have:=zkM n (Zh.mp im.headers)
 rw [zH,List.length_append] at h2
 simp only [List.length_append] at h2
 omega
theorem ZR.only {c:Cl} {G:Hp} {v:V} {m:Msg} (h:ZR c G v m) (n:String):(zZ m.headers n).length≤65536:=by
 have:=h.vals n
 unfold zZ
 split
 ·rename_i e
  rw [e] at this
  simp at this
  omega
 ·simp
theorem Zw.mono {H H':Hp} {p:Addr} {ls:List B} (s:zC H H') (h:Zw H p ls):Zw H' p ls:=by
 obtain ⟨ps,e,hR⟩:=h;exact ⟨ps,s _ _ e,Paired.mapP hR fun q x h=>s _ _ h⟩
theorem zmQ {H:Hp} {p:Addr} {ps:List Addr} {ls:List B} (hp:H p=some (.lst (ps.map V.ref))) (hR:Paired (fun q x=>zD H q x) ps ls):∀q ∈ ps,q≠p:=by
 rintro q hq rfl
 obtain ⟨y,_,hy⟩:=Paired.mem_left hR hq
 have hy':H q=some (.lst (rv y)):=hy
 rw [hp] at hy'
 cases ps with
 | nil=>cases hq
 | cons a t=>
  cases y with
  | nil=>simp [rv] at hy'
  | cons n r=>simp [rv] at hy'
theorem Zw.snoc {H:Hp} {p r:Addr} {ls:List B} {x:B} (h:Zw H p ls) (hr:zD H r x) (n:r≠p):∃ys,H p=some (.lst ys)∧ys.length=ls.length∧Zw (upd H p (.lst (ys++[.ref r]))) p (ls++[x]):=by
 obtain ⟨ps,e,hR⟩:=h
 have hn:=zmQ e hR
 refine ⟨_,e,by rw [List.length_map];exact Paired.length hR,ps++[r],?_,?_⟩
 ·rw [za];simp
 ·refine L2.Paired.snoc ?_ ?_
  ·have:∀{ps:List Addr} {ls:List B},(∀q ∈ ps,q≠p)→Paired (fun q x=>zD H q x) ps ls→∀o,Paired (fun q x=>zD (upd H p o) q x) ps ls:=by
    intro ps ls hn h o
    induction h with
    | nil=>exact .nil
    | cons r t ih=>exact .cons ((zv (hn _ List.mem_cons_self)).trans r) (ih fun q h=>hn q (List.mem_cons_of_mem _ h))
   exact this hn hR _
  ·exact (zv n).trans hr
theorem Zw.ext {H:Hp} {p b:Addr} {ls ms:List B} (h:Zw H p ls) (h2:Zw H b ms) (hnp:∀ps:List Addr,H b=some (.lst (ps.map V.ref))→∀q ∈ ps,q≠p):∃ys zs,H p=some (.lst ys)∧H b=some (.lst zs)∧ys.length=ls.length∧zs.length=ms.length∧Zw (upd H p (.lst (ys++zs))) p (ls++ms):=by
 obtain ⟨ps,e,hR⟩:=h
 obtain ⟨qs,e2,hR2⟩:=h2
 have hn:=zmQ e hR
 have hn2:=hnp qs e2
 have key:∀{ps:List Addr} {ls:List B},(∀q ∈ ps,q≠p)→Paired (fun q x=>zD H q x) ps ls→∀o,Paired (fun q x=>zD (upd H p o) q x) ps ls:=by
  intro ps ls hn h o
  induction h with
  | nil=>exact .nil
  | cons r t ih=>exact .cons ((zv (hn _ List.mem_cons_self)).trans r) (ih fun q h=>hn q (List.mem_cons_of_mem _ h))
 refine ⟨_,_,e,e2,by rw [List.length_map];exact Paired.length hR,by rw [List.length_map];exact Paired.length hR2,ps++qs,?_,?_⟩
 ·rw [za];simp
 ·have app:∀{ps qs:List Addr} {ls ms:List B} {F:Addr→B→Prop},Paired F ps ls→Paired F qs ms→Paired F (ps++qs) (ls++ms):=by
   intro ps qs ls ms F h1 h2
   induction h1 with
   | nil=>exact h2
   | cons r t ih=>exact .cons r ih
  exact app (key hn hR _) (key hn2 hR2 _)
noncomputable def Y4 (st:String) (m:Msg) (x:Via) (src:Nat) (name:B) (cls:List B):List B:=
 [ascii "SIP/2.0 "++ascii st]++YX (valuesOf m.headers "via") (zeW x src)++[ascii "From: "++zZ m.headers "from"]++[ascii "To: "++zZ m.headers "to"++zo5 m name]++[ascii "Call-ID: "++m.id]++[ascii "CSeq: "++zZ m.headers "cseq"]++cls++[ascii "Content-Length: 0"]++[[]]
noncomputable abbrev zix (c:Cl):Sp:=fun vs H Q _=>∃hv mv name own ev m x xr,∃src:Nat,∃(st:String) (clA:Addr) (cls:List B),vs=[hv,mv,.int src,.str (Str.ofString st),.ref clA]∧zgG c H hv name own ev∧ZR c H mv m∧m.vias=x::xr∧(ascii st).length≤100∧Zw H clA cls∧(zV cls).length≤300000∧cls.length≤1000∧
 ∀p H',zC H H'→H p=none→zD H' p (zV (Y4 st m x src name cls))→Q (.ref p) H'
section
variable {P:Program} {w:World} {K:PySem.W.Frag} {mg:Str→Option Value} {base:Heap} {c:Cl} {le ln:Addr} (T:Txt K mg c le ln) (Fs:YM K mg c)
structure Lns (H0 H:Hp) (p:Addr) (ls:List B):Prop where
 s:zC H0 H
 np:H0 p=none
 rows:Zw H p ls
theorem Lns.at {H0 H:Hp} {p:Addr} {ls:List B} (l:Lns H0 H p ls):∃ys,H p=some (.lst ys):=by
 obtain ⟨ps,e,_⟩:=l.rows;exact ⟨_,e⟩
theorem Lns.ty {K:PySem.W.Frag} {H0 H:Hp} {p:Addr} {ls:List B} (l:Lns H0 H p ls):tyV K "list" (.ref p) H:=by
 obtain ⟨ys,e⟩:=l.at;exact .inl ⟨rfl,ys,SqL.of e⟩
theorem Lns.ne {H0 H:Hp} {p r:Addr} {ls:List B} (l:Lns H0 H p ls) (h:H r=none):r≠p:=by
 obtain ⟨ys,e⟩:=l.at
 rintro rfl
 rw [h] at e;cases e
theorem Lns.go {H0 H H2:Hp} {p:Addr} {ls:List B} (l:Lns H0 H p ls) (s:zC H H2):Lns H0 H2 p ls:=⟨l.s.trans s,l.np,l.rows.mono s⟩
theorem Lns.app {H0 H:Hp} {p r:Addr} {ls:List B} {x:B} (l:Lns H0 H p ls) (hr:zD H r x) (n:r≠p) (hz:ls.length≤1000000):∃ys,H p=some (.lst ys)∧ys.length < sizeLine∧Lns H0 (upd H p (.lst (ys++[.ref r]))) p (ls++[x]):=by
 obtain ⟨ys,e,hl,h⟩:=l.rows.snoc hr n
 exact ⟨ys,e,by rw [hl,sizeLine_eq];omega,zC.upd' l.s l.np,l.np,h⟩
theorem Lns.appNew {H0 H:Hp} {p r:Addr} {ls:List B} {x:B} (l:Lns H0 H p ls) (hr:H r=none) (hz:ls.length≤1000000):∃ys,(upd H r (.lst (rv x))) p=some (.lst ys)∧ys.length < sizeLine∧Lns H0 (upd (upd H r (.lst (rv x))) p (.lst (ys++[.ref r]))) p (ls++[x]):=
 (l.go (zd hr)).app za (l.ne hr) hz
theorem zlz {H:Hp} {p b:Addr} {ls ms:List B} (h:Zw H p ls) (h2:Zw H b ms) (hn:ls≠[]):∀ps:List Addr,H b=some (.lst (ps.map V.ref))→∀q ∈ ps,q≠p:=by
 rintro ps e q hq rfl
 obtain ⟨qs,e2,hR⟩:=h2
 rw [e] at e2
 have e3:ps.map V.ref=qs.map V.ref:=by injection e2 with e2;injection e2
 have e4:ps=qs:=by
  have:∀{l m:List Addr},l.map V.ref=m.map V.ref→l=m:=by
   intro l
   induction l with
   | nil=>intro m h;cases m with
    | nil=>rfl
    | cons _ _=>cases h
   | cons a t ih=>intro m h;cases m with
    | nil=>cases h
    | cons b r=>
     rw [List.map_cons,List.map_cons] at h
     injection h with h1 h2
     injection h1 with h1
     rw [h1,ih h2]
  exact this e3
 subst e4
 obtain ⟨y,_,hy⟩:=Paired.mem_left hR hq
 obtain ⟨rs,e5,hR5⟩:=h
 have hy':H q=some (.lst (rv y)):=hy
 rw [e5] at hy'
 cases hR5 with
 | nil=>exact hn rfl
 | cons a t=>
  cases y with
  | nil=>simp [rv] at hy'
  | cons n r=>simp [rv] at hy'
theorem Lns.ext {H0 H:Hp} {p b:Addr} {ls ms:List B} (l:Lns H0 H p ls) (h2:Zw H b ms) (hn:ls≠[]) (hz:ls.length + ms.length≤1000000):∃ys zs,H p=some (.lst ys)∧H b=some (.lst zs)∧ys.length + zs.length≤sizeLine∧Lns H0 (upd H p (.lst (ys++zs))) p (ls++ms):=by
 obtain ⟨ys,zs,e,e2,h3,h4,h5⟩:=l.rows.ext h2 (zlz l.rows h2 hn)
 exact ⟨ys,zs,e,e2,by rw [h3,h4,sizeLine_eq];omega,zC.upd' l.s l.np,l.np,h5⟩
theorem zen (us:List B) (x:B):(YX us x).length=us.length:=by
 cases us <;> simp [YX]
theorem zmx (us:List B):us.length≤(us.map fun v=>v.length + 7).sum:=by
 induction us with
 | nil=>simp
 | cons a t ih=>simp only [List.length_cons,List.map_cons,List.sum_cons];omega
theorem zdi (a b:List B):zV (a++b)=zV a++zV b:=by
 induction a with
 | nil=>rw [yN];rfl
 | cons x t ih=>rw [List.cons_append,zH,zH,ih];simp
theorem zdh (x:B):(zV [x]).length=x.length + 2:=by rw [zH,yN];simp
theorem zpr (m:Msg) (name:B):(zo5 m name).length≤30:=by
 unfold zo5
 split
 ·simp
 ·rw [List.length_append,QK]
  have:(ascii ";tag=").length=5:=by decide +kernel
  omega
include T Fs
theorem ziY:yG P w K mg base 5 "reply_row" ["house","request","source","status","contact_lines"] (zix c):=by
 refine Fs.d_reply_row.ok zdB zjA (fun vs H Q E h=>?_) (fun f cdv A outer s H vs Q E hr h=>?_)
 ·obtain ⟨hv,mv,name,own,ev,m,x,xr,src,st,clA,cls,rfl,_⟩:=h;rfl
 ·obtain ⟨hv,mv,name,own,ev,m,x,xr,src,st,clA,cls,rfl,hh,hm,hx,hst,hcl,hclz,hcln,k⟩:=h
  refine ⟨_,(zc (zE (i:=5) zdB.nd rfl (Or.inl rfl) (zO (zl (zq (zQ T Fs) (hr.mono (by decide)) rfl (zl (zU Yq yt (pv 3)) zb)) zb))) (zc (yx (Zb PySem.F.plainAttrs_list PySem.F.slot_list_extend PySem.F.type_list_extend Jc (pv 5) (zl (zq (ziX T Fs) (hr.mono (by decide)) rfl (zl (pv 1) (zl (pv 2) zb))) zb))) (zc (yx (Zb PySem.F.plainAttrs_list PySem.F.slot_list_append PySem.F.type_list_append yu (pv 5) (zl (zU yq (zq (zQ T Fs) (hr.mono (by decide)) rfl (zl yt zb)) (zq (yy T Fs) (hr.mono (by decide)) rfl (zl (zj (K:=K) (pv 1) rfl) (zl (zN T.c_FROM rfl) zb)))) zb))) (zc (yx (Zb PySem.F.plainAttrs_list PySem.F.slot_list_append PySem.F.type_list_append yu (pv 5) (zl (zU yq (zU yq (zq (zQ T Fs) (hr.mono (by decide)) rfl (zl yt zb)) (zq (yy T Fs) (hr.mono (by decide)) rfl (zl (zj (K:=K) (pv 1) rfl) (zl (zN T.c_TO rfl) zb)))) (zq (zlK T Fs) (hr.mono (by decide)) rfl (zl (pv 0) (zl (pv 1) zb)))) zb))) (zc (yx (Zb PySem.F.plainAttrs_list PySem.F.slot_list_append PySem.F.type_list_append yu (pv 5) (zl (zU yq (zq (zQ T Fs) (hr.mono (by decide)) rfl (zl yt zb)) (zj (K:=K) (pv 1) rfl)) zb))) (zc (yx (Zb PySem.F.plainAttrs_list PySem.F.slot_list_append PySem.F.type_list_append yu (pv 5) (zl (zU yq (zq (zQ T Fs) (hr.mono (by decide)) rfl (zl yt zb)) (zj (K:=K) (pv 1) rfl)) zb))) (zc (yx (Zb PySem.F.plainAttrs_list PySem.F.slot_list_extend PySem.F.type_list_extend Jc (pv 5) (zl (pv 4) zb))) (zc (yx (Zb PySem.F.plainAttrs_list PySem.F.slot_list_append PySem.F.type_list_append yu (pv 5) (zl (zq (zQ T Fs) (hr.mono (by decide)) rfl (zl yt zb)) zb))) (zc (yx (Zb PySem.F.plainAttrs_list PySem.F.slot_list_append PySem.F.type_list_append yu (pv 5) (zl (zO zb) zb))) (zg (zm (zq (zaz T Fs) (hr.mono (by decide)) rfl (zl (pv 5) zb))))))))))))),fun hL=>?_⟩
  have hm0:=hm
  have hv1:=hm.vals "via"
  have hr1:=zeg x src
  have hv2:(zV (YX (valuesOf m.headers "via") (zeW x src))).length≤65536 + 93:=Nat.le_trans (zij (valuesOf m.headers "via") (zeW x src)) (Nat.add_le_add hv1 hr1)
  have hv3:(YX (valuesOf m.headers "via") (zeW x src)).length≤65536:=by
   rw [zen]
   exact Nat.le_trans (zmx (valuesOf m.headers "via")) hv1
  clear hv1
  have hf1:=hm.only "from"
  have ht1:=hm.only "to"
  have hc1:=hm.only "cseq"
  have htg:=zpr m name
  obtain ⟨a,dx,fv,xv,bv,v3,v4,v5,v6,v7,v8,rfl,ho,mf⟩:=hm.opened
  obtain ⟨iA,rfl,hi,hiz,_⟩:=mf.id
  obtain ⟨sA,rfl,hs,hsz,_⟩:=mf.sq
  have c1:(ascii "SIP/2.0 ").length=8:=by decide +kernel
  have c2:(ascii "From: ").length=6:=by decide +kernel
  have c3:(ascii "To: ").length=4:=by decide +kernel
  have c4:(ascii "Call-ID: ").length=9:=by decide +kernel
  have c5:(ascii "CSeq: ").length=6:=by decide +kernel
  have c6:(ascii "Content-Length: 0").length=17:=by decide +kernel
  have et:tl (Str.ofString "SIP/2.0 "++Str.ofString st)=ascii "SIP/2.0 "++ascii st:=by rw [TL.tl_append,zB,zB]
  have et2:(Str.ofString "SIP/2.0 "++Str.ofString st).cps.size=(ascii "SIP/2.0 "++ascii st).length:=by rw [← et,Array.length_toList]
  refine ⟨_,rfl,_,_,rfl,rfl,?_,_,rfl,?_,fun p1 H1 s1 hp1 e1=>⟨by rw [sizeLine_eq];simp,fun p hp=>?_⟩⟩
  ·rw [QC,QC,zB,zB,sizeLine_eq];omega
  ·rw [et2,List.length_append];omega
  rw [et] at e1
  have l2:Lns H (upd H1 p (.lst [.ref p1])) p [ascii "SIP/2.0 "++ascii st]:=⟨s1.trans (zd hp),s1.free hp,[p1],za,.cons ((zd hp) _ _ e1) .nil⟩
  generalize upd H1 p (.lst [.ref p1])=H2 at l2 ⊢
  walk_at "nm"
  refine ⟨_,rfl,l2.ty,_,rfl,_,rfl,_,m,x,xr,src,rfl,hm.mono l2.s,hx,fun p3 ps3 H3 s3 hp3 e3 r3=>?_⟩
  obtain ⟨ys,zs,y1,y2,y3,l4⟩:=(l2.go s3).ext ⟨ps3,e3,r3⟩ (by simp) (by simp only [List.length_append,List.length_cons,List.length_nil];omega)
  refine ⟨p,p3,ys,zs,rfl,rfl,y1,y2,y3,?_⟩
  generalize upd H3 p (.lst (ys++zs))=H4 at l4 ⊢
  dsimp only
  refine ⟨_,rfl,l4.ty,"From: ",rfl,(by decide +kernel),fun p5 H5 s5 hp5 e5=>⟨_,rfl,a,_,dx,_,_,rfl,s5 _ _ (l4.s _ _ ho),T.k_Message,T.n_Message_headers,zW _ _ _ _ _ _ _ _ _,H,_,_,("from","f"),rfl,l4.s.trans s5,mf.hd,(by decide +kernel),fun v6 G6 H6 g6 ⟨q6,e6,r6,_⟩=>⟨p5,q6,_,_,rfl,e6,g6.hh _ _ e5,g6.gh _ _ r6,?_,fun p7 hp7=>?_⟩⟩⟩
  ·rw [zi,zi,zB];exact sz (by omega)
  rw [yf,zB]
  obtain ⟨ys,y1,y3,l8⟩:=(l4.go (s5.trans g6.hh)).appNew (x:=ascii "From: "++zZ m.headers "from") hp7 (by simp only [List.length_append,List.length_cons,List.length_nil];omega)
  refine ⟨p,ys,_,rfl,rfl,y1,y3,?_⟩
  generalize upd _ p (.lst (ys++[V.ref p7]))=H8 at l8 ⊢
  dsimp only
  refine ⟨_,rfl,l8.ty,"To: ",rfl,(by decide +kernel),fun p5 H5 s5 hp5 e5=>⟨_,rfl,a,_,dx,_,_,rfl,s5 _ _ (l8.s _ _ ho),T.k_Message,T.n_Message_headers,zW _ _ _ _ _ _ _ _ _,H,_,_,("to","t"),rfl,l8.s.trans s5,mf.hd,(by decide +kernel),fun v6 G6 H6 g6 ⟨q6,e6,r6,_⟩=>⟨p5,q6,_,_,rfl,e6,g6.hh _ _ e5,g6.gh _ _ r6,?_,fun p7 hp7=>?_⟩⟩⟩
  ·rw [zi,zi,zB];exact sz (by omega)
  rw [yf,zB]
  have l9:=l8.go (s5.trans (g6.hh.trans (zd (o:=.lst (rv (ascii "To: "++zZ m.headers "to"))) hp7)))
  have r9:zD (upd H6 p7 (.lst (rv (ascii "To: "++zZ m.headers "to")))) p7 (ascii "To: "++zZ m.headers "to"):=za
  clear g6 r6
  generalize upd H6 p7 (.lst (rv (ascii "To: "++zZ m.headers "to")))=H9 at l9 r9 ⊢
  refine ⟨_,rfl,_,rfl,_,_,name,own,ev,m,rfl,hh.mono l9.s,hm.mono l9.s,fun p10 H10 s10 hp10 e10=>⟨p7,p10,_,_,rfl,rfl,s10 _ _ r9,e10,?_,fun p11 hp11=>?_⟩⟩
  ·rw [zi,zi,List.length_append];exact sz (by omega)
  rw [yf]
  obtain ⟨ys,y1,y3,l12⟩:=(l9.go s10).appNew (x:=ascii "To: "++zZ m.headers "to"++zo5 m name) hp11 (by simp only [List.length_append,List.length_cons,List.length_nil];omega)
  refine ⟨p,ys,_,rfl,rfl,y1,y3,?_⟩
  generalize upd _ p (.lst (ys++[V.ref p11]))=H12 at l12 ⊢
  dsimp only
  refine ⟨_,rfl,l12.ty,"Call-ID: ",rfl,(by decide +kernel),fun p13 H13 s13 hp13 e13=>⟨_,rfl,a,_,dx,_,_,rfl,s13 _ _ (l12.s _ _ ho),T.k_Message,T.n_Message_call_id,yF _ _ _ _ _ _ _ _ _,p13,iA,_,_,rfl,rfl,e13,s13 _ _ (l12.s _ _ hi),?_,fun p14 hp14=>?_⟩⟩
  ·rw [zi,zi,zB];exact sz (by omega)
  rw [yf,zB]
  obtain ⟨ys,y1,y3,l15⟩:=(l12.go s13).appNew (x:=ascii "Call-ID: "++m.id) hp14 (by simp only [List.length_append,List.length_cons,List.length_nil];omega)
  refine ⟨p,ys,_,rfl,rfl,y1,y3,?_⟩
  generalize upd _ p (.lst (ys++[V.ref p14]))=H15 at l15 ⊢
  dsimp only
  refine ⟨_,rfl,l15.ty,"CSeq: ",rfl,(by decide +kernel),fun p13 H13 s13 hp13 e13=>⟨_,rfl,a,_,dx,_,_,rfl,s13 _ _ (l15.s _ _ ho),T.k_Message,T.n_Message_sequence,Zi _ _ _ _ _ _ _ _ _,p13,sA,_,_,rfl,rfl,e13,s13 _ _ (l15.s _ _ hs),?_,fun p14 hp14=>?_⟩⟩
  ·rw [zi,zi,zB];exact sz (by omega)
  rw [yf,zB]
  obtain ⟨ys,y1,y3,l16⟩:=(l15.go s13).appNew (x:=ascii "CSeq: "++zZ m.headers "cseq") hp14 (by simp only [List.length_append,List.length_cons,List.length_nil];omega)
  refine ⟨p,ys,_,rfl,rfl,y1,y3,?_⟩
  generalize upd _ p (.lst (ys++[V.ref p14]))=H16 at l16 ⊢
  dsimp only
  obtain ⟨ys,zs,y1,y2,y3,l17⟩:=l16.ext (hcl.mono l16.s) (by simp) (by simp only [List.length_append,List.length_cons,List.length_nil];omega)
  refine ⟨_,rfl,l16.ty,_,rfl,p,clA,ys,zs,rfl,rfl,y1,y2,y3,?_⟩
  generalize upd H16 p (.lst (ys++zs))=H17 at l17 ⊢
  dsimp only
  refine ⟨_,rfl,l17.ty,"Content-Length: 0",rfl,(by decide +kernel),fun p18 H18 s18 hp18 e18=>?_⟩
  rw [zB] at e18
  obtain ⟨ys,y1,y3,l19⟩:=(l17.go s18).app e18 (l17.ne hp18) (by simp only [List.length_append,List.length_cons,List.length_nil];omega)
  refine ⟨p,ys,_,rfl,rfl,y1,y3,?_⟩
  generalize upd _ p (.lst (ys++[V.ref p18]))=H19 at l19 ⊢
  dsimp only
  refine ⟨_,rfl,l19.ty,Nat.zero_le _,fun p20 hp20=>?_⟩
  obtain ⟨ys,y1,y3,l21⟩:=l19.appNew (x:=[]) hp20 (by simp only [List.length_append,List.length_cons,List.length_nil];omega)
  refine ⟨p,ys,_,rfl,rfl,y1,y3,?_⟩
  have e20:(rv []:List V)=[]:=rfl
  rw [e20] at l21
  generalize upd _ p (.lst (ys++[V.ref p20]))=H21 at l21 ⊢
  dsimp only
  refine ⟨_,rfl,p,_,rfl,l21.rows,?_,fun p22 H22 s22 hp22 e22=>k p22 H22 (l21.s.trans s22) (l21.s.free hp22) e22⟩
  simp only [zdi,List.length_append,zdh,List.length_nil]
  omega
end
section
variable {P:Program} {w:World} {K:PySem.W.Frag} {mg:Str→Option Value} {base:Heap} {c:Cl} {le ln:Addr} (T:Txt K mg c le ln) (Fs:YM K mg c)
theorem Paired.app {α β:Type} {F:α→β→Prop}:∀{l l':List α} {m m':List β},Paired F l m→Paired F l' m'→Paired F (l++l') (m++m')
 | _,_,_,_,.nil,h=>h
 | _,_,_,_,.cons r t,h=>.cons r (Paired.app t h)
theorem Paired.rev {α β:Type} {F:α→β→Prop}:∀{l:List α} {m:List β},Paired F l m→Paired F l.reverse m.reverse
 | _,_,.nil=>.nil
 | _,_,.cons r t=>by rw [List.reverse_cons,List.reverse_cons];exact Paired.app (Paired.rev t) (.cons r .nil)
noncomputable abbrev zgQ (c:Cl):Sp:=fun vs H Q _=>∃G v es,vs=[v]∧zC G H∧zL (Z7 c) G v es∧∀v' G' H',zJ G H G' H'→zL (Z7 c) G' v' es.reverse→Q v' H'
noncomputable def zl2 (m:Msg):Bool:=if m.contacts.any zit=true then Jh m else m.contacts.all zcF
noncomputable def zko (m:Msg) (es:List Sa39.Entry) (whom:B):Bool:=(es.filter fun e=>e.whom == whom).any fun e=>e.id == m.id&&decide (m.cseq.1≤e.cseq)
noncomputable def zoV (name:B) (own:Sa39.Place) (m:Msg) (es:List Sa39.Entry):Bool:=(decide (m.to.target.word=none)||!zgc name own m.to.target.host m.to.target.port)||(!zl2 m||zko m es (m.to.target.word.getD []))
noncomputable abbrev zmD (c:Cl):Sp:=fun vs H Q _=>∃hv mv v name own ev m es,vs=[hv,mv,v]∧zgG c H hv name own ev∧addressOf name=none∧ZR c H mv m∧zL (Z7 c) H v es∧∀H',zC H H'→Q (.bl (zoV name own m es)) H'
theorem zL.mono' {α:Type} {R:Hp→V→α→Prop} (mono:∀G G' v y,zC G G'→R G v y→R G' v y) {G G':Hp} {v:V} {xs:List α} (s:zC G G') (h:zL R G v xs):zL R G' v xs:=by
 obtain ⟨a,vs,e,h1,h2⟩:=h;exact ⟨a,vs,e,s _ _ h1,Paired.mapP h2 fun v y=>mono _ _ v y s⟩
theorem Z5 {c:Cl} {G G':Hp} {v:V} {es:List Sa39.Entry} (s:zC G G') (h:zL (Z7 c) G v es):zL (Z7 c) G' v es:=zL.mono' (R:=Z7 c) (fun _ _ _ _ s h=>Z7.mono s h) s h
include T Fs
theorem JC:yG P w K mg base 1 "last_first" ["entries"] (zgQ c):=by
 refine Fs.d_last_first.ok zg9 zhT (fun vs H Q E h=>?_) (fun f cdv A outer s H vs Q E hr h=>?_)
 ·obtain ⟨G,v,es,rfl,_⟩:=h;rfl
 ·obtain ⟨G,v,es,rfl,sg,⟨pA,vs,rfl,hp,hR⟩,k⟩:=h
  refine ⟨_,(zg (zm (zlG (K:=K) rfl rfl T.b_list T.b_reversed (pv 0)))),fun hL=>?_⟩
  refine ⟨_,rfl,pA,vs,rfl,SqL.of (sg _ _ hp),fun l hl=>?_⟩
  refine k _ (upd G l (.lst vs.reverse)) _ (zJ.keep sg (zd hl) hl za) ⟨l,vs.reverse,rfl,za,Paired.mapP (Paired.rev hR) fun v y=>Z7.mono (zd (sg.free hl))⟩
theorem zm8:yG P w K mg base 6 "is_bad" ["house","request","entries"] (zmD c):=by
 refine Fs.d_is_bad.ok ziN znN (fun vs H Q E h=>?_) (fun f cdv A outer s H vs Q E hr h=>?_)
 ·obtain ⟨hv,mv,v,name,own,ev,m,es,rfl,_⟩:=h;rfl
 ·obtain ⟨hv,mv,v,name,own,ev,m,es,rfl,hh,hn,hm,hes,k⟩:=h
  refine ⟨_,(zc (zE (i:=3) ziN.nd rfl (Or.inl rfl) (zj (K:=K) (zj (K:=K) (pv 1) rfl) rfl)) (zc (z4 (Za (PW.pt (Z9 (zw (yd (K:=K) hr.units) (zj (K:=K) (pv 3) rfl) (zO zb) (zz _)) (Zm (yT (yi (zlF (pv 0) (JE T Fs) (hr.mono (by decide)) (zl (pv 3) zb)))))))) (zg (zm zeZ)) zF) (zg (zm (zf3 (zqR (zq (zbF T Fs) (hr.mono (by decide)) rfl (zl (pv 1) zb))) (Zn (zq (zda T Fs) (hr.mono (by decide)) rfl (zl (pv 1) (zl (zq (JD T Fs) (hr.mono (by decide)) rfl (zl (pv 2) (zl (zj (K:=K) (pv 3) rfl) zb))) zb))))))))),fun hL=>?_⟩
  have hm0:=hm
  obtain ⟨a,dx,fv,xv,bv,v3,v4,v5,v6,v7,v8,rfl,ho,mf⟩:=hm.opened
  obtain ⟨b,tv,pvv,dx',txt,rfl,q1,q2,q3⟩:=mf.to
  have hh':=hh
  obtain ⟨hA,nA,dxh,rfl,g1,_⟩:=hh'
  have q2':=q2
  obtain ⟨o,rA,wA,dx2,ev2,hb,rfl,t3,t4,t5,t6,t8⟩:=q2'
  refine ⟨_,rfl,a,_,dx,_,_,rfl,ho,T.k_Message,T.n_Message_receiver,yP _ _ _ _ _ _ _ _ _,b,_,dx',_,_,rfl,q1,T.k_Party,T.n_Party_target,yB _ _,?_⟩
  walk_at "nm"
  refine ⟨fun r H2=>zC H H2∧r=(decide (m.to.target.word=none)||!zgc name own m.to.target.host m.to.target.port),?_,fun r H2 ⟨s2,hr2⟩=>?_⟩
  ·refine ⟨_,rfl,o,_,dx2,_,_,rfl,t3,T.k_Target,T.n_Target_word,yZ _ _ _,Nat.zero_le _,fun q hq=>⟨wA,q,_,_,rfl,rfl,SqL.of ((zd hq) _ _ t5),zgA,_,rfl,?_⟩⟩
   have s1:=zd (o:=.lst []) hq
   generalize upd H q (.lst [])=H1 at s1 ⊢
   refine zR (fun w1=>⟨s1,?_⟩) (fun w1=>?_)
   ·cases e:m.to.target.word with
    | none=>rfl
    | some w=>
     have:=zjR (t8 w e)
     rw [e] at w1
     simp [this] at w1
   ·have e:¬ m.to.target.word=none:=by
     intro e
     rw [e] at w1
     exact w1 rfl
    refine ⟨_,rfl,hA,dxh,_,rfl,s1 _ _ g1,rfl,_,rfl,_,_,name,own,ev,_,txt,rfl,hh.mono s1,hn,znX.mono s1 q2,fun H3 s3=>⟨_,rfl,s1.trans s3,?_⟩⟩
    rw [decide_eq_false e,Bool.false_or]
  ·subst hr2
   refine zR (fun w1=>?_) (fun w1=>?_)
   ·refine qb ?_ (k H2 s2)
    unfold zoV
    rw [w1];rfl
   ·walk_at "nx"
    rw [Bool.not_eq_true] at w1
    refine ⟨_,rfl,_,m,rfl,hm0.mono s2,fun H3 s3=>⟨_,rfl,_,rfl,zR (fun w2=>?_) (fun w2=>?_)⟩⟩
    ·refine qb ?_ (k H3 (s2.trans s3))
     unfold zoV
     rw [w1,show (!zl2 m)=true from w2];rfl
    ·have s23:=s2.trans s3
     refine ⟨_,rfl,_,rfl,_,rfl,o,_,dx2,_,_,rfl,s23 _ _ t3,T.k_Target,T.n_Target_word,yZ _ _ _,H,v,es,wA,_,rfl,s23,hes,s23 _ _ t5,fun v4' G4 H4 g4 r4=>⟨_,m,v4',_,rfl,hm0.mono (s23.trans g4.hh),Z5 g4.gh r4,fun H5 s5=>qb ?_ (k H5 (s23.trans (g4.hh.trans s5)))⟩⟩
     unfold zoV zko
     rw [w1,show (!zl2 m)=false from Bool.eq_false_iff.mpr w2];rfl
end
section
variable {P:Program} {w:World} {K:PySem.W.Frag} {mg:Str→Option Value} {base:Heap} {c:Cl} {le ln:Addr} (T:Txt K mg c le ln) (Fs:YM K mg c)
theorem zna {n:Nat} {b:B} {k:Nat} (h:number n b=some k):k≤n:=by
 unfold number at h
 split at h
 ·rename_i q;cases h;exact q.2.2.2.2
 ·cases h
theorem zeD {b:B} {x:Host × Nat} (h:sentBy b=some x):x.2≤65535:=by
 unfold sentBy at h
 split at h
 ·obtain ⟨y,_,rfl⟩:=Option.map_eq_some_iff.mp h
  show 5060≤65535
  decide
 ·obtain ⟨y,_,h⟩:=Option.bind_eq_some_iff.mp h
  obtain ⟨p,hp,h⟩:=Option.bind_eq_some_iff.mp h
  split at h
  ·cases h
  ·cases h;exact zna hp
theorem zgI {b:B} {t:Target} (h:targetOf b=some t):t.port≤65535:=by
 unfold targetOf at h
 split at h
 ·cases h
 ·dsimp only at h
  split at h
  ·split at h
   ·obtain ⟨y,hy,rfl⟩:=Option.map_eq_some_iff.mp h
    exact zeD hy
   ·cases h
  ·obtain ⟨y,hy,rfl⟩:=Option.map_eq_some_iff.mp h
   exact zeD hy
theorem zi6 {b:B} {n:Named} (h:namedOf b=some n):n.target.port≤65535:=by
 unfold namedOf at h
 obtain ⟨x,_,h⟩:=Option.bind_eq_some_iff.mp h
 split at h
 ·cases h
 ·obtain ⟨y,_,h⟩:=Option.bind_eq_some_iff.mp h
  obtain ⟨t,ht,h⟩:=Option.bind_eq_some_iff.mp h
  obtain ⟨p,_,rfl⟩:=Option.map_eq_some_iff.mp h
  exact zgI ht
theorem zgd {b:B} {n:Named} (h:contactOf b=some (.at_ n)):n.target.port≤65535:=by
 unfold contactOf at h
 split at h
 ·cases h
 ·obtain ⟨x,hx,e⟩:=Option.map_eq_some_iff.mp h
  cases e
  exact zi6 hx
theorem ZR.ctPort {c:Cl} {G:Hp} {v:V} {m:Msg} (h:ZR c G v m) {n:Named} (hn:Contact.at_ n ∈ m.contacts):n.target.port≤65535:=by
 obtain ⟨b,f,hs,r,_,im,_⟩:=h
 have e:=Zh.mp im.contacts
 have:some (Contact.at_ n) ∈ m.contacts.map some:=List.mem_map.mpr ⟨_,hn,rfl⟩
 rw [← e] at this
 obtain ⟨x,_,hx⟩:=List.mem_map.mp this
 exact zgd hx
noncomputable def zkq:Host→Nat
 | .address a=>a
 | .name _=>0
noncomputable def JT (m:Msg) (whom:B) (now:Nat) (l:List Sa39.Entry):Contact→List Sa39.Entry
 | .all=>l
 | .at_ n=>(l.filter fun e=>!(e.whom == whom&&decide (e.word=n.target.word∧e.place=⟨zkq n.target.host,n.target.port⟩)))++
   (if lasts m n=0 then [] else [⟨whom,n.target.word,⟨zkq n.target.host,n.target.port⟩,min (now + lasts m n) 4294967295,m.id,m.cseq.1⟩])
noncomputable def QL (m:Msg) (whom:B) (now:Nat) (es:List Sa39.Entry):List Sa39.Entry:=
 if Jh m=true then es.filter fun e=>!(e.whom == whom) else m.contacts.foldl (JT m whom now) es
noncomputable abbrev zbX (c:Cl):Sp:=fun vs H Q _=>∃G mv v m es whom,∃now:Nat,vs=[mv,.int now,v]∧zC G H∧ZR c G mv m∧zL (Z7 c) G v es∧now < 2 ^ 32∧m.to.target.word=some whom∧zl2 m=true∧(es.length + m.contacts.length≤1000000)∧∀v' G' H',zJ G H G' H'→zL (Z7 c) G' v' (QL m whom now es)→Q v' H'
theorem znG (m:Msg) (whom:B) (now:Nat) (l:List Sa39.Entry) (x:Contact):(JT m whom now l x).length≤l.length + 1:=by
 cases x with
 | all=>simp [JT]
 | at_ n=>
  unfold JT
  simp only [List.length_append]
  have h1:=List.length_filter_le (fun e:Sa39.Entry=>!(e.whom == whom&&decide (e.word=n.target.word∧e.place=⟨zkq n.target.host,n.target.port⟩))) l
  split <;> simp only [List.length_nil,List.length_cons] <;> omega
theorem zjl (m:Msg) (whom:B) (now:Nat):∀(cs:List Contact) (l:List Sa39.Entry),(cs.foldl (JT m whom now) l).length≤l.length + cs.length
 | [],l=>by simp
 | x::cs,l=>by
  have h1:=zjl m whom now cs (JT m whom now l x)
  have h2:=znG m whom now l x
  simp only [List.foldl_cons,List.length_cons]
  omega
theorem zdd {C:Addr} {H1 H':Hp} {x dx:Addr} (nx:H1 x=none) (ndx:H1 dx=none) (h1:∀b o,(upd (upd H1 dx (.own x)) x (.ins C dx [])) b=some o→b≠x→H' b=some o):zC H1 H':=
 fun b o e=>h1 b o (by rw [zv (zy e nx),zv (zy e ndx)];exact e) (zy e nx)
include T Fs
theorem zcn:yG P w K mg base 5 "changed_entries" ["request","now","entries"] (zbX c):=by
 refine Fs.d_changed_entries.ok zP zcD (fun vs H Q E h=>?_) (fun f cdv A outer s H vs Q E hr h=>?_)
 ·obtain ⟨G,mv,v,m,es,whom,now,rfl,_⟩:=h;rfl
 ·obtain ⟨G,mv,v,m,es,whom,now,rfl,sg,hm,hes,hnow,hw,hfit,hsz,k⟩:=h
  refine ⟨_,(zc (zE (i:=3) zP.nd rfl (Or.inr rfl) (zj (K:=K) (zj (K:=K) (zj (K:=K) (pv 0) rfl) rfl) rfl)) (zc (z4 (yi (zq (za3 T Fs) (hr.mono (by decide)) rfl (zl (pv 0) zb))) (zg (zm (Q2 rfl zP.nd (zK (K:=K) (yX (pv 2))) (z3 (own:=[("entry",9)]) (by exact rfl)) (fun _ _ _ _ _=>zX (i:=9) zP.nd rfl (Or.inl rfl)) (fun _ _ _ _ _=>(zc3 (zw (Qr (K:=K) hr.units) (zj (K:=K) (pv 9) rfl) (pv 3) (zz _)))) (fun _ _ _ _ _=>(pv 9))))) zF) (zc (zE (i:=4) zP.nd rfl (Or.inl rfl) (pv 2)) (zc (JP PassesOwn.never rfl (zK (K:=K) (zj (K:=K) (pv 0) rfl)) (zX (i:=5) zP.nd rfl (Or.inl rfl)) (zc (zE (i:=6) zP.nd rfl (Or.inr rfl) (zq (zd2 T Fs) (hr.mono (by decide)) rfl (zl (pv 5) zb))) (zc (Jx (i:=4) (hc:=rfl) (hN:=zP.nd) (hy:=rfl) (hyl:=rfl) (hsw:=zbc rfl rfl rfl (by decide +kernel)) (zK (K:=K) (yX (pv 4))) (z3 (own:=[("entry",9)]) (by exact rfl)) (fun _ _ _ _ _=>zX (i:=9) zP.nd rfl (Or.inl rfl)) (fun _ _ _ _ _=>(zc3 (PW.pt (Z9 (zw (Qr (K:=K) hr.units) (zj (K:=K) (pv 9) rfl) (pv 3) (zz _)) (Zm (yT (yi (zq (zd1 T Fs) (hr.mono (by decide)) rfl (zl (zj (K:=K) (pv 9) rfl) (zl (pv 6) zb)))))))))) (fun _ _ _ _ _=>(pv 9))) (zc (zE (i:=7) zP.nd rfl (Or.inl rfl) (zq (ze6 T Fs) (hr.mono (by decide)) rfl (zl (pv 5) (zl (pv 0) zb)))) (zg (z4 (zw zhs (pv 7) zu (zz _)) (zc (zE (i:=8) zP.nd rfl (Or.inl rfl) (yo (znH rfl) rfl T.b_min zrq (zl (zU yY (pv 1) (pv 7)) (zl (zN T.c_LATEST rfl) zb)))) (zg (yx (Zb PySem.F.plainAttrs_list PySem.F.slot_list_append PySem.F.type_list_append yu (pv 4) (zl (YY (zhB T Fs) (hr.mono (by decide)) rfl (zl (pv 3) (zl (pv 6) (zl (pv 8) (zl (zj (K:=K) (pv 0) rfl) (zl (zq (QF T Fs) (hr.mono (by decide)) rfl (zl (pv 0) zb)) zb)))))) zb))))) zF)))))) (zg (zm (pv 4))))))),fun hL=>?_⟩
  have hm0:=hm
  obtain ⟨a,dx,fv,xv,bv,v3,v4,v5,v6,v7,v8,rfl,ho,mf⟩:=hm.opened
  obtain ⟨b,tv,pvv,dx',txt,rfl,q1,q2,q3⟩:=mf.to
  obtain ⟨o,rA,wA,dx2,ev2,hb,rfl,t3,t4,t5,t6,t8⟩:=q2
  have hwl:=zee (t8 whom hw)
  rw [hw] at t5
  have t5:zD G wA whom:=t5
  obtain ⟨p6,vs6,rfl,hp6,hR6⟩:=mf.ct
  obtain ⟨iA,rfl,hid,hiz,_⟩:=mf.id
  obtain ⟨line,r,hmo⟩:=hm0.raw
  refine ⟨_,rfl,a,_,dx,_,_,rfl,sg _ _ ho,T.k_Message,T.n_Message_receiver,yP _ _ _ _ _ _ _ _ _,b,_,dx',_,_,rfl,sg _ _ q1,T.k_Party,T.n_Party_target,yB _ _,o,_,dx2,_,_,rfl,sg _ _ t3,T.k_Target,T.n_Target_word,yZ _ _ _,?_⟩
  walk_at "nm"
  refine ⟨_,rfl,_,m,rfl,hm0.mono sg,fun H1 s1=>⟨_,rfl,zR (fun h1=>?_) (fun h1=>?_)⟩⟩
  ·refine zf1 ?_
   obtain ⟨pA,vs,rfl,hp,hR⟩:=hes
   unfold QL at k
   rw [if_pos h1] at k
   have sg1:=sg.trans s1
   refine Qn (Z7 c) (fun _ _ _ _=>Z7.mono) (fun v H2=>v=.ref pA∧H2=H1) ⟨_,rfl,rfl,rfl⟩ ?_
   rintro v H2 ⟨rfl,rfl⟩
   have hl:=Paired.length hR
   refine ⟨pA,vs,G,fun i=>(es[i]?).bind fun e=>if (!(e.whom == whom))=true then some e else none,rfl,SqL.of (sg1 _ _ hp),sg1,fun i y G2 H2 P hy g2 hP=>?_,fun p4 us G4 H4 g4 hp4 hG4 e4 hR4=>?_⟩
   ·obtain ⟨e,hpi,hE⟩:=Paired.at_ hR hy
    simp only [hpi,Option.bind_some] at hP
    have hE':=hE
    obtain ⟨a,xA,pv,iA,dx,rfl,y1,y2,_⟩:=hE
    refine ⟨_,rfl,a,_,dx,_,_,rfl,g2.s _ _ y1,T.k_Entry,T.n_Entry_whom,QJ _ _ _ _ _,_,rfl,xA,wA,_,_,rfl,rfl,SqL.of (g2.s _ _ y2),SqL.of (g2.s _ _ t5),_,rfl,zR (fun h6=>?_) (fun h6=>?_)⟩
    ·rw [if_pos (by simpa using h6)] at hP
     exact ⟨_,rfl,hP _ G2 H2 (zJ.refl g2.gh) (Z7.mono g2.gg hE')⟩
    ·rw [if_neg (by simpa using h6)] at hP
     exact hP G2 H2 (zJ.refl g2.gh)
   ·rw [hl,Y7,Y3 (fun e:Sa39.Entry=>!(e.whom == whom))] at hR4
    refine k _ (upd G4 p4 (.lst us)) H4 ((zJ.more sg s1).trans (g4.pub hp4 hG4 e4)) ⟨p4,us,rfl,za,Paired.mapP hR4 fun v y=>Z7.mono (zd hG4)⟩
  ·walk_at "nx"
   unfold QL at k
   rw [if_neg h1] at k
   have gH:=zJ.more sg s1
   have nstar:m.contacts.all zcF=true:=by
    unfold zl2 at hfit
    split at hfit
    ·exact absurd hfit h1
    ·exact hfit
   refine ⟨_,rfl,?_⟩
   walk_at "nm"
   refine ⟨_,rfl,a,_,dx,_,_,rfl,gH.s _ _ ho,T.k_Message,T.n_Message_contacts,yQ _ _ _ _ _ _ _ _ _,p6,_,rfl,SqL.of (gH.s _ _ hp6),fun _=>Yy (K:=K) (a:=p6) (xs:=vs6) (fun i σ H'=>∃G' v' w5 w6 w7 w8,σ=[some (.ref a),some (.int now),some v,some (.ref wA),some v',w5,w6,w7,w8,none]∧zJ G H G' H'∧zL (Z7 c) G' v' ((m.contacts.take i).foldl (JT m whom now) es)) ⟨G,v,none,none,none,none,rfl,gH,hes⟩ (fun i σ H' _ ⟨G',_,_,_,_,_,_,g,_⟩=>SqL.of (g.s _ _ hp6)) ?_ ?_⟩
   ·rintro i y σ H' hi ⟨G',v',w5,w6,w7,w8,rfl,g,hl'⟩
    obtain ⟨x,hx,hX⟩:=Paired.at_ hR6 hi
    have hmem:=List.mem_of_getElem? hx
    have hlen:=zjl m whom now (m.contacts.take i) es
    have htk:(m.contacts.take i).length≤m.contacts.length:=by rw [List.length_take];omega
    have hstep:(m.contacts.take (i + 1)).foldl (JT m whom now) es=JT m whom now ((m.contacts.take i).foldl (JT m whom now) es) x:=by
     rw [List.take_add_one,hx,List.foldl_append];rfl
    rw [hstep]
    generalize (m.contacts.take i).foldl (JT m whom now) es=l at hl' hlen
    have hadr:=List.all_eq_true.mp nstar _ hmem
    cases x with
    | all=>simp [zcF] at hadr
    | at_ n=>
    cases hh:n.target.host with
    | name _=>rw [zcF,hh] at hadr;cases hadr
    | address adr=>
    have hport:=hm0.ctPort hmem
    have hX:zmo c G y n:=hX
    walk_at "nm"
    refine ⟨_,rfl,G',y,n,adr,rfl,g.gh,hX.mono g.gg,hh,hport,fun pl G2 H2 g2 hpl=>?_⟩
    walk_at "nm"
    have gg:=g.trans g2
    refine zfH ?_
    obtain ⟨pA,vs,rfl,hp,hR⟩:=hl'
    refine Qn (Z7 c) (fun _ _ _ _=>Z7.mono) (fun v H3=>v=.ref pA∧H3=H2) ⟨_,rfl,rfl,rfl⟩ ?_
    rintro v3 H3 ⟨rfl,rfl⟩
    have hll:=Paired.length hR
    refine ⟨pA,vs,G2,fun i=>(l[i]?).bind fun e=>if (!(e.whom == whom&&decide (e.word=n.target.word∧e.place=⟨zkq n.target.host,n.target.port⟩)))=true then some e else none,rfl,SqL.of (g2.s _ _ hp),gg.gh,fun i y G4 H4 P hy g4 hP=>?_,fun p4 us G4 H4 g4 hp4 hG4 e4 hR4=>?_⟩
    ·obtain ⟨e,hpi,hE⟩:=Paired.at_ hR hy
     simp only [hpi,Option.bind_some] at hP
     have hE':=hE
     obtain ⟨ea,xA,pvv,jA,edx,rfl,y1,y2,y3,y4⟩:=hE
     have s4:=g2.s.trans g4.hh
     refine ⟨_,rfl,ea,_,edx,_,_,rfl,s4 _ _ y1,T.k_Entry,T.n_Entry_whom,QJ _ _ _ _ _,_,rfl,xA,wA,_,_,rfl,rfl,SqL.of (s4 _ _ y2),SqL.of (g4.hh _ _ (gg.s _ _ t5)),_,rfl,zR (fun h6=>?_) (fun h6=>?_)⟩
     ·have h7:¬ e.whom=whom:=by simpa using h6
      rw [if_pos (by simp [h7])] at hP
      exact ⟨_,rfl,hP _ G4 H4 (zJ.refl g4.gh) (Z7.mono (g2.gg.trans g4.gg) hE')⟩
     ·have h7:e.whom=whom:=by simpa using h6
      refine ⟨_,rfl,ea,_,edx,_,_,rfl,s4 _ _ y1,T.k_Entry,T.n_Entry_place,Y2 _ _ _ _ _,_,rfl,_,_,_,_,_,_,rfl,y3.mono s4,hpl.mono g4.s,_,rfl,?_⟩
      rw [hh] at hP
      refine zR (fun h8=>?_) (fun h8=>?_)
      ·rw [if_pos (by rw [h7,beq_self_eq_true,Bool.true_and];exact h8)] at hP
       exact ⟨_,rfl,hP _ G4 H4 (zJ.refl g4.gh) (Z7.mono (g2.gg.trans g4.gg) hE')⟩
      ·rw [if_neg (by rw [h7,beq_self_eq_true,Bool.true_and];exact h8)] at hP
       exact hP G4 H4 (zJ.refl g4.gh)
    ·rw [hll,Y7,Y3 (fun e:Sa39.Entry=>!(e.whom == whom&&decide (e.word=n.target.word∧e.place=⟨zkq n.target.host,n.target.port⟩)))] at hR4
     dsimp only
     have g14:=gg.trans g4
     have np4:H p4=none:=gg.hh.free hp4
     have hlf:=List.length_filter_le (fun e:Sa39.Entry=>!(e.whom == whom&&decide (e.word=n.target.word∧e.place=⟨zkq n.target.host,n.target.port⟩))) l
     have hul:=Paired.length hR4
     refine ⟨_,rfl,_,rfl,y,n,_,m,rfl,hX.mono g14.s,hm0.mono g14.s,fun H5 s5=>?_⟩
     walk_at "nm"
     have g15:=g14.trans (zJ.more g14.gh s5)
     have e5:=s5 _ _ e4
     refine ⟨_,rfl,_,_,rfl,rfl,_,rfl,zR (fun h7=>?_) (fun h7=>?_)⟩
     ·have hpos:¬ lasts m n=0:=by simp at h7;omega
      refine ⟨_,rfl,_,rfl,_,_,rfl,rfl,_,_,rfl,?_⟩
      walk_at "nm"
      have hmin:(if (4294967295:Int) < (now:Int) + (lasts m n:Int) then (4294967295:Int) else (now:Int) + (lasts m n:Int))=((min (now + lasts m n) 4294967295:Nat):Int):=by
       split <;> omega
      rw [hmin]
      refine ⟨_,rfl,.inl ⟨rfl,us,SqL.of e5⟩,_,rfl,_,rfl,_,rfl,_,rfl,a,_,dx,_,_,rfl,g15.s _ _ ho,T.k_Message,T.n_Message_call_id,yF _ _ _ _ _ _ _ _ _,_,rfl,G,_,line,_,_,r,m.cseq,rfl,g15.s,hmo,hm0.seq,fun H6 s6=>fun o edx no ndx ne=>⟨o,edx,_,_,_,_,_,rfl,za,fun H10 q1 he=>⟨rfl,?_⟩⟩⟩
      have s10:=zdd no ndx q1
      have g16:=g15.trans (zJ.more g15.gh s6)
      have e6:=s6 _ _ e5
      have nop:o≠p4:=by
       rintro rfl
       rw [no] at e6;cases e6
      refine ⟨p4,us,_,rfl,rfl,s10 _ _ e6,by rw [sizeLine_eq];omega,?_⟩
      have g17:=g16.trans (zJ.keep g16.gh s10 no he)
      have n4:upd G4 o (.ins c.Entry edx (Yt (.ref wA) pl (.int ((min (now + lasts m n) 4294967295:Nat):Int)) (.ref iA) (.int (m.cseq.1:Nat)))) p4=none:=by rw [zv nop.symm];exact hG4
      have sE:=zd (o:=.ins c.Entry edx (Yt (.ref wA) pl (.int ((min (now + lasts m n) 4294967295:Nat):Int)) (.ref iA) (.int (m.cseq.1:Nat)))) (g16.gh.free no)
      have eE:upd G4 o (.ins c.Entry edx (Yt (.ref wA) pl (.int ((min (now + lasts m n) 4294967295:Nat):Int)) (.ref iA) (.int (m.cseq.1:Nat)))) o=some (.ins c.Entry edx (Yt (.ref wA) pl (.int ((min (now + lasts m n) 4294967295:Nat):Int)) (.ref iA) (.int (m.cseq.1:Nat)))):=za
      generalize upd G4 o (.ins c.Entry edx (Yt (.ref wA) pl (.int ((min (now + lasts m n) 4294967295:Nat):Int)) (.ref iA) (.int (m.cseq.1:Nat))))=G5 at g17 n4 sE eE
      have g18:=(g17.turn (o:=.lst (us++[.ref o])) np4 n4).pub np4 n4 za
      have sF:=zd (o:=.lst (us++[.ref o])) n4
      refine ⟨_,_,_,_,_,_,rfl,g18,p4,_,rfl,za,?_⟩
      simp only [JT,if_neg hpos]
      refine L2.Paired.snoc (Paired.mapP hR4 fun v y h=>Z7.mono (sE.trans sF) h) ?_
      have sG:zC G G5:=g14.gg.trans sE
      refine ⟨o,wA,pl,iA,edx,rfl,sF _ _ eE,sF _ _ (sG _ _ t5),?_,sF _ _ (sG _ _ hid),?_,hwl⟩
      ·rw [hh]
       exact hpl.mono (g4.gg.trans (sE.trans sF))
      ·have:(2:Nat) ^ 32=4294967296:=by decide +kernel
       show min (now + lasts m n) 4294967295 < 2 ^ 32
       omega
     ·have hz:lasts m n=0:=by simp at h7;omega
      have g18:=g15.pub np4 hG4 e5
      refine ⟨_,_,_,_,_,_,rfl,g18,p4,_,rfl,za,?_⟩
      simp only [JT,if_pos hz,List.append_nil]
      exact Paired.mapP hR4 fun v y h=>Z7.mono (zd hG4) h
   ·rintro σ H' ⟨G',v',w5,w6,w7,w8,rfl,g,hl'⟩
    rw [Paired.length hR6,List.take_length] at hl'
    exact ⟨_,rfl,k v' G' H' g hl'⟩
end
section
variable {P:Program} {w:World} {K:PySem.W.Frag} {mg:Str→Option Value} {base:Heap} {c:Cl} {le ln:Addr} (T:Txt K mg c le ln) (Fs:YM K mg c)
theorem ZR.ctLen {c:Cl} {G:Hp} {v:V} {m:Msg} (h:ZR c G v m):m.contacts.length≤65536:=by
 have h1:=h.vals "contact"
 obtain ⟨b,f,hs,r,_,im,_⟩:=h
 have e:=congrArg List.length (Zh.mp im.contacts)
 rw [List.length_map,List.length_map] at e
 rw [← e]
 exact Nat.le_trans (zmx (valuesOf m.headers "contact")) h1
noncomputable def zrs (c:Cl) (G:Hp) (v:V) (st:String) (l:List Sa39.Entry):Prop:=∃a ev dx,v=.ref a∧G a=some (.ins c.Registration dx (Zc (.str (Str.ofString st)) ev))∧zL (Z7 c) G ev l
theorem zrs.mono {c:Cl} {G G':Hp} {v:V} {st:String} {l:List Sa39.Entry} (s:zC G G') (h:zrs c G v st l):zrs c G' v st l:=by
 obtain ⟨a,ev,dx,e,h1,h2⟩:=h;exact ⟨a,ev,dx,e,s _ _ h1,Z5 s h2⟩
noncomputable def zcG (name:B) (own:Sa39.Place) (m:Msg) (now:Nat) (es:List Sa39.Entry):String × List Sa39.Entry:=
 if zoV name own m es=true then ("400 Bad Request",es)
 else
  let l:=(QL m (m.to.target.word.getD []) now es).filter fun e=>decide (now < e.until_)
  if 256 < l.length then ("503 Service Unavailable",es) else ("200 OK",l)
noncomputable abbrev zer (c:Cl):Sp:=fun vs H Q _=>∃G hv mv v name own ev m es,∃now:Nat,vs=[hv,mv,.int now,v]∧zC G H∧zgG c H hv name own ev∧addressOf name=none∧ZR c G mv m∧zL (Z7 c) G v es∧now < 2 ^ 32∧es.length≤256∧∀v' G' H',zJ G H G' H'→zrs c G' v' (zcG name own m now es).1 (zcG name own m now es).2→Q v' H'
include T Fs
theorem ze0:yG P w K mg base 7 "registration" ["house","request","now","entries"] (zer c):=by
 refine Fs.d_registration.ok J4 zfv (fun vs H Q E h=>?_) (fun f cdv A outer s H vs Q E hr h=>?_)
 ·obtain ⟨G,hv,mv,v,name,own,ev,m,es,now,rfl,_⟩:=h;rfl
 ·obtain ⟨G,hv,mv,v,name,own,ev,m,es,now,rfl,sg,hh,hn,hm,hes,hnow,hsz,k⟩:=h
  refine ⟨_,(zc (z4 (yi (zq (zm8 T Fs) (hr.mono (by decide)) rfl (zl (pv 0) (zl (pv 1) (zl (pv 3) zb))))) (zg (zm (YY (ZB T Fs) (hr.mono (by decide)) rfl (zl (zN T.c_BAD_REQUEST rfl) (zl (pv 3) zb))))) zF) (zc (zE (i:=4) J4.nd rfl (Or.inl rfl) (zq (YW T Fs) (hr.mono (by decide)) rfl (zl (zq (zcn T Fs) (hr.mono (by decide)) rfl (zl (pv 1) (zl (pv 2) (zl (pv 3) zb)))) (zl (pv 2) zb)))) (zc (z4 (zw zhs (yo (zx (K:=K)) rfl T.b_len PySem.boot_len (zl (pv 4) zb)) (zN T.c_MOST_ENTRIES rfl) (zz _)) (zg (zm (YY (ZB T Fs) (hr.mono (by decide)) rfl (zl (zN T.c_SERVICE_UNAVAILABLE rfl) (zl (pv 3) zb))))) zF) (zg (zm (YY (ZB T Fs) (hr.mono (by decide)) rfl (zl (zN T.c_OK rfl) (zl (pv 4) zb)))))))),fun hL=>?_⟩
  have hct:=hm.ctLen
  have fin:∀{st:String} {l:List Sa39.Entry} {lv:V} {G1 H1:Hp},zJ G H G1 H1→zL (Z7 c) G1 lv l→zcG name own m now es=(st,l)→∀o edx,H1 o=none→H1 edx=none→∀H10,(∀b u,upd (upd H1 edx (.own o)) o (.ins c.Registration edx []) b=some u→b≠o→H10 b=some u)→H10 o=some (.ins c.Registration edx (Zc (.str (Str.ofString st)) lv))→Q (.ref o) H10:=by
   intro st l lv G1 H1 g1 hl e o edx no ndx H10 q1 he
   have s10:=zdd no ndx q1
   have g2:=g1.trans (zJ.keep g1.gh s10 no he)
   rw [e] at k
   exact k _ _ H10 g2 ⟨o,lv,edx,rfl,za,Z5 (zd (g1.gh.free no)) hl⟩
  refine ⟨_,rfl,_,rfl,_,rfl,_,_,_,name,own,ev,m,es,rfl,hh,hn,hm.mono sg,Z5 sg hes,fun H1 s1=>⟨_,rfl,zR (fun h1=>?_) (fun h1=>?_)⟩⟩
  ·have g1:=zJ.more sg s1
   refine ⟨_,rfl,fun o edx no ndx ne=>⟨o,edx,_,_,rfl,za,fun H10 q1 he=>⟨rfl,fin g1 hes ?_ o edx no ndx H10 q1 he⟩⟩⟩
   unfold zcG
   rw [if_pos h1]
  ·walk_at "nx"
   have g1:=zJ.more sg s1
   rw [Bool.not_eq_true] at h1
   have hb:=h1
   unfold zoV at h1
   rw [Bool.or_eq_false_iff,Bool.or_eq_false_iff,Bool.or_eq_false_iff] at h1
   obtain ⟨⟨b1,b2⟩,b3,b4⟩:=h1
   obtain ⟨whom,hw⟩:∃w,m.to.target.word=some w:=by
    cases e:m.to.target.word with
    | none=>rw [e] at b1;simp at b1
    | some w=>exact ⟨w,rfl⟩
   have hfit:zl2 m=true:=by simpa using b3
   refine ⟨_,rfl,_,rfl,_,rfl,G,_,v,m,es,whom,now,rfl,g1.gh,hm,hes,hnow,hw,hfit,(by omega),fun v2 G2 H2 g2 r2=>⟨_,rfl,G2,v2,_,now,rfl,g2.gh,r2,fun v3 G3 H3 g3 r3=>?_⟩⟩
   walk_at "nm"
   have g13:=g1.trans (g2.trans g3)
   have r3':=r3
   obtain ⟨pA,vs,rfl,hp,hR⟩:=r3'
   have hl:=Paired.length hR
   refine ⟨_,rfl,pA,vs,rfl,.inl (SqL.of (g13.gh _ _ hp)),_,_,rfl,rfl,_,rfl,zR (fun h2=>?_) (fun h2=>?_)⟩
   ·refine ⟨_,rfl,fun o edx no ndx ne=>⟨o,edx,_,_,rfl,za,fun H10 q1 he=>⟨rfl,fin g13 (Z5 (g2.gg.trans g3.gg) hes) ?_ o edx no ndx H10 q1 he⟩⟩⟩
    unfold zcG
    rw [if_neg (by rw [hb];simp),hw]
    dsimp only [Option.getD_some]
    rw [if_pos (by simp at h2;omega)]
   ·walk_at "nx"
    refine ⟨_,rfl,fun o edx no ndx ne=>⟨o,edx,_,_,rfl,za,fun H10 q1 he=>⟨rfl,fin g13 r3 ?_ o edx no ndx H10 q1 he⟩⟩⟩
    unfold zcG
    rw [if_neg (by rw [hb];simp),hw]
    dsimp only [Option.getD_some]
    rw [if_neg (by simp at h2;omega)]
end
section
variable {P:Program} {w:World} {K:PySem.W.Frag} {mg:Str→Option Value} {base:Heap} {c:Cl} {le ln:Addr} (T:Txt K mg c le ln) (Fs:YM K mg c)
noncomputable def SeO (c:Cl) (G:Hp) (v:V):Out→Prop
 | none=>zoX c G v [] 0 0
 | some (b,p)=>zoX c G v b p.host p.port
theorem SeO.mono {c:Cl} {G G':Hp} {v:V} {o:Out} (s:zC G G') (h:SeO c G v o):SeO c G' v o:=by
 cases o with
 | none=>exact zoX.mono s h
 | some x=>exact zoX.mono s h
noncomputable def zeC (meth:B):Bool:=meth == ascii "ACK"||meth == ascii "CANCEL"
noncomputable def ZF (st:String) (m:Msg) (x:Via) (src:Nat) (name:B) (cls:List B) (meth:B):Out:=
 if zeC meth=true then none else some (zV (Y4 st m x src name cls),⟨src,x.port⟩)
noncomputable abbrev zkQ (c:Cl):Sp:=fun vs H Q _=>∃G hv mv name own ev m x xr,∃src:Nat,∃(st:String) (clA:Addr) (cls:List B) (meth:B) (t:Target) (txt:B),vs=[hv,mv,.int src,.str (Str.ofString st),.ref clA]∧zC G H∧zgG c H hv name own ev∧ZR c G mv m∧m.first=.request meth t txt∧m.vias=x::xr∧(ascii st).length≤100∧Zw H clA cls∧(zV cls).length≤300000∧cls.length≤1000∧
 ∀v G' H',zJ G H G' H'→SeO c G' v (ZF st m x src name cls meth)→Q v H'
theorem zoy {c:Cl} {G H G1 H1:Hp} {rA:Addr} {row:B} {host port:Nat} {Q:VK} (g1:zJ G H G1 H1) (hr:zD G1 rA row) (k:∀v G' H',zJ G H G' H'→zoX c G' v row host port→Q v H'):
  ∀o edx,H1 o=none→H1 edx=none→∀H10,(∀b u,upd (upd H1 edx (.own o)) o (.ins c.Sending edx []) b=some u→b≠o→H10 b=some u)→H10 o=some (.ins c.Sending edx (Z4 (.ref rA) (.int (host:Nat)) (.int (port:Nat))))→Q (.ref o) H10:=by
 intro o edx no ndx H10 q1 he
 have s10:=zdd no ndx q1
 exact k _ _ H10 (g1.trans (zJ.keep g1.gh s10 no he)) ⟨o,rA,edx,rfl,za,(zd (g1.gh.free no)) _ _ hr⟩
include T Fs
theorem zch:yG P w K mg base 6 "reply" ["house","request","source","status","contact_lines"] (zkQ c):=by
 refine Fs.d_reply.ok zkR zoT (fun vs H Q E h=>?_) (fun f cdv A outer s H vs Q E hr h=>?_)
 ·obtain ⟨G,hv,mv,name,own,ev,m,x,xr,src,st,clA,cls,meth,t,txt,rfl,_⟩:=h;rfl
 ·obtain ⟨G,hv,mv,name,own,ev,m,x,xr,src,st,clA,cls,meth,t,txt,rfl,sg,hh,hm,hf,hx,hst,hcl,hclz,hcln,k⟩:=h
  refine ⟨_,(zc (z4 (Za (PW.pt (Z9 (zw (yd (K:=K) hr.units) (zj (K:=K) (zj (K:=K) (pv 1) rfl) rfl) (zq (zQ T Fs) (hr.mono (by decide)) rfl (zl yt zb)) (zz _)) (Zm (zw (yd (K:=K) hr.units) (zj (K:=K) (zj (K:=K) (pv 1) rfl) rfl) (zq (zQ T Fs) (hr.mono (by decide)) rfl (zl yt zb)) (zz _)))))) (zg (zm (zm0 (JB T Fs) (hr.mono (by decide)) rfl))) zF) (zc (zE (i:=5) zkR.nd rfl (Or.inl rfl) (zq (ziY T Fs) (hr.mono (by decide)) rfl (zl (pv 0) (zl (pv 1) (zl (pv 2) (zl (pv 3) (zl (pv 4) zb))))))) (zg (zm (YY (Zp T Fs) (hr.mono (by decide)) rfl (zl (pv 5) (zl (pv 2) (zl (zj (K:=K) (zj (K:=K) (yE (zI (K:=K)) (zj (K:=K) (pv 1) rfl) zu (fun _ _=>rfl)) rfl) rfl) zb)))))))),fun hL=>?_⟩
  have hm0:=hm
  obtain ⟨a,dx,fv,xv,bv,v3,v4,v5,v6,v7,v8,rfl,ho,mf⟩:=hm.opened
  have hfi:=mf.fi
  rw [hf] at hfi
  obtain ⟨f1,lA,mA,tv,dx',rfl,h1,h2,h3,h4,h5,h6⟩:=hfi
  refine ⟨fun r H2=>zC H H2∧r=zeC meth,?_,fun r H2 ⟨s2,hr2⟩=>?_⟩
  ·refine ⟨_,rfl,a,_,dx,_,_,rfl,sg _ _ ho,T.k_Message,T.n_Message_first,ye _ _ _ _ _ _ _ _ _,f1,_,dx',_,_,rfl,sg _ _ h1,T.k_First,T.n_First_method,yC _ _ _,"ACK",rfl,(by decide +kernel),fun p1 H1 s1 hp1 e1=>⟨mA,p1,_,_,rfl,rfl,SqL.of (s1 _ _ (sg _ _ h3)),SqL.of e1,_,rfl,?_⟩⟩
   rw [zB]
   refine zR (fun w1=>⟨s1,?_⟩) (fun w1=>?_)
   ·have e:meth=ascii "ACK":=by simpa using w1
    unfold zeC
    rw [beq_iff_eq.mpr e];rfl
   ·have e:¬ meth=ascii "ACK":=by simpa using w1
    refine ⟨_,rfl,a,_,dx,_,_,rfl,s1 _ _ (sg _ _ ho),T.k_Message,T.n_Message_first,ye _ _ _ _ _ _ _ _ _,f1,_,dx',_,_,rfl,s1 _ _ (sg _ _ h1),T.k_First,T.n_First_method,yC _ _ _,"CANCEL",rfl,(by decide +kernel),fun p2 H2 s2 hp2 e2=>⟨mA,p2,_,_,rfl,rfl,SqL.of (s2 _ _ (s1 _ _ (sg _ _ h3))),SqL.of e2,_,rfl,s1.trans s2,?_⟩⟩
    rw [zB]
    unfold zeC
    rw [beq_eq_false_iff_ne.mpr e,Bool.false_or]
    by_cases h8:meth=ascii "CANCEL" <;> simp [h8]
  ·subst hr2
   have g2:=zJ.more sg s2
   refine zR (fun w1=>?_) (fun w1=>?_)
   ·refine ⟨G,rfl,g2.gh,fun v3 G3 H3 g3 r3=>k _ G3 H3 (g2.trans g3) ?_⟩
    unfold ZF
    rw [if_pos w1]
    exact r3
   ·walk_at "nx"
    refine ⟨_,rfl,_,rfl,_,rfl,_,rfl,_,rfl,hv,_,name,own,ev,m,x,xr,src,st,clA,cls,rfl,hh.mono s2,hm0.mono g2.gh,hx,hst,hcl.mono s2,hclz,hcln,fun p3 H3 s3 hp3 e3=>?_⟩
    walk_at "nm"
    obtain ⟨p3',vs3,rfl,hp3',hR3⟩:=mf.vi
    rw [hx] at hR3
    cases hR3 with
    | @cons z _ zr _ z0 zT=>
    obtain ⟨zA,ze,zp,bA,zdx,zh,rfl,y1,⟨o2,xA,dx3,rfl,y2,y2',y2''⟩,y3⟩:=z0
    have g3:=g2.trans (zJ.keep g2.gh s3 hp3 e3)
    refine ⟨_,rfl,_,rfl,_,rfl,a,_,dx,_,_,rfl,g3.s _ _ ho,T.k_Message,T.n_Message_vias,yg _ _ _ _ _ _ _ _ _,p3',_,_,_,rfl,rfl,SqL.of (g3.s _ _ hp3'),yk (j:=0) rfl,zA,_,zdx,_,_,rfl,g3.s _ _ y1,T.k_Via,T.n_Via_endpoint,ZH _ _ _,o2,_,dx3,_,_,rfl,g3.s _ _ y2,T.k_Endpoint,T.n_Endpoint_port,yV _ _ _,fun o edx no ndx ne=>⟨o,edx,_,_,_,rfl,za,fun H10 q1 he=>⟨rfl,zoy g3 za (fun v G' H' g r=>k v G' H' g ?_) o edx no ndx H10 q1 he⟩⟩⟩
    unfold ZF
    rw [if_neg w1]
    exact r
end
section
variable {P:Program} {w:World} {K:PySem.W.Frag} {mg:Str→Option Value} {base:Heap} {c:Cl} {le ln:Addr} (T:Txt K mg c le ln) (Fs:YM K mg c)
noncomputable def zdS (st:String) (m:Msg) (now:Nat) (l:List Sa39.Entry):List B:=
 if st="200 OK" then ((l.filter fun e=>e.whom == m.to.target.word.getD []).reverse).map (contactLine now) else []
noncomputable abbrev Jn (c:Cl):Sp:=fun vs H Q _=>∃G hv mv rv name own ev m x xr,∃src now:Nat,∃(st:String) (l:List Sa39.Entry) (meth:B) (t:Target) (txt:B),vs=[hv,mv,.int src,.int now,rv]∧zC G H∧zgG c H hv name own ev∧ZR c G mv m∧m.first=.request meth t txt∧m.vias=x::xr∧zrs c G rv st l∧st ∈ ["200 OK","400 Bad Request","503 Service Unavailable"]∧l.length≤256∧(∀e ∈ l,now < e.until_)∧
 ∀v G' H',zJ G H G' H'→SeO c G' v (ZF st m x src name (zdS st m now l) meth)→Q v H'
theorem Z7.lineLen {c:Cl} {G:Hp} {v:V} {e:Sa39.Entry} {now:Nat} (h:Z7 c G v e):(contactLine now e).length≤300:=by
 obtain ⟨a,wA,pvv,iA,dx,rfl,h1,h2,h3,h4,h5,h6⟩:=h
 have hm:e.until_ - now < 2 ^ 64:=by
  have:(2:Nat) ^ 32=4294967296:=by decide +kernel
  rw [p64];omega
 have hl:=Z6 (e.until_ - now) hm
 have hx:(ascii ">;expires=").length=10:=by decide +kernel
 have hc:(ascii "Contact: <").length=10:=by decide +kernel
 have htt:=h3.len
 unfold contactLine
 simp only [List.length_append]
 omega
theorem zja:∀{ls:List B},(∀l ∈ ls,l.length≤300)→(zV ls).length≤302 * ls.length
 | [],_=>by simp [yN]
 | x::t,h=>by
  have h1:=zja (ls:=t) fun l hl=>h l (List.mem_cons_of_mem _ hl)
  have h2:=h x List.mem_cons_self
  rw [zH]
  simp only [List.length_append,List.length_cons,List.length_nil]
  omega
include T Fs
theorem JA:yG P w K mg base 7 "registration_sending" ["house","request","source","now","result"] (Jn c):=by
 refine Fs.d_registration_sending.ok yh JN (fun vs H Q E h=>?_) (fun f cdv A outer s H vs Q E hr h=>?_)
 ·obtain ⟨G,hv,mv,rv,name,own,ev,m,x,xr,src,now,st,l,meth,t,txt,rfl,_⟩:=h;rfl
 ·obtain ⟨G,hv,mv,rrv,name,own,ev,m,x,xr,src,now,st,l,meth,t,txt,rfl,sg,hh,hm,hf,hx,⟨ra,rev,rdx,rfl,r1,r2⟩,hst,hl,hun,k⟩:=h
  refine ⟨_,(zc (zE (i:=5) yh.nd rfl (Or.inl rfl) (zO zb)) (zc (z4 (zw Z0 (zj (K:=K) (pv 4) rfl) (zN T.c_OK rfl) (zz _)) (zc (zE (i:=6) yh.nd rfl (Or.inl rfl) (zq (JD T Fs) (hr.mono (by decide)) rfl (zl (zj (K:=K) (pv 4) rfl) (zl (zj (K:=K) (zj (K:=K) (zj (K:=K) (pv 1) rfl) rfl) rfl) zb)))) (zg (Jx (i:=5) (hc:=rfl) (hN:=yh.nd) (hy:=rfl) (hyl:=rfl) (hsw:=zbc rfl rfl rfl (by decide +kernel)) (zK (K:=K) (yX (zq (JC T Fs) (hr.mono (by decide)) rfl (zl (pv 6) zb)))) (z3 (own:=[("entry",7)]) (by exact rfl)) (fun _ _ _ _ _=>zX (i:=7) yh.nd rfl (Or.inl rfl)) (fun _ _ _ _ _=>yK) (fun _ _ _ _ _=>(zq (ze7 T Fs) (hr.mono (by decide)) rfl (zl (pv 7) (zl (pv 3) zb))))))) zF) (zg (zm (zq (zch T Fs) (hr.mono (by decide)) rfl (zl (pv 0) (zl (pv 1) (zl (pv 2) (zl (zj (K:=K) (pv 4) rfl) (zl (pv 5) zb)))))))))),fun hL=>?_⟩
  have hm0:=hm
  obtain ⟨a,dx,fv,xv,bv,v3,v4,v5,v6,v7,v8,rfl,ho,mf⟩:=hm.opened
  obtain ⟨b,tv,pvv,dx',txt',rfl,q1,q2,q3⟩:=mf.to
  obtain ⟨o,rA,wA,dx2,ev2,hb,rfl,t3,t4,t5,t6,t8⟩:=q2
  have hst2:(ascii st).length≤100:=by
   have:∀s ∈ ["200 OK","400 Bad Request","503 Service Unavailable"],(ascii s).length≤100:=by decide +kernel
   exact this st hst
  have hst3:(Str.ofString st=Str.ofString "200 OK")↔st="200 OK":=by
   have:∀s ∈ ["200 OK","400 Bad Request","503 Service Unavailable"],((Str.ofString s=Str.ofString "200 OK")↔s="200 OK"):=by decide +kernel
   exact this st hst
  refine ⟨Nat.zero_le _,fun p1 hp1=>?_⟩
  walk_at "nm"
  have g1:=zJ.more sg (zd (o:=.lst []) hp1)
  have e1:(upd H p1 (.lst [])) p1=some (.lst []):=za
  generalize upd H p1 (.lst [])=H1 at g1 e1 ⊢
  refine ⟨_,rfl,ra,_,rdx,_,_,rfl,g1.s _ _ r1,T.k_Registration,T.n_Registration_status,Zq _ _,rfl,_,rfl,zR (fun w1=>?_) (fun w1=>?_)⟩
  ·have e:st="200 OK":=hst3.mp (by simpa using w1)
   refine ⟨_,rfl,ra,_,rdx,_,_,rfl,g1.s _ _ r1,T.k_Registration,T.n_Registration_entries,Yc _ _,_,rfl,a,_,dx,_,_,rfl,g1.s _ _ ho,T.k_Message,T.n_Message_receiver,yP _ _ _ _ _ _ _ _ _,b,_,dx',_,_,rfl,g1.s _ _ q1,T.k_Party,T.n_Party_target,yB _ _,o,_,dx2,_,_,rfl,g1.s _ _ t3,T.k_Target,T.n_Target_word,yZ _ _ _,G,rev,l,wA,_,rfl,g1.gh,r2,g1.s _ _ t5,fun v2 G2 H2 g2 r2'=>?_⟩
   walk_at "nm"
   have g12:=g1.trans g2
   refine zfH ?_
   have hle:=List.length_filter_le (fun e:Sa39.Entry=>e.whom == m.to.target.word.getD []) l
   have hu2:∀e ∈ (l.filter fun e=>e.whom == m.to.target.word.getD []).reverse,now < e.until_:=fun e he=>hun e (List.mem_filter.mp (List.mem_reverse.mp he)).1
   have hcls:zdS st m now l=((l.filter fun e=>e.whom == m.to.target.word.getD []).reverse).map (contactLine now):=by unfold zdS;rw [if_pos e]
   rw [hcls] at k
   generalize (l.filter fun e=>e.whom == m.to.target.word.getD [])=l2 at r2' hle hu2 k
   refine Qn zpm (fun _ _ _ _=>zpm.mono) (fun v H3=>∃G3,zJ G2 H2 G3 H3∧zL (Z7 c) G3 v l2.reverse) ⟨_,rfl,G2,v2,l2,rfl,g2.gh,r2',fun v3 G3 H3 g3 r3=>⟨G3,g3,r3⟩⟩ ?_
   rintro v3 H3 ⟨G3,g3,pA,vs,rfl,hp,hR⟩
   have hll:=Paired.length hR
   have g13:=g12.trans g3
   refine ⟨pA,vs,G3,fun i=>(l2.reverse[i]?).map (contactLine now),rfl,SqL.of (g3.gh _ _ hp),g3.gh,fun i y G4 H4 P hy g4 hP=>?_,fun p4 us G4 H4 g4 hp4 hG4 e4 hR4=>?_⟩
   ·obtain ⟨en,hpi,hE⟩:=Paired.at_ hR hy
    simp only [hpi,Option.map_some] at hP
    have hE4:=hE.mono g4.s
    refine zdL (B:=P none H4) ⟨_,rfl,_,rfl,y,en,now,rfl,hE4,Nat.le_of_lt (hu2 en (List.mem_of_getElem? hpi)),fun q H5 s5 hq e5=>?_⟩
    refine hP _ (upd G4 q (.lst (rv (contactLine now en)))) H5 (zJ.keep g4.gh s5 hq e5) ⟨q,rfl,za,?_⟩
    have:=hE4.lineLen (now:=now)
    omega
   ·rw [hll,ZY] at hR4
    dsimp only
    have g14:=g13.trans g4
    obtain ⟨ps,eps,hps⟩:=zc2 (p4:=p4) (H:=H4) (fun b o h=>g4.gh _ _ h) hR4
    rw [eps] at e4
    have hlen:(l2.reverse.map (contactLine now)).length≤256:=by rw [List.length_map,List.length_reverse];omega
    have hbig:∀y ∈ l2.reverse.map (contactLine now),y.length≤300:=by
     intro y hy
     obtain ⟨en,hen,rfl⟩:=List.mem_map.mp hy
     obtain ⟨v,_,hE⟩:=L2.Paired.mem_right hR hen
     exact hE.lineLen
    have hlb:=zja hbig
    refine ⟨_,rfl,_,rfl,_,rfl,_,rfl,ra,_,rdx,_,_,rfl,g14.s _ _ r1,T.k_Registration,T.n_Registration_status,Zq _ _,_,rfl,G,hv,_,name,own,ev,m,x,xr,src,st,p4,_,meth,t,txt,rfl,g14.s,hh.mono g14.hh,hm0,hf,hx,hst2,⟨ps,e4,hps⟩,(by omega),(by omega),fun v5 G5 H5 g5 r5=>k v5 G5 H5 ((zJ.more sg g14.hh).trans g5) r5⟩
  ·walk_at "nx"
   have e:¬ st="200 OK":=fun e=>w1 (by simpa using hst3.mpr e)
   have hcls:zdS st m now l=[]:=by unfold zdS;rw [if_neg e]
   rw [hcls] at k
   refine ⟨_,rfl,_,rfl,_,rfl,_,rfl,ra,_,rdx,_,_,rfl,g1.s _ _ r1,T.k_Registration,T.n_Registration_status,Zq _ _,_,rfl,G,hv,_,name,own,ev,m,x,xr,src,st,p1,[],meth,t,txt,rfl,g1.gh,hh.mono g1.hh,hm0,hf,hx,hst2,⟨[],e1,.nil⟩,by simp [yN],by simp,fun v5 G5 H5 g5 r5=>k v5 G5 H5 (g1.trans g5) r5⟩
end
section
variable {P:Program} {w:World} {K:PySem.W.Frag} {mg:Str→Option Value} {base:Heap} {c:Cl} {le ln:Addr} (T:Txt K mg c le ln) (Fs:YM K mg c)
noncomputable def Ze (n:Nat):B→List Header→List B
 | _,[]=>[]
 | r,h::t=>if h.name=ascii "max-forwards" then (ascii "Max-Forwards: "++decimal (n - 1))::Ze n r t
   else if h.name=ascii "via"∧r≠[] then (trimmed h.line++r)::Ze n [] t
   else h.line::Ze n r t
theorem ZR.hdLines {c:Cl} {G:Hp} {v:V} {m:Msg} (h:ZR c G v m):(zV (m.headers.map fun h=>h.line)).length≤16384:=by
 obtain ⟨b,f,hs,r,_,im,h1,h2,h3⟩:=h
 have e:=Zh.mp im.headers
 have:∀{hs:List B} {l:List Header},hs.map headerOf=l.map some→(l.map fun h=>h.line)=hs:=by
  intro hs
  induction hs with
  | nil=>intro l e;cases l with
   | nil=>rfl
   | cons _ _=>cases e
  | cons a t ih=>intro l e;cases l with
   | nil=>cases e
   | cons x y=>
    rw [List.map_cons,List.map_cons] at e
    rw [List.map_cons,(zdN (List.cons.inj e).1).2,ih (List.cons.inj e).2]
 rw [this e]
 rw [zH] at h2
 simp only [List.length_append] at h2
 omega
theorem zgE:∀(ls:List B),2 * ls.length≤(zV ls).length
 | []=>by simp
 | x::t=>by
  have:=zgE t
  rw [zH]
  simp only [List.length_append,List.length_cons,List.length_nil]
  omega
theorem ZR.hdLen {c:Cl} {G:Hp} {v:V} {m:Msg} (h:ZR c G v m):m.headers.length≤8192:=by
 have h1:=h.hdLines
 have h2:=zgE (m.headers.map fun h=>h.line)
 rw [List.length_map] at h2
 omega
theorem Jy (n:Nat) (hn:n≤999):∀(t:List Header) (r:B),r.length≤93→(zV (Ze n r t)).length≤(zV (t.map fun h=>h.line)).length + 93 * t.length
 | [],_,_=>by simp [Ze,yN]
 | h::t,r,hr=>by
  have hd:=Z6 (n - 1) (by rw [p64];omega)
  have hc:(ascii "Max-Forwards: ").length=14:=by decide +kernel
  have ht:=zbb h.line
  unfold Ze
  rw [List.map_cons,zH]
  split
  ·have ih:=Jy n hn t r hr
   rw [zH]
   simp only [List.length_append,List.length_cons,List.length_nil]
   omega
  ·split
   ·have ih:=Jy n hn t [] (by simp)
    rw [zH]
    simp only [List.length_append,List.length_cons,List.length_nil]
    omega
   ·have ih:=Jy n hn t r hr
    rw [zH]
    simp only [List.length_append,List.length_cons,List.length_nil]
    omega
noncomputable abbrev JR (c:Cl):Sp:=fun vs H Q _=>∃mv m x xr,∃src:Nat,vs=[mv,.int src]∧ZR c H mv m∧m.vias=x::xr∧zG (zZ m.headers "max-forwards") 3=true∧1≤natOf (zZ m.headers "max-forwards")∧natOf (zZ m.headers "max-forwards")≤999∧
 ∀p H',zC H H'→H p=none→Zw H' p (Ze (natOf (zZ m.headers "max-forwards")) (zeW x src) m.headers)→Q (.ref p) H'
include T Fs
theorem JS:yG P w K mg base 4 "onward_header_lines" ["request","source"] (JR c):=by
 refine Fs.d_onward_header_lines.ok ym JU (fun vs H Q E h=>?_) (fun f cdv A outer s H vs Q E hr h=>?_)
 ·obtain ⟨mv,m,x,xr,src,rfl,_⟩:=h;rfl
 ·obtain ⟨mv,m,x,xr,src,rfl,hm,hx,hdg,hn1,hn2,k⟩:=h
  refine ⟨_,(zc (zE (i:=2) ym.nd rfl (Or.inl rfl) (zq (zax T Fs) (hr.mono (by decide)) rfl (zl (yE (zI (K:=K)) (zj (K:=K) (pv 0) rfl) zu (fun _ _=>rfl)) (zl (pv 1) zb)))) (zc (zE (i:=3) ym.nd rfl (Or.inl rfl) (zO zb)) (zc (JP PassesOwn.never rfl (zK (K:=K) (zj (K:=K) (pv 0) rfl)) (zX (i:=4) ym.nd rfl (Or.inl rfl)) (zg (z4 (zw Z0 (zj (K:=K) (pv 4) rfl) (zN T.c_MAX_FORWARDS rfl) (zz _)) (zg (yx (Zb PySem.F.plainAttrs_list PySem.F.slot_list_append PySem.F.type_list_append yu (pv 3) (zl (zq (zQ T Fs) (hr.mono (by decide)) rfl (zl (zU Yq yt (zlH YL rfl T.b_str zjL (zl (zU zdD (zq (zgy T Fs) (hr.mono (by decide)) rfl (zl (pv 0) zb)) zu) zb))) zb)) zb)))) (zg (z4 (Za (PW.pt (za2 (zw Z0 (zj (K:=K) (pv 4) rfl) (zN T.c_VIA rfl) (zz _)) (Q1 (zw (Qr (K:=K) hr.units) (pv 2) (zO zb) (zz _)))))) (zc (yx (Zb PySem.F.plainAttrs_list PySem.F.slot_list_append PySem.F.type_list_append yu (pv 3) (zl (zU yq (zq (YH T Fs) (hr.mono (by decide)) rfl (zl (zj (K:=K) (pv 4) rfl) zb)) (pv 2)) zb))) (zg (zE (i:=2) ym.nd rfl (Or.inl rfl) (zO zb)))) (zg (yx (Zb PySem.F.plainAttrs_list PySem.F.slot_list_append PySem.F.type_list_append yu (pv 3) (zl (zj (K:=K) (pv 4) rfl) zb))))))))) (zg (zm (pv 3)))))),fun hL=>?_⟩
  have hm0:=hm
  have hhl:=hm.hdLen
  obtain ⟨a,dx,fv,xv,bv,v3,v4,v5,v6,v7,v8,rfl,ho,mf⟩:=hm.opened
  obtain ⟨line,r,hmo⟩:=hm0.raw
  obtain ⟨p3,vs3,rfl,hp3,hR3⟩:=mf.vi
  rw [hx] at hR3
  cases hR3 with
  | @cons z _ zr _ z0 zT=>
  obtain ⟨ph,vsh,rfl,hph,hRh⟩:=mf.hd
  have hrl:=zeg x src
  have hc:(ascii "Max-Forwards: ").length=14:=by decide +kernel
  generalize hn:natOf (zZ m.headers "max-forwards")=n at k hn1 hn2
  have hd:=Z6 (n - 1) (by rw [p64];omega)
  refine ⟨_,rfl,a,_,dx,_,_,rfl,ho,T.k_Message,T.n_Message_vias,yg _ _ _ _ _ _ _ _ _,p3,_,_,_,rfl,rfl,SqL.of hp3,yk (j:=0) rfl,_,rfl,z,x,src,rfl,z0,fun q H1 s1 hq e1=>?_⟩
  walk_at "nm"
  refine ⟨Nat.zero_le _,fun p hp=>?_⟩
  walk_at "nm"
  have l2:Lns H (upd H1 p (.lst [])) p []:=⟨s1.trans (zd hp),s1.free hp,[],za,.nil⟩
  have e2:=(zd (o:=.lst []) hp) _ _ e1
  generalize upd H1 p (.lst [])=H2 at l2 e2 ⊢
  refine ⟨_,rfl,a,_,dx,_,_,rfl,l2.s _ _ ho,T.k_Message,T.n_Message_headers,zW _ _ _ _ _ _ _ _ _,ph,_,rfl,SqL.of (l2.s _ _ hph),fun _=>Yy (K:=K) (a:=ph) (xs:=vsh) (fun i σ H'=>∃q b w ls,σ=[some (.ref a),some (.int src),some (.ref q),some (.ref p),w]∧Lns H H' p ls∧q≠p∧zD H' q b∧b.length≤93∧ls.length≤i∧Ze n (zeW x src) m.headers=ls++Ze n b (m.headers.drop i)) ⟨q,_,none,[],rfl,l2,?_,e2,hrl,Nat.le_refl _,rfl⟩ (fun i σ H' _ ⟨_,_,_,_,_,l,_⟩=>SqL.of (l.s _ _ hph)) ?_ ?_⟩
  ·rintro rfl;rw [e1] at hp;cases hp
  ·rintro i y σ H' hi ⟨q,b,w,ls,rfl,l,hqp,hqb,hbl,hlen,heq⟩
   obtain ⟨h,hh,hH⟩:=Paired.at_ hRh hi
   have hi2:=(List.getElem?_eq_some_iff.mp hh).1
   rw [Jg hh] at heq
   obtain ⟨ha,nn,lv,vv,hdx,rfl,j1,⟨lA,rfl,j2,j2l,_⟩,j3,j4⟩:=hH
   have hk1:=zaF (n:=nn) (k:=("max-forwards","max-forwards")) (by decide +kernel)
   have hk2:=zaF (n:=nn) (k:=("via","v")) (by decide +kernel)
   rw [← j4] at hk1 hk2
   walk_at "nm"
   refine ⟨_,rfl,ha,_,hdx,_,_,rfl,l.s _ _ j1,T.k_Header,T.n_Header_kind,Y1 _ _ _,rfl,_,rfl,zR (fun w1=>?_) (fun w1=>?_)⟩
   ·have e:h.name=ascii "max-forwards":=hk1.mp (by simpa using w1)
    rw [Ze,if_pos e] at heq
    have hi':((n:Int) - (1:Int))=((n - 1:Nat):Int):=by omega
    have ht:tl (Str.ofString "Max-Forwards: "++Str.ofString (toString ((n - 1:Nat):Int)))=ascii "Max-Forwards: "++decimal (n - 1):=by rw [TL.tl_append,JX,zB]
    have ht2:(Str.ofString "Max-Forwards: "++Str.ofString (toString ((n - 1:Nat):Int))).cps.size=(ascii "Max-Forwards: "++decimal (n - 1)).length:=by rw [← ht,Array.length_toList]
    refine ⟨_,rfl,l.ty,_,rfl,H,_,line,_,_,r,rfl,l.s,hmo,hdg,fun H3 s3=>⟨_,_,rfl,rfl,?_⟩⟩
    rw [hn]
    refine ⟨((n - 1:Nat):Int),congrArg (fun i=>[V.int i]) hi',zaC (by rw [p64];omega),_,_,rfl,rfl,?_,_,rfl,?_,fun q4 H4 s4 hq4 e4=>?_⟩
    ·rw [QC,QC,JX,zB,sizeLine_eq];omega
    ·rw [ht2,List.length_append];omega
    rw [ht] at e4
    have l4:=l.go (s3.trans s4)
    obtain ⟨ys,y1,y3,l5⟩:=l4.app e4 ((l.go s3).ne hq4) (by omega)
    refine ⟨p,ys,_,rfl,rfl,y1,y3,?_⟩
    have hqb5:zD (upd H4 p (.lst (ys++[.ref q4]))) q b:=(zv hqp).trans (s4 _ _ (s3 _ _ hqb))
    generalize upd H4 p (.lst (ys++[.ref q4]))=H5 at l5 hqb5 ⊢
    refine ⟨q,b,_,_,rfl,l5,hqp,hqb5,hbl,by rw [List.length_append,List.length_cons,List.length_nil];omega,?_⟩
    rw [heq];simp
   ·have e:¬ h.name=ascii "max-forwards":=fun e=>w1 (by simpa using hk1.mpr e)
    rw [Ze,if_neg e] at heq
    refine ⟨fun t H6=>zC H' H6∧(t=true↔(h.name=ascii "via"∧b≠[])),?_,fun t H6 ⟨s6,ht⟩=>?_⟩
    ·refine ⟨_,rfl,ha,_,hdx,_,_,rfl,l.s _ _ j1,T.k_Header,T.n_Header_kind,Y1 _ _ _,rfl,_,rfl,zR (fun w2=>?_) (fun w2=>?_)⟩
     ·have e2:h.name=ascii "via":=hk2.mp (by simpa using w2)
      refine ⟨_,rfl,Nat.zero_le _,fun q5 hq5=>⟨q,q5,_,_,rfl,rfl,SqL.of ((zd hq5) _ _ hqb),zgA,_,rfl,zd hq5,?_⟩⟩
      simp [e2]
     ·have e2:¬ h.name=ascii "via":=fun e=>w2 (by simpa using hk2.mpr e)
      exact ⟨zC.refl _,by simp [e2]⟩
    ·have l6:=l.go s6
     refine zR (fun w2=>?_) (fun w2=>?_)
     ·have hb:=ht.mp w2
      rw [if_pos hb] at heq
      have htl:=zbb h.line
      refine ⟨_,rfl,l6.ty,_,rfl,ha,_,hdx,_,_,rfl,l6.s _ _ j1,T.k_Header,T.n_Header_line,JH _ _ _,lA,_,rfl,l6.s _ _ j2,fun q7 H7 s7 hq7 e7=>⟨_,rfl,q7,q,_,_,rfl,rfl,e7,s7 _ _ (s6 _ _ hqb),?_,fun q8 hq8=>?_⟩⟩
      ·rw [zi,zi];exact sz (by omega)
      rw [yf]
      obtain ⟨ys,y1,y3,l8⟩:=(l6.go s7).appNew (x:=trimmed h.line++b) hq8 (by omega)
      refine ⟨p,ys,_,rfl,rfl,y1,y3,?_⟩
      generalize upd _ p (.lst (ys++[V.ref q8]))=H8 at l8 ⊢
      dsimp only
      refine ⟨Nat.zero_le _,fun q9 hq9=>?_⟩
      refine ⟨q9,[],_,_,rfl,l8.go (zd hq9),l8.ne hq9,za,by simp,by rw [List.length_append,List.length_cons,List.length_nil];omega,?_⟩
      rw [heq];simp
     ·have hb:¬ (h.name=ascii "via"∧b≠[]):=fun q=>w2 (ht.mpr q)
      rw [if_neg hb] at heq
      obtain ⟨ys,y1,y3,l8⟩:=l6.app (r:=lA) (l6.s _ _ j2) (zy j2 l.np) (by omega)
      refine ⟨_,rfl,l6.ty,_,rfl,ha,_,hdx,_,_,rfl,l6.s _ _ j1,T.k_Header,T.n_Header_line,JH _ _ _,p,ys,_,rfl,rfl,y1,y3,?_⟩
      have hqb5:zD (upd H6 p (.lst (ys++[.ref lA]))) q b:=(zv hqp).trans (s6 _ _ hqb)
      generalize upd H6 p (.lst (ys++[V.ref lA]))=H8 at l8 hqb5 ⊢
      refine ⟨q,b,_,_,rfl,l8,hqp,hqb5,hbl,by rw [List.length_append,List.length_cons,List.length_nil];omega,?_⟩
      rw [heq];simp
  ·rintro σ H' ⟨q,b,w,ls,rfl,l,_,_,_,_,heq⟩
   rw [Paired.length hRh,List.drop_length] at heq
   rw [show Ze n b []=[] from rfl,List.append_nil] at heq
   rw [heq] at k
   exact ⟨_,rfl,k p H' l.s l.np l.rows⟩
end
section
variable {P:Program} {w:World} {K:PySem.W.Frag} {mg:Str→Option Value} {base:Heap} {c:Cl} {le ln:Addr} (T:Txt K mg c le ln) (Fs:YM K mg c)
theorem ZR.bodyLen {c:Cl} {G:Hp} {v:V} {m:Msg} (h:ZR c G v m):m.body.length≤16384:=by
 obtain ⟨b,f,hs,r,_,im,h1,h2,h3⟩:=h
 rw [im.body];omega
theorem zlI {own:Sa39.Place} {x:Via} {m:Msg} (h:own.port≤65535):(Jb own x m).length≤300:=by
 unfold Jb
 have:=QN own.host
 have:=Z6 own.port (by rw [p64];omega)
 have:(ascii "Via: SIP/2.0/UDP ").length=17:=by decide +kernel
 have:(ascii ";branch=z9hG4bK").length=15:=by decide +kernel
 simp only [List.length_append,List.length_cons,QK]
 omega
noncomputable def Jz (own:Sa39.Place) (m:Msg) (x:Via) (src:Nat) (meth tgt:B):B:=
 zV ([meth++ascii " "++tgt++ascii " SIP/2.0",Jb own x m]++Ze (natOf (zZ m.headers "max-forwards")) (zeW x src) m.headers++[[]])++m.body
theorem zlS {b:B} (h:methodOk b=true):b.length≤16:=by
 unfold methodOk at h
 simp only [Bool.and_eq_true,decide_eq_true_eq] at h
 exact h.2.1
theorem zce (n:Nat):∀(t:List Header) (r:B),(Ze n r t).length=t.length
 | [],_=>rfl
 | h::t,r=>by
  unfold Ze
  split
  ·rw [List.length_cons,List.length_cons,zce n t r]
  ·split
   ·rw [List.length_cons,List.length_cons,zce n t []]
   ·rw [List.length_cons,List.length_cons,zce n t r]
noncomputable abbrev zgM (c:Cl):Sp:=fun vs H Q _=>∃hv mv name own ev m x xr,∃src:Nat,∃(tA:Addr) (tgt meth:B) (t:Target) (txt:B),vs=[hv,mv,.int src,.ref tA]∧zgG c H hv name own ev∧ZR c H mv m∧m.first=.request meth t txt∧m.vias=x::xr∧zD H tA tgt∧tgt.length≤100000∧zG (zZ m.headers "max-forwards") 3=true∧1≤natOf (zZ m.headers "max-forwards")∧natOf (zZ m.headers "max-forwards")≤999∧
 ∀p H',zC H H'→H p=none→zD H' p (Jz own m x src meth tgt)→Q (.ref p) H'
include T Fs
theorem zci:yG P w K mg base 5 "onward_row" ["house","request","source","target"] (zgM c):=by
 refine Fs.d_onward_row.ok zb1 zhP (fun vs H Q E h=>?_) (fun f cdv A outer s H vs Q E hr h=>?_)
 ·obtain ⟨hv,mv,name,own,ev,m,x,xr,src,tA,tgt,meth,t,txt,rfl,_⟩:=h;rfl
 ·obtain ⟨hv,mv,name,own,ev,m,x,xr,src,tA,tgt,meth,t,txt,rfl,hh,hm,hf,hx,hT,htl,hdg,hn1,hn2,k⟩:=h
  refine ⟨_,(zc (zE (i:=4) zb1.nd rfl (Or.inl rfl) (zO (zl (zU yq (zU yq (zU yq (zj (K:=K) (zj (K:=K) (pv 1) rfl) rfl) (zq (zQ T Fs) (hr.mono (by decide)) rfl (zl yt zb))) (pv 3)) (zq (zQ T Fs) (hr.mono (by decide)) rfl (zl yt zb))) (zl (zq (ze2 T Fs) (hr.mono (by decide)) rfl (zl (pv 0) (zl (pv 1) zb))) zb)))) (zc (yx (Zb PySem.F.plainAttrs_list PySem.F.slot_list_extend PySem.F.type_list_extend Jc (pv 4) (zl (zq (JS T Fs) (hr.mono (by decide)) rfl (zl (pv 1) (zl (pv 2) zb))) zb))) (zc (yx (Zb PySem.F.plainAttrs_list PySem.F.slot_list_append PySem.F.type_list_append yu (pv 4) (zl (zO zb) zb))) (zg (zm (zU yq (zq (zaz T Fs) (hr.mono (by decide)) rfl (zl (pv 4) zb)) (zj (K:=K) (pv 1) rfl))))))),fun hL=>?_⟩
  have hm0:=hm
  have hbl:=hm.bodyLen
  have hhl:=hm.hdLen
  have hhb:=hm.hdLines
  have hol:=Jy _ hn2 m.headers (zeW x src) (zeg x src)
  obtain ⟨a,dx,fv,xv,bv,v3,v4,v5,v6,v7,v8,rfl,ho,mf⟩:=hm.opened
  obtain ⟨bA,rfl,hB⟩:=mf.bd
  have hfi:=mf.fi
  rw [hf] at hfi
  obtain ⟨f1,lA,mA,tv,dx',rfl,h1,h2,h3,h4,h5,h6⟩:=hfi
  have hov:(Jb own x m).length≤300:=by
   obtain ⟨_,_,_,_,_,_,_,g4⟩:=hh
   exact zlI g4
  have hml:=zlS h5
  have c1:(ascii " ").length=1:=by decide +kernel
  have c2:(ascii " SIP/2.0").length=8:=by decide +kernel
  have hon:=zce (natOf (zZ m.headers "max-forwards")) m.headers (zeW x src)
  refine ⟨_,rfl,a,_,dx,_,_,rfl,ho,T.k_Message,T.n_Message_first,ye _ _ _ _ _ _ _ _ _,f1,_,dx',_,_,rfl,h1,T.k_First,T.n_First_method,yC _ _ _," ",rfl,(by decide +kernel),fun p1 H1 s1 hp1 e1=>⟨mA,p1,_,_,rfl,rfl,s1 _ _ h3,e1,?_,fun p2 hp2=>?_⟩⟩
  ·rw [zi,zi,zB];exact sz (by omega)
  rw [yf,zB]
  have s2:=s1.trans (zd (o:=.lst (rv (meth++ascii " "))) hp2)
  have e2:zD (upd H1 p2 (.lst (rv (meth++ascii " ")))) p2 (meth++ascii " "):=za
  generalize upd H1 p2 (.lst (rv (meth++ascii " ")))=H2 at s2 e2 ⊢
  refine ⟨_,rfl,p2,tA,_,_,rfl,rfl,e2,s2 _ _ hT,?_,fun p3 hp3=>?_⟩
  ·rw [zi,zi,List.length_append];exact sz (by omega)
  rw [yf]
  have s3:=s2.trans (zd (o:=.lst (rv (meth++ascii " "++tgt))) hp3)
  have e3:zD (upd H2 p3 (.lst (rv (meth++ascii " "++tgt)))) p3 (meth++ascii " "++tgt):=za
  generalize upd H2 p3 (.lst (rv (meth++ascii " "++tgt)))=H3 at s3 e3 ⊢
  refine ⟨" SIP/2.0",rfl,(by decide +kernel),fun p4 H4 s4 hp4 e4=>⟨p3,p4,_,_,rfl,rfl,s4 _ _ e3,e4,?_,fun p5 hp5=>?_⟩⟩
  ·rw [zi,zi,zB,List.length_append,List.length_append];exact sz (by omega)
  rw [yf,zB]
  have s5:=s3.trans (s4.trans (zd (o:=.lst (rv (meth++ascii " "++tgt++ascii " SIP/2.0"))) hp5))
  have e5:zD (upd H4 p5 (.lst (rv (meth++ascii " "++tgt++ascii " SIP/2.0")))) p5 (meth++ascii " "++tgt++ascii " SIP/2.0"):=za
  generalize upd H4 p5 (.lst (rv (meth++ascii " "++tgt++ascii " SIP/2.0")))=H5 at s5 e5 ⊢
  refine ⟨_,rfl,_,rfl,hv,_,name,own,ev,m,x,xr,rfl,hh.mono s5,hm0.mono s5,hx,fun p6 H6 s6 hp6 e6=>⟨by rw [sizeLine_eq];simp,fun p hp=>?_⟩⟩
  walk_at "nm"
  have l7:Lns H (upd H6 p (.lst [.ref p5,.ref p6])) p [meth++ascii " "++tgt++ascii " SIP/2.0",Jb own x m]:=⟨(s5.trans s6).trans (zd hp),(s5.trans s6).free hp,[p5,p6],za,.cons ((zd hp) _ _ (s6 _ _ e5)) (.cons ((zd hp) _ _ e6) .nil)⟩
  generalize upd H6 p (.lst [.ref p5,.ref p6])=H7 at l7 ⊢
  refine ⟨_,rfl,l7.ty,_,rfl,_,rfl,_,m,x,xr,src,rfl,hm0.mono l7.s,hx,hdg,hn1,hn2,fun p8 H8 s8 hp8 r8=>?_⟩
  obtain ⟨ys,zs,y1,y2,y3,l9⟩:=(l7.go s8).ext r8 (by simp) (by simp only [List.length_append,List.length_cons,List.length_nil];omega)
  refine ⟨p,p8,ys,zs,rfl,rfl,y1,y2,y3,?_⟩
  generalize upd H8 p (.lst (ys++zs))=H9 at l9 ⊢
  dsimp only
  refine ⟨_,rfl,l9.ty,Nat.zero_le _,fun p20 hp20=>?_⟩
  obtain ⟨ys,y1,y3,l21⟩:=l9.appNew (x:=[]) hp20 (by simp only [List.length_append,List.length_cons,List.length_nil];omega)
  refine ⟨p,ys,_,rfl,rfl,y1,y3,?_⟩
  have e20:(rv []:List V)=[]:=rfl
  rw [e20] at l21
  generalize upd _ p (.lst (ys++[V.ref p20]))=H21 at l21 ⊢
  dsimp only
  have hfin:(zV ([meth++ascii " "++tgt++ascii " SIP/2.0",Jb own x m]++Ze (natOf (zZ m.headers "max-forwards")) (zeW x src) m.headers++[[]])).length≤950000:=by
   rw [show [meth++ascii " "++tgt++ascii " SIP/2.0",Jb own x m]=[meth++ascii " "++tgt++ascii " SIP/2.0"]++[Jb own x m] from rfl]
   simp only [zdi,List.length_append,zdh,List.length_nil]
   omega
  refine ⟨_,rfl,p,_,rfl,l21.rows,(by omega),fun p22 H22 s22 hp22 e22=>⟨_,rfl,a,_,dx,_,_,rfl,s22 _ _ (l21.s _ _ ho),T.k_Message,T.n_Message_body,Q4 _ _ _ _ _ _ _ _ _,p22,bA,_,_,rfl,rfl,e22,s22 _ _ (l21.s _ _ hB),?_,fun p23 hp23=>?_⟩⟩
  ·rw [zi,zi];exact sz (by omega)
  rw [yf]
  exact k p23 _ ((l21.s.trans s22).trans (zd hp23)) ((l21.s.trans s22).free hp23) za
end
section
variable {P:Program} {w:World} {K:PySem.W.Frag} {mg:Str→Option Value} {base:Heap} {c:Cl} {le ln:Addr} (T:Txt K mg c le ln) (Fs:YM K mg c)
noncomputable def zsE (_:Hp) (v:V) (h:Header):Prop:=∃n,v=.str (Str.ofString (zct n))∧h.name=YZ n
noncomputable def zsD (G:Hp) (v:V) (h:Header):Prop:=zfL G v h.line
noncomputable def zhH (h:Header):Bool:=h.name == ascii "via"
theorem zgo:∀(l:List Header),l.any zhH=true→∃j h,l[j]?=some h∧zhH h=true∧(∀i x,i < j→l[i]?=some x→zhH x=false)∧Sa39.without l=l.eraseIdx j
 | [],h=>by cases h
 | x::t,h=>by
  by_cases e:zhH x=true
  ·refine ⟨0,x,rfl,e,fun i x hi=>absurd hi (Nat.not_lt_zero _),?_⟩
   unfold Sa39.without
   rw [if_pos (by simpa [zhH] using e)]
   rfl
  ·rw [List.any_cons,Bool.or_eq_true] at h
   obtain ⟨j,y,h1,h2,h3,h4⟩:=zgo t (h.resolve_left e)
   refine ⟨j + 1,y,h1,h2,fun i z hi hz=>?_,?_⟩
   ·cases i with
    | zero=>rw [List.getElem?_cons_zero] at hz;cases hz;simpa using e
    | succ i=>exact h3 i z (Nat.lt_of_succ_lt_succ hi) hz
   ·unfold Sa39.without
    rw [if_neg (by simpa [zhH] using e),h4]
    rfl
theorem ZR.hasVia {c:Cl} {G:Hp} {v:V} {m:Msg} (h:ZR c G v m):m.headers.any zhH=true:=by
 have h1:=h.viaVals
 obtain ⟨b,f,hs,r,_,im,_⟩:=h
 have h2:=im.novia
 cases e:m.headers.any zhH with
 | true=>rfl
 | false=>
  rw [List.any_eq_false] at e
  have:valuesOf m.headers "via"=[]:=by
   unfold valuesOf
   rw [List.map_eq_nil_iff,List.filter_eq_nil_iff]
   exact e
  rw [this] at h1
  cases hm:m.vias with
  | nil=>exact absurd hm h2
  | cons _ _=>rw [hm] at h1;cases h1
theorem Paired.erase {α β:Type} {F:α→β→Prop}:∀{l:List α} {m:List β} (j:Nat),Paired F l m→Paired F (l.eraseIdx j) (m.eraseIdx j)
 | _,_,_,.nil=>.nil
 | _,_,0,.cons _ t=>t
 | _,_,j + 1,.cons r t=>.cons r (Paired.erase j t)
noncomputable def zbO (m:Msg):B:=zV ([m.line]++((Sa39.without m.headers).map fun h=>h.line)++[[]])++m.body
theorem zmR {H:Hp} {r:Addr} {xs ys:List V} {ps qs:List Addr} {ls ms:List B} (hr:H r=none) (e1:xs=ps.map V.ref) (e2:ys=qs.map V.ref) (h1:Paired (fun q x=>zD H q x) ps ls) (h2:Paired (fun q x=>zD H q x) qs ms):
  Zw (upd H r (.lst (xs++ys))) r (ls++ms):=by
 refine ⟨ps++qs,?_,Paired.app (Paired.mapP h1 fun q x h=>(zd hr) _ _ h) (Paired.mapP h2 fun q x h=>(zd hr) _ _ h)⟩
 rw [za,e1,e2,List.map_append]
theorem Paired.at2 {α β:Type} {F:α→β→Prop}:∀{l:List α} {m:List β} {i:Nat} {y:β},Paired F l m→m[i]?=some y→∃x,l[i]?=some x∧F x y
 | _,_,0,_,.cons r _,h=>by cases h;exact ⟨_,rfl,r⟩
 | _,_,i + 1,_,.cons _ t,h=>Paired.at2 (i:=i) t h
theorem zgD {G:Hp}:∀{vs:List V} {us:List Header},Paired (zsD G) vs us→∃ps:List Addr,vs=ps.map V.ref∧Paired (fun q x=>zD G q x) ps (us.map fun h=>h.line)
 | _,_,.nil=>⟨[],rfl,.nil⟩
 | _,_,.cons ⟨a,e,h,_⟩ t=>by
  obtain ⟨ps,e2,h2⟩:=zgD t
  exact ⟨a::ps,by rw [e,e2];rfl,.cons h h2⟩
theorem zrV {j n:Nat} (h:j < n):seqIndex? (j:Int) n=some j:=by
 unfold seqIndex?
 have h1:¬ ((j:Int) < 0):=by omega
 simp only [if_neg h1]
 rw [if_pos (by simp;exact h)]
 simp
theorem zek:∀l:List Header,(zV ((Sa39.without l).map fun h=>h.line)).length≤(zV (l.map fun h=>h.line)).length
 | []=>Nat.le_refl _
 | x::t=>by
  have ih:=zek t
  unfold Sa39.without
  rw [List.map_cons,zH]
  split
  ·simp only [List.length_append];omega
  ·rw [List.map_cons,zH]
   simp only [List.length_append];omega
theorem ZR.lineLen {c:Cl} {G:Hp} {v:V} {m:Msg} (h:ZR c G v m):m.line.length≤16384:=by
 obtain ⟨b,f,hs,r,_,im,h1,h2,h3⟩:=h
 rw [im.line]
 rw [zH] at h2
 simp only [List.length_append] at h2
 omega
noncomputable abbrev zgX (c:Cl):Sp:=fun vs H Q _=>∃mv m,vs=[mv]∧ZR c H mv m∧m.first=.answer∧∀p H',zC H H'→H p=none→zD H' p (zbO m)→Q (.ref p) H'
include T Fs
theorem zhy:yG P w K mg base 2 "answer_row" ["answer"] (zgX c):=by
 refine Fs.d_answer_row.ok ZU zh0 (fun vs H Q E h=>?_) (fun f cdv A outer s H vs Q E hr h=>?_)
 ·obtain ⟨mv,m,rfl,_⟩:=h;rfl
 ·obtain ⟨mv,m,rfl,hm,hf,k⟩:=h
  refine ⟨_,(zc (Jx (i:=1) (hc:=rfl) (hN:=ZU.nd) (hy:=rfl) (hyl:=rfl) (hsw:=zbc rfl rfl rfl (by decide +kernel)) (zK (K:=K) (yX (zj (K:=K) (pv 0) rfl))) (z3 (own:=[("header",3)]) (by exact rfl)) (fun _ _ _ _ _=>zX (i:=3) ZU.nd rfl (Or.inl rfl)) (fun _ _ _ _ _=>yK) (fun _ _ _ _ _=>(zj (K:=K) (pv 3) rfl))) (zc (Jx (i:=2) (hc:=rfl) (hN:=ZU.nd) (hy:=rfl) (hyl:=rfl) (hsw:=zbc rfl rfl rfl (by decide +kernel)) (zK (K:=K) (yX (zj (K:=K) (pv 0) rfl))) (z3 (own:=[("header",3)]) (by exact rfl)) (fun _ _ _ _ _=>zX (i:=3) ZU.nd rfl (Or.inl rfl)) (fun _ _ _ _ _=>yK) (fun _ _ _ _ _=>(zj (K:=K) (pv 3) rfl))) (zc (yx (Zb PySem.F.plainAttrs_list PySem.F.slot_list_pop PySem.F.type_list_pop zow (pv 2) (zl (Zb PySem.F.plainAttrs_list PySem.F.slot_list_index PySem.F.type_list_index (znc (K:=K)) (pv 1) (zl (zN T.c_VIA rfl) zb)) zb))) (zg (zm (zU yq (zq (zaz T Fs) (hr.mono (by decide)) rfl (zl (zU yq (zU yq (zO (zl (zj (K:=K) (zj (K:=K) (pv 0) rfl) rfl) zb)) (pv 2)) (zO (zl (zO zb) zb))) zb)) (zj (K:=K) (pv 0) rfl))))))),fun hL=>?_⟩
  have hm0:=hm
  have hbl:=hm.bodyLen
  have hhb:=hm.hdLines
  have hhl:=hm.hdLen
  obtain ⟨a,dx,fv,xv,bv,v3,v4,v5,v6,v7,v8,rfl,ho,mf⟩:=hm.opened
  obtain ⟨bA,rfl,hB⟩:=mf.bd
  have hfi:=mf.fi
  rw [hf] at hfi
  obtain ⟨f1,lA,mA,dx',rfl,h1,h2,h3⟩:=hfi
  obtain ⟨ph,vsh,rfl,hph,hRh⟩:=mf.hd
  obtain ⟨j,hj,j1,j2,j3,j4⟩:=zgo m.headers hm0.hasVia
  have hl:=Paired.length hRh
  refine zfH ?_
  refine Qn zsE (fun _ _ _ _ _ h=>h) (fun v H1=>v=.ref ph∧H1=H) ⟨_,rfl,a,_,dx,_,_,rfl,ho,T.k_Message,T.n_Message_headers,zW _ _ _ _ _ _ _ _ _,rfl,rfl⟩ ?_
  rintro v H1 ⟨rfl,rfl⟩
  refine ⟨ph,vsh,H1,fun i=>(m.headers[i]?).map id,rfl,SqL.of hph,zC.refl _,fun i y G2 H2 P hy g2 hP=>?_,fun p4 us G4 H4 g4 hp4 hG4 e4 hR4=>?_⟩
  ·obtain ⟨h,hh,hH⟩:=Paired.at_ hRh hy
   simp only [hh,Option.map_some,id] at hP
   obtain ⟨ha,nn,lv,vv,hdx,rfl,w1,w2,w3,w4⟩:=hH
   refine zdL (B:=P none H2) ⟨_,rfl,ha,_,hdx,_,_,rfl,g2.s _ _ w1,T.k_Header,T.n_Header_kind,Y1 _ _ _,hP _ G2 H2 (zJ.refl g2.gh) ⟨nn,rfl,w4⟩⟩
  ·rw [hl,ZY,List.map_id] at hR4
   dsimp only
   refine zfH ?_
   refine Qn zsD (fun _ _ _ _ s h=>zfL.mono s h) (fun v H5=>v=.ref ph∧H5=H4) ⟨_,rfl,a,_,dx,_,_,rfl,g4.hh _ _ ho,T.k_Message,T.n_Message_headers,zW _ _ _ _ _ _ _ _ _,rfl,rfl⟩ ?_
   rintro v H5 ⟨rfl,rfl⟩
   refine ⟨ph,vsh,H5,fun i=>(m.headers[i]?).map id,rfl,SqL.of (g4.hh _ _ hph),zC.refl _,fun i y G2 H2 P hy g2 hP=>?_,fun p6 ws G6 H6 g6 hp6 hG6 e6 hR6=>?_⟩
   ·obtain ⟨h,hh,hH⟩:=Paired.at_ hRh hy
    simp only [hh,Option.map_some,id] at hP
    obtain ⟨ha,nn,lv,vv,hdx,rfl,w1,w2,w3,w4⟩:=hH
    have s2:=g4.hh.trans g2.gg
    refine zdL (B:=P none H2) ⟨_,rfl,ha,_,hdx,_,_,rfl,g2.gh _ _ (s2 _ _ w1),T.k_Header,T.n_Header_line,JH _ _ _,hP _ G2 H2 (zJ.refl g2.gh) (w2.mono s2)⟩
   ·rw [hl,ZY,List.map_id] at hR6
    dsimp only
    have s16:=g4.hh.trans g6.hh
    have n6:H1 p6=none:=g4.hh.free hp6
    have hul:=Paired.length hR4
    have hwl:=Paired.length hR6
    have hjl:j < m.headers.length:=(List.getElem?_eq_some_iff.mp j1).1
    have hvia:("via","v") ∈ JF:=by decide +kernel
    have heqv:∀{z:V} {h:Header},zsE G4 z h→eqV z (.str "via")=zhH h:=by
     rintro z h ⟨n,rfl,e⟩
     have hk:=zaF (n:=n) hvia
     rw [← e] at hk
     show (Str.ofString (zct n) == Str.ofString "via")=(h.name == ascii "via")
     rw [Bool.eq_iff_iff,beq_iff_eq,beq_iff_eq]
     exact hk
    have hflat:us.all zcu=true:=by
     rw [List.all_eq_true]
     intro z hz
     obtain ⟨h,_,n,rfl,_⟩:=Paired.mem_left hR4 hz
     rfl
    obtain ⟨z,hz,hzk⟩:=Paired.at2 hR4 j1
    obtain ⟨y,hy,hyk⟩:=Paired.at2 hR6 j1
    refine ⟨_,rfl,.inl ⟨rfl,_,SqL.of e6⟩,_,rfl,.inl ⟨rfl,_,SqL.of (g6.hh _ _ e4)⟩,p4,us,_,j,z,rfl,rfl,SqL.of (g6.hh _ _ e4),rfl,hflat,hz,?_,?_,p6,ws,_,j,y,rfl,rfl,e6,by omega,by omega,?_,hy,?_⟩
    ·rw [heqv hzk];exact j2
    ·intro i z' hi hz'
     obtain ⟨h,hh,hk⟩:=Paired.at_ hR4 hz'
     rw [heqv hk]
     exact j3 i h hi hh
    ·exact zrV (by omega)
    have l7:Zw (upd H6 p6 (.lst (ws.eraseIdx j))) p6 ((m.headers.eraseIdx j).map fun h=>h.line):=by
     have hR7:=Paired.erase j hR6
     obtain ⟨ps,e,hps⟩:=zgD hR7
     refine ⟨ps,by rw [za,e],Paired.mapP hps fun q x hq=>?_⟩
     have nq:q≠p6:=by
      rintro rfl
      have hq':G6 q=some (.lst (rv x)):=hq
      rw [hG6] at hq';cases hq'
     exact (zv nq).trans (g6.gh _ _ hq)
    have s7:zC H1 (upd H6 p6 (.lst (ws.eraseIdx j))):=zC.upd' s16 n6
    generalize upd H6 p6 (.lst (ws.eraseIdx j))=H7 at l7 s7 ⊢
    have hwo:((m.headers.eraseIdx j).map fun h=>h.line).length≤8192:=by
     rw [List.length_map,List.length_eraseIdx]
     split <;> omega
    obtain ⟨ps,e7,hps⟩:=l7
    dsimp only
    refine ⟨_,rfl,a,_,dx,_,_,rfl,s7 _ _ ho,T.k_Message,T.n_Message_first,ye _ _ _ _ _ _ _ _ _,f1,_,dx',_,_,rfl,s7 _ _ h1,T.k_First,T.n_First_line,zjg _ _ _,by rw [sizeLine_eq];simp,fun q1 hq1=>⟨_,rfl,q1,p6,_,_,rfl,rfl,za,(zd hq1) _ _ e7,?_,fun q2 hq2=>?_⟩⟩
    ·have:=Paired.length hps
     rw [List.length_map]
     simp only [List.length_cons,List.length_nil]
     rw [sizeLine_eq]
     omega
    have s8:zC H1 (upd H7 q1 (.lst [.ref lA])):=s7.trans (zd hq1)
    have hps8:Paired (fun q x=>zD (upd H7 q1 (.lst [.ref lA])) q x) ps ((m.headers.eraseIdx j).map fun h=>h.line):=Paired.mapP hps fun q x h=>(zd hq1) _ _ h
    have r9:=zmR (xs:=[V.ref lA]) (ys:=ps.map V.ref) (ls:=[m.line]) (ps:=[lA]) hq2 rfl rfl (.cons (s8 _ _ h2) .nil) hps8
    have s9:=s8.trans (zd (o:=.lst ([V.ref lA]++ps.map V.ref)) hq2)
    generalize upd (upd H7 q1 (.lst [.ref lA])) q2 (.lst ([V.ref lA]++ps.map V.ref))=H9 at r9 s9 ⊢
    obtain ⟨ps9,e9,hps9⟩:=r9
    refine ⟨Nat.zero_le _,fun q3 hq3=>⟨by rw [sizeLine_eq];simp,fun q4 hq4=>⟨q2,q4,_,_,rfl,rfl,(zd hq4) _ _ ((zd hq3) _ _ e9),za,?_,fun q5 hq5=>?_⟩⟩⟩
    ·have:=Paired.length hps9
     rw [List.length_map]
     simp only [List.length_append,List.length_cons,List.length_nil] at this ⊢
     rw [sizeLine_eq]
     omega
    have s34:zC H9 (upd (upd H9 q3 (.lst [])) q4 (.lst [.ref q3])):=(zd hq3).trans (zd hq4)
    have r10:=zmR (xs:=ps9.map V.ref) (ys:=[V.ref q3]) (ms:=[[]]) (qs:=[q3]) hq5 rfl rfl (Paired.mapP hps9 fun q x h=>s34 _ _ h) (.cons ((zd hq4) _ _ za) .nil)
    have s10:=(s9.trans s34).trans (zd (o:=.lst (ps9.map V.ref++[V.ref q3])) hq5)
    generalize upd (upd (upd H9 q3 (.lst [])) q4 (.lst [.ref q3])) q5 (.lst (ps9.map V.ref++[V.ref q3]))=H10 at r10 s10 ⊢
    rw [← j4] at r10
    have hfin:(zV ([m.line]++((Sa39.without m.headers).map fun h=>h.line)++[[]])).length≤900000:=by
     have h7:=zek m.headers
     have h8:=hm0.lineLen
     simp only [zdi,List.length_append,zdh,List.length_nil]
     omega
    refine ⟨q5,_,rfl,r10,(by omega),fun p22 H22 s22 hp22 e22=>⟨_,rfl,a,_,dx,_,_,rfl,s22 _ _ (s10 _ _ ho),T.k_Message,T.n_Message_body,Q4 _ _ _ _ _ _ _ _ _,p22,bA,_,_,rfl,rfl,e22,s22 _ _ (s10 _ _ hB),?_,fun p23 hp23=>?_⟩⟩
    ·rw [zi,zi];exact sz (by omega)
    rw [yf]
    exact k p23 _ ((s10.trans s22).trans (zd hp23)) ((s10.trans s22).free hp23) za
end
section
variable {P:Program} {w:World} {K:PySem.W.Frag} {mg:Str→Option Value} {base:Heap} {c:Cl} {le ln:Addr} (T:Txt K mg c le ln) (Fs:YM K mg c)
noncomputable def QB (own:Sa39.Place) (m:Msg):Out:=match m.vias with
 | x::y::_=>if x.host=.address own.host∧x.port=own.port then (match zby y with
   | some a=>some (zbO m,⟨a,y.port⟩)
   | none=>none) else none
 | _=>none
noncomputable abbrev zcO (c:Cl):Sp:=fun vs H Q _=>∃G hv mv name own ev m,vs=[hv,mv]∧zC G H∧zgG c H hv name own ev∧ZR c G mv m∧m.first=.answer∧∀v G' H',zJ G H G' H'→SeO c G' v (QB own m)→Q v H'
theorem ZR.vias {c:Cl} {G:Hp} {v:V} {m:Msg} (h:ZR c G v m):∃x xr,m.vias=x::xr:=by
 obtain ⟨b,f,hs,r,_,im,_⟩:=h
 have h2:=im.novia
 cases e:m.vias with
 | nil=>exact absurd e h2
 | cons x xr=>exact ⟨x,xr,rfl⟩
theorem zqa {h:Host} {n:Nat}:zd7 h=.int (n:Nat)↔h=.address n:=by
 cases h with
 | name _=>simp [zd7]
 | address a=>
  constructor
  ·intro e
   have:((a:Nat):Int)=(n:Int):=by simpa [zd7] using e
   rw [show a=n by omega]
  ·intro e;cases e;rfl
include T Fs
theorem zdb:yG P w K mg base 6 "answer_sending" ["house","answer"] (zcO c):=by
 refine Fs.d_answer_sending.ok Yi zdw (fun vs H Q E h=>?_) (fun f cdv A outer s H vs Q E hr h=>?_)
 ·obtain ⟨G,hv,mv,name,own,ev,m,rfl,_⟩:=h;rfl
 ·obtain ⟨G,hv,mv,name,own,ev,m,rfl,sg,hh,hm,hf,k⟩:=h
  refine ⟨_,(zc (zE (i:=2) Yi.nd rfl (Or.inl rfl) (zj (K:=K) (yE (zI (K:=K)) (zj (K:=K) (pv 1) rfl) zu (fun _ _=>rfl)) rfl)) (zc (z4 (Za (PW.pt (Z9 (zw ziW (zj (K:=K) (pv 2) rfl) (zj (K:=K) (pv 0) rfl) (zz _)) (Z9 (zw ziW (zj (K:=K) (pv 2) rfl) (zj (K:=K) (pv 0) rfl) (zz _)) (Zm (zw zd0 (yo (zx (K:=K)) rfl T.b_len PySem.boot_len (zl (zj (K:=K) (pv 1) rfl) zb)) zu (zz _))))))) (zg (zm (zm0 (JB T Fs) (hr.mono (by decide)) rfl))) zF) (zc (zE (i:=3) Yi.nd rfl (Or.inl rfl) (zq (zc6 T Fs) (hr.mono (by decide)) rfl (zl (yE (zI (K:=K)) (zj (K:=K) (pv 1) rfl) zu (fun _ _=>rfl)) zb))) (zc (z4 (zw YG (pv 3) zY (zz _)) (zg (zm (zm0 (JB T Fs) (hr.mono (by decide)) rfl))) zF) (zg (zm (YY (Zp T Fs) (hr.mono (by decide)) rfl (zl (zq (zhy T Fs) (hr.mono (by decide)) rfl (zl (pv 1) zb)) (zl (pv 3) (zl (zj (K:=K) (zj (K:=K) (yE (zI (K:=K)) (zj (K:=K) (pv 1) rfl) zu (fun _ _=>rfl)) rfl) rfl) zb)))))))))),fun hL=>?_⟩
  have hm0:=hm
  obtain ⟨x,xr,hx⟩:=hm.vias
  obtain ⟨a,dx,fv,xv,bv,v3,v4,v5,v6,v7,v8,rfl,ho,mf⟩:=hm.opened
  obtain ⟨p3,vs3,rfl,hp3,hR3⟩:=mf.vi
  have hlv:=Paired.length hR3
  rw [hx] at hR3
  cases hR3 with
  | @cons z _ zr _ z0 zT=>
  obtain ⟨zA,ze,zp,bA,zdx,zh,rfl,y1,⟨o2,xA,dx3,rfl,y2,y2',y2''⟩,y3⟩:=z0
  have hh':=hh
  obtain ⟨hA,nA,dxh,rfl,g1,g2,g3,g4⟩:=hh'
  refine ⟨_,rfl,a,_,dx,_,_,rfl,sg _ _ ho,T.k_Message,T.n_Message_vias,yg _ _ _ _ _ _ _ _ _,p3,_,_,_,rfl,rfl,SqL.of (sg _ _ hp3),yk (j:=0) rfl,zA,_,zdx,_,_,rfl,sg _ _ y1,T.k_Via,T.n_Via_endpoint,ZH _ _ _,?_⟩
  walk_at "nm"
  refine ⟨fun r H2=>H2=H∧(r=true↔¬ (x.host=.address own.host∧x.port=own.port∧xr≠[])),?_,fun r H2 ⟨e2,hr2⟩=>?_⟩
  ·refine ⟨_,rfl,o2,_,dx3,_,_,rfl,sg _ _ y2,T.k_Endpoint,T.n_Endpoint_address,yc _ _ _,_,rfl,hA,_,dxh,_,_,rfl,g1,T.k_House,T.n_House_address,Qw _ _ _ _,?_⟩
   refine ⟨by cases x.host <;> rfl,_,rfl,zR (fun w1=>⟨rfl,?_⟩) (fun w1=>?_)⟩
   ·have:¬ x.host=.address own.host:=by
     intro e
     rw [e] at w1
     simp [zd7] at w1
    simp [this]
   ·have e1:x.host=.address own.host:=zqa.mp (by simpa using w1)
    refine ⟨_,rfl,o2,_,dx3,_,_,rfl,sg _ _ y2,T.k_Endpoint,T.n_Endpoint_port,yV _ _ _,_,rfl,hA,_,dxh,_,_,rfl,g1,T.k_House,T.n_House_port,zaE _ _ _ _,rfl,_,rfl,zR (fun w2=>⟨rfl,?_⟩) (fun w2=>?_)⟩
    ·have:¬ x.port=own.port:=by
      intro e
      rw [e] at w2
      simp at w2
     simp [this]
    ·have e2:x.port=own.port:=by
      have:((x.port:Nat):Int)=((own.port:Nat):Int):=by simpa using w2
      omega
     refine ⟨_,rfl,a,_,dx,_,_,rfl,sg _ _ ho,T.k_Message,T.n_Message_vias,yg _ _ _ _ _ _ _ _ _,p3,_,rfl,.inl (SqL.of (sg _ _ hp3)),_,_,rfl,rfl,_,rfl,rfl,?_⟩
     have hzl:=Paired.length zT
     rw [decide_eq_true_eq]
     simp only [e1,e2,true_and,ne_eq,Classical.not_not]
     rw [List.length_cons]
     cases xr with
     | nil=>simp at hzl;simp [hzl]
     | cons _ _=>simp at hzl;simp [hzl];omega
  ·subst e2
   refine zR (fun w1=>?_) (fun w1=>?_)
   ·refine ⟨G,rfl,sg,fun v3 G3 H3 g3 r3=>k _ G3 H3 g3 ?_⟩
    have hn:=hr2.mp w1
    have:QB own m=none:=by
     unfold QB
     rw [hx]
     cases xr with
     | nil=>rfl
     | cons y _=>
      simp only
      rw [if_neg fun q=>hn ⟨q.1,q.2,by simp⟩]
    rw [this]
    exact r3
   ·walk_at "nx"
    have hn:x.host=.address own.host∧x.port=own.port∧xr≠[]:=Classical.not_not.mp fun q=>w1 (hr2.mpr q)
    cases zT with
    | nil=>exact absurd rfl hn.2.2
    | @cons u y ur yr u0 uT=>
    have u0':=u0
    obtain ⟨uA,ue,up,ubA,udx,uh,rfl,d1,⟨o4,xA4,dx4,rfl,d2,d2',d2''⟩,d3⟩:=u0'
    refine ⟨_,rfl,a,_,dx,_,_,rfl,sg _ _ ho,T.k_Message,T.n_Message_vias,yg _ _ _ _ _ _ _ _ _,p3,_,_,_,rfl,rfl,SqL.of (sg _ _ hp3),yk (j:=1) rfl,_,y,rfl,u0.mono sg,fun H3 s3=>?_⟩
    walk_at "nm"
    have hans:QB own m=match zby y with
      | some a=>some (zbO m,⟨a,y.port⟩)
      | none=>none:=by
     unfold QB
     rw [hx]
     simp only
     rw [if_pos ⟨hn.1,hn.2.1⟩]
    rw [hans] at k
    have gs:=zJ.more sg s3
    cases er:zby y with
    | none=>
     rw [er] at k
     refine ⟨_,rfl,rfl,_,rfl,zdL ?_⟩
     exact ⟨G,rfl,gs.gh,fun v3 G3 H3 g3 r3=>k _ G3 H3 (gs.trans g3) r3⟩
    | some ad=>
     rw [er] at k
     refine ⟨_,rfl,rfl,_,rfl,zkp ?_⟩
     walk_at "nx"
     refine ⟨_,rfl,_,m,rfl,hm0.mono gs.gh,hf,fun p5 H5 s5 hp5 e5=>?_⟩
     have g5:=gs.trans (zJ.keep gs.gh s5 hp5 e5)
     refine ⟨_,rfl,_,rfl,a,_,dx,_,_,rfl,g5.s _ _ ho,T.k_Message,T.n_Message_vias,yg _ _ _ _ _ _ _ _ _,p3,_,_,_,rfl,rfl,SqL.of (g5.s _ _ hp3),yk (j:=1) rfl,uA,_,udx,_,_,rfl,g5.s _ _ d1,T.k_Via,T.n_Via_endpoint,ZH _ _ _,o4,_,dx4,_,_,rfl,g5.s _ _ d2,T.k_Endpoint,T.n_Endpoint_port,yV _ _ _,fun o edx no ndx ne=>⟨o,edx,_,_,_,rfl,za,fun H10 q1 he=>⟨rfl,zoy g5 za (fun v G' H' g r=>k v G' H' g r) o edx no ndx H10 q1 he⟩⟩⟩
end
section
variable {P:Program} {w:World} {K:PySem.W.Frag} {mg:Str→Option Value} {base:Heap} {c:Cl} {le ln:Addr} (T:Txt K mg c le ln) (Fs:YM K mg c)
theorem ZR.hops {c:Cl} {G:Hp} {v:V} {m:Msg} (h:ZR c G v m) {meth:B} {t:Target} {txt:B} (hf:m.first=.request meth t txt):zG (zZ m.headers "max-forwards") 3=true∧m.hops=natOf (zZ m.headers "max-forwards")∧m.hops≤255:=by
 obtain ⟨b,f,hs,r,_,im,_⟩:=h
 have h1:=im.hops
 rw [hf] at h1
 unfold zdM at h1
 simp only at h1
 split at h1
 ·rw [Zg _ _ _ (zdp 3),zaH] at h1
  split at h1
  ·rename_i q
   simp only [Option.bind_some] at h1
   split at h1
   ·rename_i w
    have e:=Option.some.inj h1
    exact ⟨q,e.symm,e ▸ w⟩
   ·cases h1
  ·cases h1
 ·cases h1
noncomputable def toO (own:Sa39.Place) (m:Msg) (x:Via) (src:Nat) (name:B) (meth:B):List Sa39.Entry→Out
 | []=>ZF "404 Not Found" m x src name [] meth
 | e::_=>some (Jz own m x src meth (targetText e.word e.place),e.place)
noncomputable abbrev zbe (c:Cl):Sp:=fun vs H Q _=>∃G hv mv v name own ev m x xr,∃src:Nat,∃(es:List Sa39.Entry) (meth:B) (t:Target) (txt:B),vs=[hv,mv,.int src,v]∧zC G H∧zgG c H hv name own ev∧ZR c G mv m∧m.first=.request meth t txt∧m.vias=x::xr∧zL (Z7 c) G v es∧1≤m.hops∧
 ∀v G' H',zJ G H G' H'→SeO c G' v (toO own m x src name meth es.reverse)→Q v H'
include T Fs
theorem zbC:yG P w K mg base 7 "sending_to_entry" ["house","request","source","entries"] (zbe c):=by
 refine Fs.d_sending_to_entry.ok Qc zbM (fun vs H Q E h=>?_) (fun f cdv A outer s H vs Q E hr h=>?_)
 ·obtain ⟨G,hv,mv,v,name,own,ev,m,x,xr,src,es,meth,t,txt,rfl,_⟩:=h;rfl
 ·obtain ⟨G,hv,mv,v,name,own,ev,m,x,xr,src,es,meth,t,txt,rfl,sg,hh,hm,hf,hx,hes,hn,k⟩:=h
  refine ⟨_,(zc (z4 (zw (zaw (K:=K) hr.units0) (pv 3) (zO zb) (zz _)) (zg (zm (zq (zch T Fs) (hr.mono (by decide)) rfl (zl (pv 0) (zl (pv 1) (zl (pv 2) (zl (zN T.c_NOT_FOUND rfl) (zl (zO zb) zb)))))))) zF) (zc (zE (i:=4) Qc.nd rfl (Or.inl rfl) (zj (K:=K) (yE (zI (K:=K)) (zq (JC T Fs) (hr.mono (by decide)) rfl (zl (pv 3) zb)) zu (fun _ _=>rfl)) rfl)) (zg (zm (YY (Zp T Fs) (hr.mono (by decide)) rfl (zl (zq (zci T Fs) (hr.mono (by decide)) rfl (zl (pv 0) (zl (pv 1) (zl (pv 2) (zl (zq (zay T Fs) (hr.mono (by decide)) rfl (zl (pv 4) zb)) zb))))) (zl (zj (K:=K) (pv 4) rfl) (zl (zj (K:=K) (pv 4) rfl) zb)))))))),fun hL=>?_⟩
  obtain ⟨d1,d2,d3⟩:=hm.hops hf
  have hes':=hes
  obtain ⟨pA,vs,rfl,hp,hR⟩:=hes'
  refine ⟨_,rfl,Nat.zero_le _,fun q hq=>⟨pA,q,vs,rfl,rfl,SqL.of ((zd hq) _ _ (sg _ _ hp)),SqL.of za,_,rfl,?_⟩⟩
  have g1:=zJ.more sg (zd (o:=.lst []) hq)
  generalize upd H q (.lst [])=H1 at g1 ⊢
  refine zR (fun w1=>?_) (fun w1=>?_)
  ·have e:vs=[]:=by simpa using w1
   subst e
   cases hR
   refine ⟨_,rfl,_,rfl,_,rfl,Nat.zero_le _,fun q2 hq2=>?_⟩
   have g2:=g1.trans (zJ.more g1.gh (zd (o:=.lst []) hq2))
   have e2:(upd H1 q2 (.lst [])) q2=some (.lst []):=za
   generalize upd H1 q2 (.lst [])=H2 at g2 e2 ⊢
   refine ⟨G,hv,_,name,own,ev,m,x,xr,src,"404 Not Found",q2,[],meth,t,txt,rfl,g2.gh,hh.mono g2.hh,hm,hf,hx,(by decide +kernel),⟨[],e2,.nil⟩,by simp [yN],by simp,fun v5 G5 H5 g5 r5=>k v5 G5 H5 (g2.trans g5) r5⟩
  ·walk_at "nx"
   have e:vs≠[]:=by simpa using w1
   refine ⟨_,rfl,G,_,es,rfl,g1.gh,hes,fun v2 G2 H2 g2 ⟨pB,ws,ev2,hpB,hRB⟩=>?_⟩
   have hl1:=Paired.length hR
   have hl2:=Paired.length hRB
   rw [List.length_reverse] at hl2
   generalize es.reverse=rs at hRB k
   cases hRB with
   | nil=>
    rw [← hl2] at hl1
    exact absurd (List.length_eq_zero_iff.mp hl1) e
   | @cons z e0 zr er z0 zT=>
   obtain ⟨ea,wA,pvv,iA,edx,rfl,y1,y2,y3,y4⟩:=z0
   have y3':=y3
   obtain ⟨pa,pw,pdx,rfl,u1,u2,u3,u4⟩:=y3'
   have g12:=g1.trans g2
   refine ⟨pB,_,_,_,ev2,rfl,SqL.of (g12.gh _ _ hpB),yk (j:=0) rfl,ea,_,edx,_,_,rfl,g12.gh _ _ y1,T.k_Entry,T.n_Entry_place,Y2 _ _ _ _ _,?_⟩
   walk_at "nm"
   refine ⟨_,rfl,_,rfl,_,rfl,_,rfl,_,_,_,rfl,y3.mono g12.gh,fun q3 H3 s3 hq3 e3=>?_⟩
   have hs:=g12.hh.trans s3
   have hlen:=y3.len
   refine ⟨hv,_,name,own,ev,m,x,xr,src,q3,_,meth,t,txt,rfl,hh.mono hs,hm.mono (g12.s.trans s3),hf,hx,e3,(by omega),d1,(by omega),(by omega),fun p4 H4 s4 hp4 e4=>?_⟩
   have g13:=g12.trans (zJ.more g12.gh s3)
   have g14:=g13.trans (zJ.keep g13.gh s4 hp4 e4)
   refine ⟨_,rfl,pa,_,pdx,_,_,rfl,s4 _ _ (g13.gh _ _ u1),T.k_Place,T.n_Place_address,Z3 _ _ _,_,rfl,pa,_,pdx,_,_,rfl,s4 _ _ (g13.gh _ _ u1),T.k_Place,T.n_Place_port,QH _ _ _,fun o edx no ndx ne=>⟨o,edx,_,_,_,rfl,za,fun H10 q1 he=>⟨rfl,zoy g14 za (fun v G' H' g r=>k v G' H' g ?_) o edx no ndx H10 q1 he⟩⟩⟩
   exact r
end
section
variable {P:Program} {w:World} {K:PySem.W.Frag} {mg:Str→Option Value} {base:Heap} {c:Cl} {le ln:Addr} (T:Txt K mg c le ln) (Fs:YM K mg c)
noncomputable def yp (name:B) (own:Sa39.Place) (m:Msg) (x:Via) (src:Nat) (es:List Sa39.Entry) (meth:B) (t:Target) (txt:B):Out:=
 if (zgc name own t.host t.port&&decide (t.word=none))=true then ZF (if meth=ascii "OPTIONS" then "200 OK" else "405 Method Not Allowed") m x src name [] meth
 else if m.hops=0 then ZF "483 Too Many Hops" m x src name [] meth
 else if zgc name own t.host t.port=true then toO own m x src name meth (es.filter fun e=>e.whom == t.word.getD []).reverse
 else match t.host with
  | .name _=>ZF "502 Bad Gateway" m x src name [] meth
  | .address a=>some (Jz own m x src meth txt,⟨a,t.port⟩)
noncomputable abbrev zbS (c:Cl):Sp:=fun vs H Q _=>∃G hv mv v name own ev m x xr,∃src:Nat,∃(es:List Sa39.Entry) (meth:B) (t:Target) (txt:B),vs=[hv,mv,.int src,v]∧zC G H∧zgG c H hv name own ev∧addressOf name=none∧ZR c G mv m∧m.first=.request meth t txt∧m.vias=x::xr∧zL (Z7 c) G v es∧
 ∀v G' H',zJ G H G' H'→SeO c G' v (yp name own m x src es meth t txt)→Q v H'
include T Fs
theorem zcf:yG P w K mg base 8 "request_sending" ["house","request","source","entries"] (zbS c):=by
 refine Fs.d_request_sending.ok Zf zcy (fun vs H Q E h=>?_) (fun f cdv A outer s H vs Q E hr h=>?_)
 ·obtain ⟨G,hv,mv,v,name,own,ev,m,x,xr,src,es,meth,t,txt,rfl,_⟩:=h;rfl
 ·obtain ⟨G,hv,mv,v,name,own,ev,m,x,xr,src,es,meth,t,txt,rfl,sg,hh,hn,hm,hf,hx,hes,k⟩:=h
  refine ⟨_,(zc (z4 (yi (zq (YI T Fs) (hr.mono (by decide)) rfl (zl (pv 0) (zl (pv 1) zb)))) (zc (zE (i:=6) Zf.nd rfl (Or.inl rfl) (yX (yI (zw (yd (K:=K) hr.units) (zj (K:=K) (zj (K:=K) (pv 1) rfl) rfl) (zq (zQ T Fs) (hr.mono (by decide)) rfl (zl yt zb)) (zz _)) (zN T.c_OK rfl) (zN T.c_METHOD_NOT_ALLOWED rfl)))) (zg (zm (zq (zch T Fs) (hr.mono (by decide)) rfl (zl (pv 0) (zl (pv 1) (zl (pv 2) (zl (pv 6) (zl (zO zb) zb))))))))) zF) (zc (z4 (zw Z0 (zq (zgy T Fs) (hr.mono (by decide)) rfl (zl (pv 1) zb)) zu (zz _)) (zg (zm (zq (zch T Fs) (hr.mono (by decide)) rfl (zl (pv 0) (zl (pv 1) (zl (pv 2) (zl (zN T.c_TOO_MANY_HOPS rfl) (zl (zO zb) zb)))))))) zF) (zc (zE (i:=4) Zf.nd rfl (Or.inl rfl) (zj (K:=K) (zj (K:=K) (pv 1) rfl) rfl)) (zc (z4 (yi (zlF (pv 0) (JE T Fs) (hr.mono (by decide)) (zl (pv 4) zb))) (zg (zm (zq (zbC T Fs) (hr.mono (by decide)) rfl (zl (pv 0) (zl (pv 1) (zl (pv 2) (zl (zq (JD T Fs) (hr.mono (by decide)) rfl (zl (pv 3) (zl (zj (K:=K) (pv 4) rfl) zb))) zb))))))) zF) (zc (zE (i:=5) Zf.nd rfl (Or.inl rfl) (zj (K:=K) (pv 4) rfl)) (zc (z4 (zw YG (zj (K:=K) (pv 5) rfl) zY (zz _)) (zg (zm (zq (zch T Fs) (hr.mono (by decide)) rfl (zl (pv 0) (zl (pv 1) (zl (pv 2) (zl (zN T.c_BAD_GATEWAY rfl) (zl (zO zb) zb)))))))) zF) (zg (zm (YY (Zp T Fs) (hr.mono (by decide)) rfl (zl (zq (zci T Fs) (hr.mono (by decide)) rfl (zl (pv 0) (zl (pv 1) (zl (pv 2) (zl (zj (K:=K) (pv 4) rfl) zb))))) (zl (zj (K:=K) (pv 5) rfl) (zl (zj (K:=K) (pv 5) rfl) zb)))))))))))),fun hL=>?_⟩
  obtain ⟨d1,d2,d3⟩:=hm.hops hf
  have hm0:=hm
  obtain ⟨a,dx,fv,xv,bv,v3,v4,v5,v6,v7,v8,rfl,ho,mf⟩:=hm.opened
  have hfi:=mf.fi
  rw [hf] at hfi
  obtain ⟨f1,lA,mA,tv,dx',rfl,h1,h2,h3,h4,h5,h6⟩:=hfi
  have h4':=h4
  obtain ⟨o,rA,wA,dx2,ev2,hb,rfl,t3,t4,t5,⟨o2,xA,dx3,rfl,u1,u2,u3⟩,t8⟩:=h4'
  obtain ⟨line,r,hmo⟩:=hm0.raw
  have hh':=hh
  obtain ⟨hA,nA,dxh,rfl,g1,_⟩:=hh'
  have rep:∀{st:String} {H1:Hp} {q2:Addr},zC H H1→H1 q2=none→(ascii st).length≤100→yp name own m x src es meth t txt=ZF st m x src name [] meth→
    zkQ c [.ref hA,.ref a,.int (src:Nat),.str (Str.ofString st),.ref q2] (upd H1 q2 (.lst [])) Q E0:=by
   intro st H1 q2 s1 hq2 hst e
   have s2:=s1.trans (zd (o:=.lst []) hq2)
   have g2:=zJ.more sg s2
   refine ⟨G,_,_,name,own,ev,m,x,xr,src,st,q2,[],meth,t,txt,rfl,g2.gh,hh.mono s2,hm0,hf,hx,hst,⟨[],za,.nil⟩,by simp [yN],by simp,fun v5 G5 H5 g5 r5=>k v5 G5 H5 (g2.trans g5) ?_⟩
   rw [e];exact r5
  refine ⟨_,rfl,_,rfl,_,_,name,own,ev,m,meth,t,txt,rfl,hh,hn,hm0.mono sg,hf,fun H1 s1=>⟨_,rfl,zR (fun w1=>?_) (fun w1=>?_)⟩⟩
  ·refine ⟨fun v H2=>zC H H2∧v=.str (Str.ofString (if meth=ascii "OPTIONS" then "200 OK" else "405 Method Not Allowed")),?_,fun v2 H2 ⟨s2,e2⟩=>?_⟩
   ·refine ⟨_,rfl,a,_,dx,_,_,rfl,s1 _ _ (sg _ _ ho),T.k_Message,T.n_Message_first,ye _ _ _ _ _ _ _ _ _,f1,_,dx',_,_,rfl,s1 _ _ (sg _ _ h1),T.k_First,T.n_First_method,yC _ _ _,"OPTIONS",rfl,(by decide +kernel),fun p2 H2 s2 hp2 e2=>⟨mA,p2,_,_,rfl,rfl,SqL.of (s2 _ _ (s1 _ _ (sg _ _ h3))),SqL.of e2,_,rfl,?_⟩⟩
    rw [zB]
    refine zR (fun w2=>⟨s1.trans s2,?_⟩) (fun w2=>⟨s1.trans s2,?_⟩)
    ·rw [if_pos (by simpa using w2)]
    ·rw [if_neg (by simpa using w2)]
   ·subst e2
    walk_at "nm"
    refine ⟨_,rfl,_,rfl,_,rfl,_,rfl,Nat.zero_le _,fun q3 hq3=>rep s2 hq3 (by split <;> decide +kernel) ?_⟩
    unfold yp
    rw [if_pos w1]
  ·walk_at "nx"
   refine ⟨_,rfl,G,_,line,_,_,r,rfl,sg.trans s1,hmo,d1,fun H2 s2=>⟨rfl,_,rfl,zR (fun w2=>?_) (fun w2=>?_)⟩⟩
   ·refine ⟨_,rfl,_,rfl,_,rfl,Nat.zero_le _,fun q3 hq3=>rep (s1.trans s2) hq3 (by decide +kernel) ?_⟩
    unfold yp
    rw [if_neg w1,if_pos]
    rw [d2]
    have:((natOf (zZ m.headers "max-forwards"):Nat):Int)=0:=by simpa using w2
    omega
   ·walk_at "nx"
    have hops:¬ m.hops=0:=by
     intro e
     rw [d2] at e
     apply w2
     rw [e];rfl
    have s12:=s1.trans s2
    have g12:=zJ.more sg s12
    refine ⟨_,rfl,a,_,dx,_,_,rfl,g12.gh _ _ ho,T.k_Message,T.n_Message_first,ye _ _ _ _ _ _ _ _ _,f1,_,dx',_,_,rfl,g12.gh _ _ h1,T.k_First,T.n_First_target,za6 _ _ _,?_⟩
    walk_at "nm"
    refine ⟨_,rfl,hA,dxh,_,rfl,s12 _ _ g1,rfl,_,rfl,_,_,name,own,ev,t,txt,rfl,hh.mono s12,hn,h4.mono g12.gh,fun H3 s3=>⟨_,rfl,zR (fun w3=>?_) (fun w3=>?_)⟩⟩
    ·have s13:=s12.trans s3
     have g13:=zJ.more sg s13
     refine ⟨_,rfl,_,rfl,_,rfl,_,rfl,_,rfl,o,_,dx2,_,_,rfl,g13.gh _ _ t3,T.k_Target,T.n_Target_word,yZ _ _ _,G,v,es,wA,_,rfl,g13.gh,hes,g13.gh _ _ t5,fun v4 G4 H4 g4 r4=>?_⟩
     refine ⟨G4,_,_,v4,name,own,ev,m,x,xr,src,_,meth,t,txt,rfl,g4.gh,hh.mono (s13.trans g4.hh),hm0.mono g4.gg,hf,hx,r4,(by omega),fun v5 G5 H5 g5 r5=>k v5 G5 H5 ((g13.trans g4).trans g5) ?_⟩
     unfold yp
     rw [if_neg w1,if_neg hops,if_pos w3]
     exact r5
    ·walk_at "nx"
     have s13:=s12.trans s3
     have g13:=zJ.more sg s13
     refine ⟨_,rfl,o,_,dx2,_,_,rfl,g13.gh _ _ t3,T.k_Target,T.n_Target_endpoint,Zv _ _ _,?_⟩
     walk_at "nm"
     refine ⟨_,rfl,o2,_,dx3,_,_,rfl,g13.gh _ _ u1,T.k_Endpoint,T.n_Endpoint_address,yc _ _ _,?_⟩
     cases eh:t.host with
     | name nm=>
      refine ⟨rfl,_,rfl,zdL ?_⟩
      refine ⟨_,rfl,_,rfl,_,rfl,Nat.zero_le _,fun q3 hq3=>rep s13 hq3 (by decide +kernel) ?_⟩
      unfold yp
      rw [if_neg w1,if_neg hops,if_neg w3,eh]
     | address ad=>
      refine ⟨rfl,_,rfl,zkp ?_⟩
      walk_at "nx"
      rw [eh] at u1
      refine ⟨_,rfl,_,rfl,_,rfl,_,rfl,o,_,dx2,_,_,rfl,g13.gh _ _ t3,T.k_Target,T.n_Target_row,zjf _ _ _,_,_,name,own,ev,m,x,xr,src,rA,txt,meth,t,txt,rfl,hh.mono s13,hm0.mono g13.gh,hf,hx,g13.gh _ _ t4,h6,d1,(by omega),(by omega),fun p4 H4 s4 hp4 e4=>?_⟩
      have g14:=g13.trans (zJ.keep g13.gh s4 hp4 e4)
      refine ⟨_,rfl,o2,_,dx3,_,_,rfl,g14.s _ _ u1,T.k_Endpoint,T.n_Endpoint_address,yc _ _ _,_,rfl,o2,_,dx3,_,_,rfl,g14.s _ _ u1,T.k_Endpoint,T.n_Endpoint_port,yV _ _ _,fun o edx no ndx ne=>⟨o,edx,_,_,_,rfl,za,fun H10 q1 he=>⟨rfl,zoy g14 za (fun v G' H' g r=>k v G' H' g ?_) o edx no ndx H10 q1 he⟩⟩⟩
      unfold yp
      rw [if_neg w1,if_neg hops,if_neg w3,eh]
      exact r
end
section
variable {P:Program} {w:World} {K:PySem.W.Frag} {mg:Str→Option Value} {base:Heap} {c:Cl} {le ln:Addr} (T:Txt K mg c le ln) (Fs:YM K mg c)
noncomputable def zqn (c:Cl) (G:Hp) (v:V) (out:Out) (l:List Sa39.Entry):Prop:=∃a sv ev dx,v=.ref a∧G a=some (.ins c.Outcome dx (Qx sv ev))∧SeO c G sv out∧zL (Z7 c) G ev l
theorem zqn.mono {c:Cl} {G G':Hp} {v:V} {out:Out} {l:List Sa39.Entry} (s:zC G G') (h:zqn c G v out l):zqn c G' v out l:=by
 obtain ⟨a,sv,ev,dx,e,h1,h2,h3⟩:=h;exact ⟨a,sv,ev,dx,e,s _ _ h1,h2.mono s,Z5 s h3⟩
theorem zpN {c:Cl} {G H G1 H1:Hp} {sv ev:V} {out:Out} {l:List Sa39.Entry} {Q:VK} (g1:zJ G H G1 H1) (hs:SeO c G1 sv out) (he:zL (Z7 c) G1 ev l) (k:∀v G' H',zJ G H G' H'→zqn c G' v out l→Q v H'):
  ∀o edx,H1 o=none→H1 edx=none→∀H10,(∀b u,upd (upd H1 edx (.own o)) o (.ins c.Outcome edx []) b=some u→b≠o→H10 b=some u)→H10 o=some (.ins c.Outcome edx (Qx sv ev))→Q (.ref o) H10:=by
 intro o edx no ndx H10 q1 he'
 have s10:=zdd no ndx q1
 have sB:=zd (o:=.ins c.Outcome edx (Qx sv ev)) (g1.gh.free no)
 exact k _ _ H10 (g1.trans (zJ.keep g1.gh s10 no he')) ⟨o,sv,ev,edx,rfl,za,hs.mono sB,Z5 sB he⟩
noncomputable def yl (now:Nat) (es:List Sa39.Entry):List Sa39.Entry:=es.filter fun e=>decide (now < e.until_)
noncomputable def zhp (name:B) (own:Sa39.Place) (m:Msg) (x:Via) (src now:Nat) (es:List Sa39.Entry) (meth:B) (t:Target) (txt:B):Out × List Sa39.Entry:=
 if (zgc name own t.host t.port&&decide (t.word=none))=true∧meth=ascii "REGISTER" then
  (ZF (zcG name own m now (yl now es)).1 m x src name (zdS (zcG name own m now (yl now es)).1 m now (zcG name own m now (yl now es)).2) meth,(zcG name own m now (yl now es)).2)
 else (yp name own m x src (yl now es) meth t txt,yl now es)
theorem zgr (name:B) (own:Sa39.Place) (m:Msg) (now:Nat) (es:List Sa39.Entry) (h1:es.length≤256) (h2:∀e ∈ es,now < e.until_):
  (zcG name own m now es).1 ∈ ["200 OK","400 Bad Request","503 Service Unavailable"]∧(zcG name own m now es).2.length≤256∧∀e ∈ (zcG name own m now es).2,now < e.until_:=by
 unfold zcG
 split
 ·exact ⟨by simp,h1,h2⟩
 ·dsimp only
  split
  ·exact ⟨by simp,h1,h2⟩
  ·rename_i q
   exact ⟨by simp,by simp only;omega,fun e he=>by have:=(List.mem_filter.mp he).2;simpa using this⟩
noncomputable abbrev zbT (c:Cl):Sp:=fun vs H Q _=>∃G hv mv name own ev m x xr,∃src now:Nat,∃(es:List Sa39.Entry) (meth:B) (t:Target) (txt:B),vs=[hv,mv,.int src,.int now]∧zC G H∧zgG c H hv name own ev∧addressOf name=none∧ZR c G mv m∧m.first=.request meth t txt∧m.vias=x::xr∧zL (Z7 c) G ev es∧now < 2 ^ 32∧es.length≤256∧
 ∀v G' H',zJ G H G' H'→zqn c G' v (zhp name own m x src now es meth t txt).1 (zhp name own m x src now es meth t txt).2→Q v H'
noncomputable def zdJ (name:B) (own:Sa39.Place) (es:List Sa39.Entry) (m:Msg) (src now:Nat):Out × List Sa39.Entry:=match m.first,m.vias with
 | .request meth t txt,x::_=>zhp name own m x src now es meth t txt
 | .answer,_=>(QB own m,es)
 | _,_=>(none,es)
noncomputable abbrev zbU (c:Cl):Sp:=fun vs H Q _=>∃G hv mv name own ev m,∃src now:Nat,∃(es:List Sa39.Entry),vs=[hv,mv,.int src,.int now]∧zC G H∧zgG c H hv name own ev∧addressOf name=none∧ZR c G mv m∧zL (Z7 c) G ev es∧now < 2 ^ 32∧es.length≤256∧
 ∀v G' H',zJ G H G' H'→zqn c G' v (zdJ name own es m src now).1 (zdJ name own es m src now).2→Q v H'
include T Fs
theorem zcg:yG P w K mg base 9 "request_outcome" ["house","request","source","now"] (zbT c):=by
 refine Fs.d_request_outcome.ok ZS zcz (fun vs H Q E h=>?_) (fun f cdv A outer s H vs Q E hr h=>?_)
 ·obtain ⟨G,hv,mv,name,own,ev,m,x,xr,src,now,es,meth,t,txt,rfl,_⟩:=h;rfl
 ·obtain ⟨G,hv,mv,name,own,ev,m,x,xr,src,now,es,meth,t,txt,rfl,sg,hh,hn,hm,hf,hx,hes,hnow,hsz,k⟩:=h
  refine ⟨_,(zc (zE (i:=4) ZS.nd rfl (Or.inl rfl) (zq (YW T Fs) (hr.mono (by decide)) rfl (zl (zj (K:=K) (pv 0) rfl) (zl (pv 3) zb)))) (zc (z4 (Za (PW.pt (za2 (yi (zq (YI T Fs) (hr.mono (by decide)) rfl (zl (pv 0) (zl (pv 1) zb)))) (Q1 (zw (yd (K:=K) hr.units) (zj (K:=K) (zj (K:=K) (pv 1) rfl) rfl) (zq (zQ T Fs) (hr.mono (by decide)) rfl (zl yt zb)) (zz _)))))) (zc (zE (i:=5) ZS.nd rfl (Or.inl rfl) (zq (ze0 T Fs) (hr.mono (by decide)) rfl (zl (pv 0) (zl (pv 1) (zl (pv 3) (zl (pv 4) zb)))))) (zg (zm (YY (Qt T Fs) (hr.mono (by decide)) rfl (zl (zq (JA T Fs) (hr.mono (by decide)) rfl (zl (pv 0) (zl (pv 1) (zl (pv 2) (zl (pv 3) (zl (pv 5) zb)))))) (zl (zj (K:=K) (pv 5) rfl) zb)))))) zF) (zg (zm (YY (Qt T Fs) (hr.mono (by decide)) rfl (zl (zq (zcf T Fs) (hr.mono (by decide)) rfl (zl (pv 0) (zl (pv 1) (zl (pv 2) (zl (pv 4) zb))))) (zl (pv 4) zb))))))),fun hL=>?_⟩
  have hm0:=hm
  obtain ⟨a,dx,fv,xv,bv,v3,v4,v5,v6,v7,v8,rfl,ho,mf⟩:=hm.opened
  have hfi:=mf.fi
  rw [hf] at hfi
  obtain ⟨f1,lA,mA,tv,dx',rfl,h1,h2,h3,h4,h5,h6⟩:=hfi
  have hh':=hh
  obtain ⟨hA,nA,dxh,rfl,g1,_⟩:=hh'
  refine ⟨_,rfl,hA,_,dxh,_,_,rfl,g1,T.k_House,T.n_House_entries,Qv _ _ _ _,_,rfl,G,ev,es,now,rfl,sg,hes,fun v1 G1 H1 g1' r1=>?_⟩
  walk_at "nm"
  have r1:zL (Z7 c) G1 v1 (yl now es):=r1
  have hlen:(yl now es).length≤256:=Nat.le_trans (List.length_filter_le _ _) hsz
  have hun:∀e ∈ yl now es,now < e.until_:=fun e he=>by have:=(List.mem_filter.mp he).2;simpa using this
  refine ⟨fun r H2=>zC H1 H2∧(r=true↔((zgc name own t.host t.port&&decide (t.word=none))=true∧meth=ascii "REGISTER")),?_,fun r H2 ⟨s2,hr2⟩=>?_⟩
  ·refine ⟨_,rfl,_,rfl,_,_,name,own,ev,m,meth,t,txt,rfl,hh.mono g1'.hh,hn,hm0.mono g1'.s,hf,fun H2 s2=>⟨_,rfl,zR (fun w1=>?_) (fun w1=>⟨s2,?_⟩)⟩⟩
   ·have sA:=g1'.s.trans s2
    refine ⟨_,rfl,a,_,dx,_,_,rfl,sA _ _ ho,T.k_Message,T.n_Message_first,ye _ _ _ _ _ _ _ _ _,f1,_,dx',_,_,rfl,sA _ _ h1,T.k_First,T.n_First_method,yC _ _ _,"REGISTER",rfl,(by decide +kernel),fun p2 H3 s3 hp2 e2=>⟨mA,p2,_,_,rfl,rfl,SqL.of (s3 _ _ (sA _ _ h3)),SqL.of e2,_,rfl,s2.trans s3,?_⟩⟩
    rw [zB,decide_eq_true_eq]
    exact ⟨fun e=>⟨w1,e⟩,fun e=>e.2⟩
   ·exact ⟨fun q=>(by cases q),fun q=>absurd q.1 w1⟩
  ·have g2:=g1'.trans (zJ.more g1'.gh s2)
   refine zR (fun w1=>?_) (fun w1=>?_)
   ·have hc:=hr2.mp w1
    unfold zhp at k
    rw [if_pos hc] at k
    obtain ⟨b1,b2,b3⟩:=zgr name own m now (yl now es) hlen hun
    refine ⟨_,rfl,_,rfl,_,rfl,_,rfl,G1,_,_,v1,name,own,ev,m,_,now,rfl,g2.gh,hh.mono g2.hh,hn,hm0.mono g1'.gg,r1,hnow,hlen,fun v3 G3 H3 g3 r3=>?_⟩
    walk_at "nm"
    have g23:=g2.trans g3
    refine ⟨_,rfl,_,rfl,_,rfl,_,rfl,_,rfl,G3,_,_,v3,name,own,ev,m,x,xr,src,now,_,_,meth,t,txt,rfl,g3.gh,hh.mono g23.hh,hm0.mono g23.gg,hf,hx,r3,b1,b2,b3,fun v4 G4 H4 g4 r4=>?_⟩
    have g24:=g23.trans g4
    obtain ⟨ra,rev,rdx,rfl,y1,y2⟩:=r3.mono g4.gg
    refine ⟨_,rfl,ra,_,rdx,_,_,rfl,g4.gh _ _ y1,T.k_Registration,T.n_Registration_entries,Yc _ _,fun o edx no ndx ne=>⟨o,edx,_,_,rfl,za,fun H10 q1 he=>⟨rfl,zpN g24 r4 y2 k o edx no ndx H10 q1 he⟩⟩⟩
   ·walk_at "nx"
    have hc:¬ _:=fun q=>w1 (hr2.mpr q)
    unfold zhp at k
    rw [if_neg hc] at k
    refine ⟨_,rfl,_,rfl,_,rfl,_,rfl,G1,_,_,v1,name,own,ev,m,x,xr,src,_,meth,t,txt,rfl,g2.gh,hh.mono g2.hh,hn,hm0.mono g1'.gg,hf,hx,r1,fun v4 G4 H4 g4 r4=>?_⟩
    refine ⟨_,rfl,fun o edx no ndx ne=>⟨o,edx,_,_,rfl,za,fun H10 q1 he=>⟨rfl,zpN (g2.trans g4) r4 (Z5 g4.gg r1) k o edx no ndx H10 q1 he⟩⟩⟩
theorem zcj:yG P w K mg base 10 "message_outcome" ["house","message","source","now"] (zbU c):=by
 refine Fs.d_message_outcome.ok zb3 zcA (fun vs H Q E h=>?_) (fun f cdv A outer s H vs Q E hr h=>?_)
 ·obtain ⟨G,hv,mv,name,own,ev,m,src,now,es,rfl,_⟩:=h;rfl
 ·obtain ⟨G,hv,mv,name,own,ev,m,src,now,es,rfl,sg,hh,hn,hm,hes,hnow,hsz,k⟩:=h
  refine ⟨_,(zc (z4 (yi (zq (zck T Fs) (hr.mono (by decide)) rfl (zl (pv 1) zb))) (zg (zm (zq (zcg T Fs) (hr.mono (by decide)) rfl (zl (pv 0) (zl (pv 1) (zl (pv 2) (zl (pv 3) zb))))))) zF) (zg (zm (YY (Qt T Fs) (hr.mono (by decide)) rfl (zl (zq (zdb T Fs) (hr.mono (by decide)) rfl (zl (pv 0) (zl (pv 1) zb))) (zl (zj (K:=K) (pv 0) rfl) zb)))))),fun hL=>?_⟩
  obtain ⟨line,r,hmo⟩:=hm.raw
  obtain ⟨x,xr,hx⟩:=hm.vias
  refine ⟨_,rfl,G,_,line,_,_,r,rfl,sg,hmo,fun H1 s1=>⟨_,rfl,zR (fun w1=>?_) (fun w1=>?_)⟩⟩
  ·cases hf:m.first with
   | answer=>rw [hf] at w1;cases w1
   | request meth t txt=>
    have:zdJ name own es m src now=zhp name own m x src now es meth t txt:=by unfold zdJ;rw [hf,hx]
    rw [this] at k
    have g1:=zJ.more sg s1
    exact ⟨_,rfl,_,rfl,_,rfl,_,rfl,G,_,_,name,own,ev,m,x,xr,src,now,es,meth,t,txt,rfl,g1.gh,hh.mono s1,hn,hm,hf,hx,hes,hnow,hsz,fun v4 G4 H4 g4 r4=>k v4 G4 H4 (g1.trans g4) r4⟩
  ·walk_at "nx"
   cases hf:m.first with
   | request meth t txt=>rw [hf] at w1;exact absurd rfl w1
   | answer=>
    have:zdJ name own es m src now=(QB own m,es):=by unfold zdJ;rw [hf]
    rw [this] at k
    have g1:=zJ.more sg s1
    have hh':=hh
    obtain ⟨hA,nA,dxh,rfl,gg1,_⟩:=hh'
    refine ⟨_,rfl,_,rfl,G,_,_,name,own,ev,m,rfl,g1.gh,hh.mono s1,hm,hf,fun v4 G4 H4 g4 r4=>?_⟩
    have g14:=g1.trans g4
    refine ⟨_,rfl,hA,_,dxh,_,_,rfl,g14.hh _ _ gg1,T.k_House,T.n_House_entries,Qv _ _ _ _,fun o edx no ndx ne=>⟨o,edx,_,_,rfl,za,fun H10 q1 he=>⟨rfl,zpN g14 r4 (Z5 g4.gg hes) k o edx no ndx H10 q1 he⟩⟩⟩
end
section
variable {P:Program} {w:World} {K:PySem.W.Frag} {mg:Str→Option Value} {base:Heap} {c:Cl} {le ln:Addr} (T:Txt K mg c le ln) (Fs:YM K mg c)
noncomputable def zkU:HO→Prop
 | .ins _ _ _=>False
 | _=>True
structure Stp (G H G' H':Hp):Prop where
 gg:zC G G'
 gh:zC G' H'
 keep:∀b o,H b=some o→zkU o→H' b=some o
 sep:∀b,G b=none→H b≠none→G' b=none
 old:∀b,H b≠none→H' b≠none
theorem yJ {G H G' H':Hp} (g:zJ G H G' H'):Stp G H G' H':=⟨g.gg,g.gh,fun b o e _=>g.hh b o e,g.sep,fun _ h=>g.hh.some' h⟩
theorem Stp.trans {G H G1 H1 G2 H2:Hp} (a:Stp G H G1 H1) (b:Stp G1 H1 G2 H2):Stp G H G2 H2:=
 ⟨a.gg.trans b.gg,b.gh,fun c o e n=>b.keep c o (a.keep c o e n) n,fun c h1 h2=>b.sep c (a.sep c h1 h2) (a.old c h2),fun c h=>b.old c (a.old c h)⟩
theorem Stp.put {G H G' H':Hp} {a C dx C' dx':Addr} {fs fs':List (Str × V)} (t:Stp G H G' H') (h:H' a=some (.ins C dx fs)) (n:G' a=none):Stp G H G' (upd H' a (.ins C' dx' fs')):=by
 refine ⟨t.gg,fun b o e=>?_,fun b o e ni=>?_,t.sep,fun b hb=>?_⟩
 ·rw [zv (zy e n)];exact t.gh b o e
 ·have:=t.keep b o e ni
  by_cases hb:b=a
  ·subst hb;rw [h] at this;cases this;exact ni.elim
  ·rw [zv hb];exact this
 ·by_cases hb':b=a
  ·subst hb';rw [za];simp
  ·rw [zv hb'];exact t.old b hb
noncomputable def zsi (c:Cl) (G H:Hp) (hA:Addr) (h:Sa39.House):Prop:=∃ev nA dxh,H hA=some (.ins c.House dxh (Ys (.ref nA) (.int (h.own.host:Nat)) (.int (h.own.port:Nat)) ev))∧zD G nA h.name∧h.name.length≤64∧h.own.port≤65535∧addressOf h.name=none∧zL (Z7 c) G ev h.entries.reverse∧h.entries.length≤256∧G hA=none
theorem zsi.open {c:Cl} {G H:Hp} {hA:Addr} {h:Sa39.House} (s:zC G H) (x:zsi c G H hA h):∃ev,zgG c H (.ref hA) h.name h.own ev∧addressOf h.name=none∧zL (Z7 c) G ev h.entries.reverse∧h.entries.length≤256∧G hA=none:=by
 obtain ⟨ev,nA,dxh,h1,h2,h3,h4,h5,h6,h7,h8⟩:=x
 exact ⟨ev,⟨hA,nA,dxh,rfl,h1,s _ _ h2,h3,h4⟩,h5,h6,h7,h8⟩
noncomputable def zig (c:Cl) (G H:Hp) (dA:Addr):Abs→Prop
 | none=>G dA=none∧∃dx,H dA=some (.ins c.Desk dx (zaG .non))
 | some h=>G dA=none∧∃dx hA,H dA=some (.ins c.Desk dx (zaG (.ref hA)))∧zsi c G H hA h∧hA≠dA
theorem zig.go {c:Cl} {G H G' H':Hp} {dA:Addr} {s:Abs} (g:zJ G H G' H') (d:zig c G H dA s):zig c G' H' dA s:=by
 cases s with
 | none=>
  obtain ⟨h0,dx,h1⟩:=d
  exact ⟨g.sep _ h0 (by rw [h1];simp),dx,g.hh _ _ h1⟩
 | some h=>
  obtain ⟨h0,dx,hA,h1,⟨ev,nA,dxh,e1,e2,e3,e4,e5,e6,e7,e8⟩,h7⟩:=d
  exact ⟨g.sep _ h0 (by rw [h1];simp),dx,hA,g.hh _ _ h1,⟨ev,nA,dxh,g.hh _ _ e1,g.gg _ _ e2,e3,e4,e5,Z5 g.gg e6,e7,g.sep _ e8 (by rw [e1];simp)⟩,h7⟩
theorem zig.turn {c:Cl} {G H:Hp} {dA p:Addr} {s:Abs} {xs:List V} {o:HO} (d:zig c G H dA s) (h:H p=some (.lst xs)):zig c G (upd H p o) dA s:=by
 have ne:∀{a C dx:Addr} {fs:List (Str × V)},H a=some (.ins C dx fs)→upd H p o a=some (.ins C dx fs):=by
  intro a C dx fs e
  rw [zv (zqZ e h (by intro q;cases q))];exact e
 cases s with
 | none=>
  obtain ⟨h0,dx,h1⟩:=d
  exact ⟨h0,dx,ne h1⟩
 | some h=>
  obtain ⟨h0,dx,hA,h1,⟨ev,nA,dxh,e1,e2⟩,h7⟩:=d
  exact ⟨h0,dx,hA,ne h1,⟨ev,nA,dxh,ne e1,e2⟩,h7⟩
theorem zr7 {G H H1:Hp} (sg:zC G H) (s:zC H H1) (S:List Addr) (hS:∀b ∈ S,H b=none):∃G',zJ G H G' H1∧(∀b ∈ S,G' b=H1 b)∧∀b,b ∉ S→G' b=G b:=by
 refine ⟨fun b=>if b ∈ S then H1 b else G b,⟨fun b o e=>?_,s,fun b o e=>?_,fun b h1 h2=>?_⟩,fun b hb=>if_pos hb,fun b hb=>if_neg hb⟩
 ·have:b ∉ S:=fun hb=>by rw [sg.free (hS b hb)] at e;cases e
  show (if b ∈ S then H1 b else G b)=some o
  rw [if_neg this];exact e
 ·have e':(if b ∈ S then H1 b else G b)=some o:=e
  split at e'
  ·exact e'
  ·exact s _ _ (sg _ _ e')
 ·have:b ∉ S:=fun hb=>h2 (hS b hb)
  show (if b ∈ S then H1 b else G b)=none
  rw [if_neg this];exact h1
noncomputable abbrev zaP (H:Hp) (p:Addr) (l:List Int):Prop:=H p=some (.lst (l.map V.int))
noncomputable abbrev zg2 (c:Cl):Sp:=fun vs H Q _=>∃p dx nA nm v2 v3,vs=[.ref p,.ref nA,v2,v3]∧H p=some (.ins c.House dx [])∧zD H nA nm∧∀qn qe H',(∀b o,H b=some o→b≠p→H' b=some o)→H' p=some (.ins c.House dx (Ys (.ref qn) v2 v3 (.ref qe)))→zD H' qn (low nm)→H' qe=some (.lst [])→H qn=none→H qe=none→Q .non H'
noncomputable abbrev ziH (c:Cl):Sp:=fun vs H Q _=>∃p dx,vs=[.ref p]∧H p=some (.ins c.Desk dx [])∧∀H',(∀b o,H b=some o→b≠p→H' b=some o)→H' p=some (.ins c.Desk dx (zaG .non))→Q .non H'
theorem zog (v0 v1 v2 v3:V):yH "entries" v3 (yH "port" v2 (yH "address" v1 (yH "name" v0 [])))=Ys v0 v1 v2 v3:=by rfl
include T Fs
theorem zhA:JV P w K mg base 3 "House" c.House ["self","name","address","port"] (zg2 c):=by
 refine Fs.d_House_init.ok zhg zh5 (fun vs H Q E h=>?_) (fun f cdv A outer s H vs Q E hr h=>?_)
 ·obtain ⟨p,dx,nA,nm,v2,v3,rfl,_⟩:=h;rfl
 ·obtain ⟨p,dx,nA,nm,v2,v3,rfl,hp,hrow,k⟩:=h
  refine ⟨_,(zc (zM (K:=K) (pv 0) (zq (zei T Fs) (hr.mono (by decide)) rfl (zl (pv 1) zb)) rfl) (zc (zM (K:=K) (pv 0) (pv 2) rfl) (zc (zM (K:=K) (pv 0) (pv 3) rfl) (zg (zM (K:=K) (pv 0) (zO zb) rfl))))),fun hL=>?_⟩
  refine ⟨_,rfl,nA,nm,rfl,hrow,fun q H1 s1 hq e1=>⟨_,rfl,p,_,dx,_,rfl,s1 _ _ hp,T.k_House,T.n_House_name,(by decide),_,rfl,_,rfl,p,_,dx,_,rfl,za,T.k_House,T.n_House_address,(Nat.lt_of_le_of_lt (pl_ (Nat.zero_le 0)) (by decide)),_,rfl,_,rfl,p,_,dx,_,rfl,za,T.k_House,T.n_House_port,(Nat.lt_of_le_of_lt (pl_ (pl_ (Nat.zero_le 0))) (by decide)),Nat.zero_le _,fun qe hqe=>⟨_,rfl,p,_,dx,_,rfl,(zd hqe) _ _ za,T.k_House,T.n_House_entries,(Nat.lt_of_le_of_lt (pl_ (pl_ (pl_ (Nat.zero_le 0)))) (by decide)),?_⟩⟩⟩
  have nqp:q≠p:=by
   rintro rfl;rw [hp] at hq;cases hq
  have neq:qe≠p:=by
   rintro rfl;rw [za] at hqe;cases hqe
  have hqe':H1 qe=none:=by
   rw [zv neq,zv neq,zv neq] at hqe
   exact hqe
  have nqe:q≠qe:=by
   rintro rfl;rw [e1] at hqe';cases hqe'
  refine k q qe _ (fun b o e hb=>?_) ?_ ?_ ?_ hq (s1.free hqe')
  ·rw [zv hb,zv (zy (s1 b o e) hqe'),zv hb,zv hb,zv hb]
   exact s1 b o e
  ·rw [za,zog]
  ·show upd _ p _ q=_
   rw [zv nqp,zv nqe,zv nqp,zv nqp,zv nqp]
   exact e1
  ·rw [zv neq];exact za
theorem zi3:JV P w K mg base 1 "Desk" c.Desk ["self"] (ziH c):=by
 refine Fs.d_Desk_init.ok ziP zjK (fun vs H Q E h=>?_) (fun f cdv A outer s H vs Q E hr h=>?_)
 ·obtain ⟨p,dx,rfl,_⟩:=h;rfl
 ·obtain ⟨p,dx,rfl,hp,k⟩:=h
  refine ⟨_,(zg (zM (K:=K) (pv 0) zY rfl)),fun hL=>?_⟩
  refine ⟨_,rfl,p,_,dx,_,rfl,hp,T.k_Desk,T.n_Desk_house,(by decide),k _ (fun b o e hb=>?_) ?_⟩
  ·rw [zv hb];exact e
  ·exact za
end
section
variable {P:Program} {w:World} {K:PySem.W.Frag} {mg:Str→Option Value} {base:Heap} {c:Cl} {le ln:Addr} (T:Txt K mg c le ln) (Fs:YM K mg c)
theorem Yu {H:Hp} {a b:Addr} {o:HO} (h:upd H a o b=none):b≠a∧H b=none:=by
 have n:b≠a:=by
  rintro rfl;rw [za] at h;cases h
 rw [zv n] at h
 exact ⟨n,h⟩
theorem zoB {b:B} (h:addressOf b=none):addressOf (low b)=none:=by
 cases e:addressOf (low b) with
 | none=>rfl
 | some n=>
  have hall:∀c ∈ low b,digit c=true∨c=46:=by
   unfold addressOf at e
   cases e1:(splitBy 46 (low b) []).mapM (number 255) with
   | none=>rw [e1] at e;cases e
   | some l=>
    have hp:∀x ∈ splitBy 46 (low b) [],x.all digit=true:=by
     intro x hx
     have e':=Zh.mp e1
     have:number 255 x ∈ l.map some:=e' ▸ List.mem_map.mpr ⟨x,hx,rfl⟩
     obtain ⟨y,_,hy⟩:=List.mem_map.mp this
     unfold number at hy
     split at hy
     ·rename_i q;exact q.2.2.1
     ·cases hy
    have h1:=(Jk 46 (low b) [] hp).1
    rw [List.all_eq_true] at h1
    intro c hc
    have:=h1 c hc
    rw [Bool.or_eq_true,beq_iff_eq] at this
    exact this
  have:low b=b:=by
   unfold low at hall ⊢
   refine (List.map_congr_left fun c hc=>?_).trans (List.map_id' b)
   by_cases g:great c=true
   ·have:=hall _ (List.mem_map.mpr ⟨c,hc,rfl⟩)
    rw [if_pos g] at this
    unfold great at g
    unfold digit at this
    simp at g this
    omega
   ·rw [if_neg g]
  rw [this,h] at e
  cases e
noncomputable def zaK (s:Abs) (nm:B) (adr port:Nat):Abs × List Int:=
 if (YK nm&&(decide (1≤port)&&decide (port≤65535)))=true then (some ⟨low nm,⟨adr,port⟩,[]⟩,[0]) else (s,[-2])
noncomputable abbrev zg5 (c:Cl):Sp:=fun vs H Q _=>∃G dA s nA nm,∃adr port:Nat,vs=[.ref dA,.int adr,.int port,.ref nA]∧zC G H∧zig c G H dA s∧zD H nA nm∧nm.length≤100000∧
 ∀p G' H',Stp G H G' H'→H p=none→zaP H' p (zaK s nm adr port).2→zig c G' H' dA (zaK s nm adr port).1→Q (.ref p) H'
theorem zkW {b:B} (h:YK b=true):b.length≤64∧addressOf b=none:=by
 unfold YK at h
 simp only [Bool.and_eq_true,decide_eq_true_eq] at h
 exact ⟨h.1.2,h.2.1⟩
include T Fs
theorem zhC:zml P w K mg base 6 "begin" c.Desk ["self","address","port","name"] (zg5 c):=by
 refine Fs.d_Desk_begin.ok zhj zh8 (fun vs H Q E h=>?_) (fun f cdv A outer s H vs Q E hr h=>?_)
 ·obtain ⟨G,dA,s,nA,nm,adr,port,rfl,_⟩:=h;rfl
 ·obtain ⟨G,dA,st,nA,nm,adr,port,rfl,sg,hd,hrow,hz,k⟩:=h
  refine ⟨_,(zc (z4 (Za (PW.pt (Z9 (yT (yi (zq (zgx T Fs) (hr.mono (by decide)) rfl (zl (pv 3) zb)))) (Zm (yT (yi (zq (zc7 T Fs) (hr.mono (by decide)) rfl (zl (pv 2) zb)))))))) (zg (zm (zO (zl (zN T.c_OUT_OF_RANGE rfl) zb)))) zF) (zc (zM (K:=K) (pv 0) (YY (zhA T Fs) (hr.mono (by decide)) rfl (zl (pv 3) (zl (pv 1) (zl (pv 2) zb)))) rfl) (zg (zm (zO (zl zu zb)))))),fun hL=>?_⟩
  refine ⟨fun r H2=>zC H H2∧(r=true↔¬ (YK nm&&(decide (1≤port)&&decide (port≤65535)))=true),?_,fun r H1 ⟨s1,hr1⟩=>?_⟩
  ·refine ⟨_,rfl,nA,nm,rfl,hrow,hz,fun H1 s1=>⟨_,rfl,zR (fun w1=>⟨s1,?_⟩) (fun w1=>?_)⟩⟩
   ·have:YK nm=false:=by simpa using w1
    rw [this];simp
   ·have:YK nm=true:=by simpa using w1
    refine ⟨_,rfl,_,rfl,_,rfl,s1,?_⟩
    rw [this,Bool.true_and]
    have e:(decide ((1:Int)≤((port:Nat):Int))&&decide (((port:Nat):Int)≤65535))=(decide (1≤port)&&decide (port≤65535)):=by
     rw [Bool.eq_iff_iff];simp;omega
    rw [e]
    cases (decide (1≤port)&&decide (port≤65535)) <;> simp
  ·have g1:=zJ.more sg s1
   refine zR (fun w1=>?_) (fun w1=>?_)
   ·have hn:=hr1.mp w1
    refine ⟨by rw [sizeLine_eq];simp,fun p hp=>?_⟩
    have g2:=g1.trans (zJ.more g1.gh (zd (o:=.lst [.int (-2)]) hp))
    have:zaK st nm adr port=(st,[-2]):=by unfold zaK;rw [if_neg hn]
    rw [this] at k
    exact k p G _ (yJ g2) (s1.free hp) za (hd.go g2)
   ·walk_at "nx"
    have hy:(YK nm&&(decide (1≤port)&&decide (port≤65535)))=true:=Classical.not_not.mp fun q=>w1 (hr1.mpr q)
    have:zaK st nm adr port=(some ⟨low nm,⟨adr,port⟩,[]⟩,[0]):=by unfold zaK;rw [if_pos hy]
    rw [this] at k
    rw [Bool.and_eq_true,Bool.and_eq_true,decide_eq_true_eq,decide_eq_true_eq] at hy
    obtain ⟨hnm,hp1,hp2⟩:=hy
    obtain ⟨hnl,hna⟩:=zkW hnm
    obtain ⟨ddx,dv,hdA,hdG⟩:∃ddx dv,H dA=some (.ins c.Desk ddx (zaG dv))∧G dA=none:=by
     cases st with
     | none=>obtain ⟨h0,dx,h1⟩:=hd;exact ⟨dx,_,h1,h0⟩
     | some h=>obtain ⟨h0,dx,hA,h1,_⟩:=hd;exact ⟨dx,_,h1,h0⟩
    refine ⟨_,rfl,_,rfl,_,rfl,fun x xd nx nxd nee=>⟨x,xd,nA,nm,_,_,rfl,za,?_,fun qn qe H2 q1 q2 q3 q4 q5 q6=>⟨rfl,?_⟩⟩⟩
    ·show upd _ x _ nA=_
     rw [zv (zy (s1 _ _ hrow) nx),zv (zy (s1 _ _ hrow) nxd)]
     exact s1 _ _ hrow
    have s2:=zdd nx nxd q1
    have nqe:H1 qe=none:=(Yu (Yu q6).2).2
    have nqx:qe≠x:=(Yu q6).1
    have nqn:H1 qn=none:=(Yu (Yu q5).2).2
    have nqnx:qn≠x:=(Yu q5).1
    obtain ⟨G2,gA,gB,gC⟩:=zr7 g1.gh s2 [qn,qe] (by
     intro b hb
     rcases List.mem_cons.mp hb with rfl | hb
     ·exact nqn
     ·rcases List.mem_cons.mp hb with rfl | hb
      ·exact nqe
      ·cases hb)
    have g2:=g1.trans gA
    have hdA2:=g2.hh _ _ hdA
    refine ⟨_,rfl,dA,_,ddx,_,rfl,hdA2,T.k_Desk,T.n_Desk_house,(by show 1 < 1000;decide),?_⟩
    have hxd:x≠dA:=by
     rintro rfl;rw [s1 _ _ hdA] at nx;cases nx
    have hdG2:=g2.sep dA hdG (by rw [hdA];simp)
    have t3:Stp G H G2 (upd H2 dA (.ins c.Desk ddx (zaG (.ref x)))):=(yJ g2).put hdA2 hdG2
    have nxG:G2 x=none:=by
     rw [gC x (by simp [nqx.symm,nqnx.symm])]
     exact g1.gh.free nx
    have dd:zig c G2 (upd H2 dA (.ins c.Desk ddx (zaG (.ref x)))) dA (some ⟨low nm,⟨adr,port⟩,[]⟩):=by
     refine ⟨hdG2,ddx,x,za,⟨.ref qe,qn,xd,(zv hxd).trans q2,(gB qn (by simp)).trans q3,?_,hp2,zoB hna,⟨qe,[],rfl,(gB qe (by simp)).trans q4,.nil⟩,by simp,nxG⟩,hxd⟩
     show (low nm).length≤64
     unfold low
     rw [List.length_map];exact hnl
    have e3:yH "house" (.ref x) (zaG dv)=zaG (.ref x):=rfl
    generalize hH3:upd H2 dA (.ins c.Desk ddx (zaG (.ref x)))=H3 at t3 dd
    rw [e3,hH3]
    refine ⟨by rw [sizeLine_eq];simp,fun p hp=>?_⟩
    have g4:=zJ.more t3.gh (zd (o:=.lst [.int 0]) hp)
    have nHp:H p=none:=by
     cases e:H p with
     | none=>rfl
     | some o=>exact absurd hp (t3.old p (by rw [e];simp))
    exact k p _ _ (t3.trans (yJ g4)) nHp za (dd.go g4)
end
section
variable {P:Program} {w:World} {K:PySem.W.Frag} {mg:Str→Option Value} {base:Heap} {c:Cl} {le ln:Addr} (T:Txt K mg c le ln) (Fs:YM K mg c)
noncomputable def YF:Out→B
 | none=>[]
 | some (b,_)=>b
noncomputable def zbB:Out→List Int
 | none=>[0]
 | some (b,p)=>if b=[] then [0] else [(b.length:Int),(p.host:Int),(p.port:Int)]++b.map fun n:Nat=>(n:Int)
noncomputable def Qq (s:Abs) (src sport now:Nat) (most:Int) (row:B):Abs × List Int:=match s with
 | none=>(none,[-9])
 | some h=>if ((decide (0≤most)&&decide (most≤65536))&&(decide (1≤sport)&&decide (sport≤65535)))=true then
   (match msgOf row with
   | none=>(some h,[0])
   | some m=>if most < ((YF (zdJ h.name h.own h.entries.reverse m src now).1).length:Int) then (some h,[-1])
    else (some {h with entries:=(zdJ h.name h.own h.entries.reverse m src now).2.reverse},zbB (zdJ h.name h.own h.entries.reverse m src now).1))
  else (some h,[-2])
noncomputable abbrev zfW (c:Cl):Sp:=fun vs H Q _=>∃G dA s rA row,∃src sport now:Nat,∃most:Int,vs=[.ref dA,.int src,.int sport,.int now,.int most,.ref rA]∧zC G H∧zig c G H dA s∧zD G rA row∧now < 2 ^ 32∧
 ∀p G' H',Stp G H G' H'→H p=none→zaP H' p (Qq s src sport now most row).2→zig c G' H' dA (Qq s src sport now most row).1→Q (.ref p) H'
theorem SeO.open {c:Cl} {G:Hp} {v:V} {out:Out} (h:SeO c G v out):∃a rA dx,∃host port:Nat,v=.ref a∧G a=some (.ins c.Sending dx (Z4 (.ref rA) (.int (host:Nat)) (.int (port:Nat))))∧zD G rA (YF out)∧(YF out=[]→zbB out=[0])∧(YF out≠[]→zbB out=[((YF out).length:Int),(host:Int),(port:Int)]++(YF out).map fun n:Nat=>(n:Int)):=by
 cases out with
 | none=>
  obtain ⟨a,rA,dx,e,h1,h2⟩:=h
  exact ⟨a,rA,dx,0,0,e,h1,h2,fun _=>rfl,fun q=>absurd rfl q⟩
 | some x=>
  obtain ⟨b,p⟩:=x
  obtain ⟨a,rA,dx,e,h1,h2⟩:=h
  exact ⟨a,rA,dx,p.host,p.port,e,h1,h2,fun q=>if_pos q,fun q=>if_neg q⟩
theorem zkX (name:B) (own:Sa39.Place) (es:List Sa39.Entry) (m:Msg) (src now:Nat) (h:es.length≤256):(zdJ name own es m src now).2.length≤256:=by
 unfold zdJ
 have hlen:(yl now es).length≤256:=Nat.le_trans (List.length_filter_le _ _) h
 have hun:∀e ∈ yl now es,now < e.until_:=fun e he=>by have:=(List.mem_filter.mp he).2;simpa using this
 split
 ·unfold zhp
  split
  ·exact (zgr name own m now (yl now es) hlen hun).2.1
  ·exact hlen
 ·exact h
 ·exact h
include T Fs
theorem zf8:zml P w K mg base 14 "packet" c.Desk ["self","source","source_port","now","most","row"] (zfW c):=by
 refine Fs.d_Desk_packet.ok ZE zgm (fun vs H Q E h=>?_) (fun f cdv A outer s H vs Q E hr h=>?_)
 ·obtain ⟨G,dA,s,rA,row,src,sport,now,most,rfl,_⟩:=h;rfl
 ·obtain ⟨G,dA,st,rA,row,src,sport,now,most,rfl,sg,hd,hrow,hnow,k⟩:=h
  refine ⟨_,(zc (zE (i:=6) ZE.nd rfl (Or.inl rfl) (zj (K:=K) (pv 0) rfl)) (zc (z4 (zw YG (pv 6) zY (zz _)) (zg (zm (zO (zl (zN T.c_NO_HOUSE rfl) zb)))) zF) (zc (z4 (Za (PW.pt (Z9 (yT (zeh ZG ZG zu (pv 4) (zN T.c_MOST_OUT rfl))) (Zm (yT (yi (zq (zc7 T Fs) (hr.mono (by decide)) rfl (zl (pv 2) zb)))))))) (zg (zm (zO (zl (zN T.c_OUT_OF_RANGE rfl) zb)))) zF) (zc (zE (i:=7) ZE.nd rfl (Or.inl rfl) (zq (zhu T Fs) (hr.mono (by decide)) rfl (zl (pv 5) zb))) (zc (z4 (zw YG (pv 7) zY (zz _)) (zg (zm (zO (zl zu zb)))) zF) (zc (zE (i:=8) ZE.nd rfl (Or.inl rfl) (zq (zcj T Fs) (hr.mono (by decide)) rfl (zl (pv 6) (zl (pv 7) (zl (pv 1) (zl (pv 3) zb)))))) (zc (zE (i:=9) ZE.nd rfl (Or.inl rfl) (zj (K:=K) (pv 8) rfl)) (zc (z4 (zw zhs (yo (zx (K:=K)) rfl T.b_len PySem.boot_len (zl (zj (K:=K) (pv 9) rfl) zb)) (pv 4) (zz _)) (zg (zm (zO (zl (zN T.c_TOO_LITTLE_ROOM rfl) zb)))) zF) (zc (zM (K:=K) (pv 6) (zj (K:=K) (pv 8) rfl) rfl) (zc (z4 (zw (yd (K:=K) hr.units) (zj (K:=K) (pv 9) rfl) (zO zb) (zz _)) (zg (zm (zO (zl zu zb)))) zF) (zg (zm (zU yq (zO (zl (yo (zx (K:=K)) rfl T.b_len PySem.boot_len (zl (zj (K:=K) (pv 9) rfl) zb)) (zl (zj (K:=K) (pv 9) rfl) (zl (zj (K:=K) (pv 9) rfl) zb)))) (zj (K:=K) (pv 9) rfl)))))))))))))),fun hL=>?_⟩
  cases st with
  | none=>
   obtain ⟨h0,ddx,h1⟩:=id hd
   refine ⟨_,rfl,dA,_,ddx,_,_,rfl,h1,T.k_Desk,T.n_Desk_house,rfl,?_⟩
   walk_at "nm"
   refine ⟨_,rfl,rfl,_,rfl,zdL ?_⟩
   refine ⟨by rw [sizeLine_eq];simp,fun p hp=>?_⟩
   have g2:=zJ.more sg (zd (o:=.lst [.int (-9)]) hp)
   exact k p G _ (yJ g2) hp za (hd.go g2)
  | some h=>
   obtain ⟨h0,ddx,hA,h1,hs,hne⟩:=id hd
   obtain ⟨ev,nA,dxh,hk1,hk2,hk3,hk4,hna,hes,hel,hG⟩:=id hs
   have hh:zgG c H (.ref hA) h.name h.own ev:=⟨hA,nA,dxh,rfl,hk1,sg _ _ hk2,hk3,hk4⟩
   refine ⟨_,rfl,dA,_,ddx,_,_,rfl,h1,T.k_Desk,T.n_Desk_house,rfl,?_⟩
   walk_at "nm"
   refine ⟨_,rfl,rfl,_,rfl,zkp ?_⟩
   walk_at "nx"
   have e:(decide ((1:Int)≤((sport:Nat):Int))&&decide (((sport:Nat):Int)≤65535))=(decide (1≤sport)&&decide (sport≤65535)):=by
    rw [Bool.eq_iff_iff];simp;omega
   refine ⟨fun r H2=>H2=H∧(r=true↔¬ ((decide (0≤most)&&decide (most≤65536))&&(decide (1≤sport)&&decide (sport≤65535)))=true),?_,fun r H1 ⟨e1,hr1⟩=>?_⟩
   ·refine ⟨_,rfl,_,_,rfl,rfl,_,rfl,zR (fun w1=>⟨_,_,rfl,rfl,_,rfl,zR (fun w2=>⟨rfl,?_⟩) (fun w2=>⟨_,rfl,_,rfl,_,rfl,rfl,?_⟩)⟩) (fun w1=>⟨_,rfl,zdL ⟨rfl,?_⟩⟩)⟩
    ·have e2:decide (most≤65536)=false:=by simpa using w2
     rw [e2];simp
    ·have e2:decide (most≤65536)=true:=by simpa using w2
     rw [e,e2,w1]
     cases (decide (1≤sport)&&decide (sport≤65535)) <;> simp
    ·have e1:decide (0≤most)=false:=by simpa using w1
     rw [e1];simp
   ·subst e1
    refine zR (fun w1=>?_) (fun w1=>?_)
    ·have hn:=hr1.mp w1
     refine ⟨by rw [sizeLine_eq];simp,fun p hp=>?_⟩
     have g2:=zJ.more sg (zd (o:=.lst [.int (-2)]) hp)
     have:Qq (some h) src sport now most row=(some h,[-2]):=by unfold Qq;simp only;rw [if_neg hn]
     rw [this] at k
     exact k p G _ (yJ g2) hp za (hd.go g2)
    ·walk_at "nx"
     have hy:((decide (0≤most)&&decide (most≤65536))&&(decide (1≤sport)&&decide (sport≤65535)))=true:=Classical.not_not.mp fun q=>w1 (hr1.mpr q)
     have hpk:Qq (some h) src sport now most row=(match msgOf row with
       | none=>(some h,[0])
       | some m=>if most < ((YF (zdJ h.name h.own h.entries.reverse m src now).1).length:Int) then (some h,[-1])
        else (some {h with entries:=(zdJ h.name h.own h.entries.reverse m src now).2.reverse},zbB (zdJ h.name h.own h.entries.reverse m src now).1)):=by unfold Qq;simp only;rw [if_pos hy]
     rw [hpk] at k
     have hmost:most≤65536:=by
      rw [Bool.and_eq_true,Bool.and_eq_true,decide_eq_true_eq,decide_eq_true_eq] at hy
      exact hy.1.2
     refine ⟨_,rfl,G,rA,row,rfl,sg,hrow,fun v2 G2 H2 g2 r2=>?_⟩
     walk_at "nm"
     cases em:msgOf row with
     | none=>
      rw [em] at r2 k
      cases (show v2=.non from r2)
      refine ⟨_,rfl,rfl,_,rfl,zdL ?_⟩
      refine ⟨by rw [sizeLine_eq];simp,fun p hp=>?_⟩
      have g3:=g2.trans (zJ.more g2.gh (zd (o:=.lst [.int 0]) hp))
      exact k p G2 _ (yJ g3) (g2.hh.free hp) za (hd.go g3)
     | some m=>
      rw [em] at r2 k
      have r2:ZR c G2 v2 m:=r2
      simp only at k
      have r2':=r2
      obtain ⟨mA,_,_,_,_,_,_,_,_,_,_,rfl,_⟩:=r2'.opened
      refine ⟨_,rfl,rfl,_,rfl,zkp ?_⟩
      walk_at "nx"
      have hel2:h.entries.reverse.length≤256:=by rw [List.length_reverse];exact hel
      refine ⟨_,rfl,_,rfl,_,rfl,_,rfl,G2,_,_,h.name,h.own,ev,m,src,now,h.entries.reverse,rfl,g2.gh,hh.mono g2.hh,hna,r2,Z5 g2.gg hes,hnow,hel2,fun v3 G3 H3 g3 r3=>?_⟩
      walk_at "nm"
      have hml:=zkX h.name h.own h.entries.reverse m src now hel2
      generalize zdJ h.name h.own h.entries.reverse m src now=R at r3 k hml
      obtain ⟨out,es'⟩:=R
      obtain ⟨oA,sv,oev,odx,rfl,o1,o2,o3⟩:=r3
      obtain ⟨sA,wA,sdx,host,port,rfl,y1,y2,y3,y4⟩:=o2.open
      have g13:=g2.trans g3
      refine ⟨_,rfl,oA,_,odx,_,_,rfl,g3.gh _ _ o1,T.k_Outcome,T.n_Outcome_sending,zdl _ _,?_⟩
      walk_at "nm"
      refine ⟨_,rfl,sA,_,sdx,_,_,rfl,g3.gh _ _ y1,T.k_Sending,T.n_Sending_row,Y0 _ _ _,wA,_,rfl,.inl (SqL.of (g3.gh _ _ y2)),_,rfl,_,_,rfl,rfl,_,rfl,zR (fun w3=>?_) (fun w3=>?_)⟩
      ·have w3':most < ((YF out).length:Int):=by simp only [zi] at w3;simpa using w3
       rw [if_pos w3'] at k
       refine ⟨by rw [sizeLine_eq];simp,fun p hp=>?_⟩
       have g4:=g13.trans (zJ.more g13.gh (zd (o:=.lst [.int (-1)]) hp))
       exact k p G3 _ (yJ g4) (g13.hh.free hp) za (hd.go g4)
      ·walk_at "nx"
       have w3':¬ most < ((YF out).length:Int):=by simp only [zi] at w3;simpa using w3
       rw [if_neg w3'] at k
       have k1:=g13.hh _ _ hk1
       have hG3:G3 hA=none:=g13.sep hA hG (by rw [hk1];simp)
       have hD3:G3 dA=none:=g13.sep dA h0 (by rw [h1];simp)
       refine ⟨_,rfl,oA,_,odx,_,_,rfl,g3.gh _ _ o1,T.k_Outcome,T.n_Outcome_entries,zdm _ _,_,rfl,hA,_,dxh,_,rfl,k1,T.k_House,T.n_House_entries,(by show 4 < 1000;decide),?_⟩
       have e3:yH "entries" oev (Ys (.ref nA) (.int (h.own.host:Nat)) (.int (h.own.port:Nat)) ev)=Ys (.ref nA) (.int (h.own.host:Nat)) (.int (h.own.port:Nat)) oev:=rfl
       rw [e3]
       have t4:Stp G H1 G3 (upd H3 hA (.ins c.House dxh (Ys (.ref nA) (.int (h.own.host:Nat)) (.int (h.own.port:Nat)) oev))):=(yJ g13).put k1 hG3
       have dd:zig c G3 (upd H3 hA (.ins c.House dxh (Ys (.ref nA) (.int (h.own.host:Nat)) (.int (h.own.port:Nat)) oev))) dA (some {h with entries:=es'.reverse}):=by
        refine ⟨hD3,ddx,hA,(zv hne.symm).trans (g13.hh _ _ h1),⟨oev,nA,dxh,za,g13.gg _ _ hk2,hk3,hk4,hna,?_,?_,hG3⟩,hne⟩
        ·show zL (Z7 c) G3 oev es'.reverse.reverse
         rw [List.reverse_reverse];exact o3
        ·show es'.reverse.length≤256
         rw [List.length_reverse];exact hml
       generalize upd H3 hA (.ins c.House dxh (Ys (.ref nA) (.int (h.own.host:Nat)) (.int (h.own.port:Nat)) oev))=H4 at t4 dd ⊢
       refine ⟨_,rfl,sA,_,sdx,_,_,rfl,t4.gh _ _ y1,T.k_Sending,T.n_Sending_row,Y0 _ _ _,Nat.zero_le _,fun q hq=>⟨wA,q,_,_,rfl,rfl,SqL.of ((zd hq) _ _ (t4.gh _ _ y2)),zgA,_,rfl,?_⟩⟩
       have g5:=zJ.more t4.gh (zd (o:=.lst []) hq)
       have t5:=t4.trans (yJ g5)
       have dd5:=dd.go g5
       generalize upd H4 q (.lst [])=H5 at g5 t5 dd5 ⊢
       have old5:∀{p:Addr},H5 p=none→H1 p=none:=by
        intro p hp
        cases e:H1 p with
        | none=>rfl
        | some o=>exact absurd hp (t5.old p (by rw [e];simp))
       refine zR (fun w4=>?_) (fun w4=>?_)
       ·have e4:YF out=[]:=by simpa using w4
        rw [y3 e4] at k
        refine ⟨by rw [sizeLine_eq];simp,fun p hp=>?_⟩
        have g6:=zJ.more t5.gh (zd (o:=.lst [.int 0]) hp)
        exact k p G3 _ (t5.trans (yJ g6)) (old5 hp) za (dd5.go g6)
       ·walk_at "nx"
        have e4:YF out≠[]:=by simpa using w4
        rw [y4 e4] at k
        refine ⟨_,rfl,sA,_,sdx,_,_,rfl,t5.gh _ _ y1,T.k_Sending,T.n_Sending_row,Y0 _ _ _,wA,_,rfl,.inl (SqL.of (t5.gh _ _ y2)),_,rfl,sA,_,sdx,_,_,rfl,t5.gh _ _ y1,T.k_Sending,T.n_Sending_address,zdj _ _ _,_,rfl,sA,_,sdx,_,_,rfl,t5.gh _ _ y1,T.k_Sending,T.n_Sending_port,zf9 _ _ _,by rw [sizeLine_eq];simp,fun q6 hq6=>?_⟩
        have g6:=zJ.more t5.gh (zd (o:=.lst [.int ((rv (YF out)).length:Nat),.int (host:Nat),.int (port:Nat)]) hq6)
        have t6:=t5.trans (yJ g6)
        have dd6:=dd5.go g6
        refine ⟨_,rfl,sA,_,sdx,_,_,rfl,t6.gh _ _ y1,T.k_Sending,T.n_Sending_row,Y0 _ _ _,q6,wA,_,_,rfl,rfl,za,t6.gh _ _ y2,?_,fun p hp=>?_⟩
        ·rw [zi,sizeLine_eq]
         simp only [List.length_cons,List.length_nil]
         omega
        ·have old6:H1 p=none:=old5 (Yu hp).2
         have g7:=zJ.more t6.gh (zd (o:=.lst ([.int ((rv (YF out)).length:Nat),.int (host:Nat),.int (port:Nat)]++rv (YF out))) hp)
         refine k p G3 _ (t6.trans (yJ g7)) old6 ?_ (dd6.go g7)
         show upd _ p _ p=_
         rw [za,zi,zbx]
         simp
end
section
variable {P:Program} {w:World} {K:PySem.W.Frag} {mg:Str→Option Value} {base:Heap} {c:Cl} {le ln:Addr} (T:Txt K mg c le ln) (Fs:YM K mg c)
noncomputable def ZC (now:Nat) (es:List Sa39.Entry):B:=es.flatMap (JG now)
noncomputable def zhF (s:Abs) (now:Nat) (most:Int):List Int:=match s with
 | none=>[-9]
 | some h=>if (decide (0≤most)&&decide (most≤65536))=true then
   (if ((ZC now (yl now h.entries.reverse).reverse).length:Int)≤most then [((ZC now (yl now h.entries.reverse).reverse).length:Int)]++(ZC now (yl now h.entries.reverse).reverse).map (fun n:Nat=>(n:Int)) else [-1])
  else [-2]
noncomputable abbrev zeB (c:Cl):Sp:=fun vs H Q _=>∃G dA s,∃now:Nat,∃most:Int,vs=[.ref dA,.int now,.int most]∧zC G H∧zig c G H dA s∧
 ∀p G' H',Stp G H G' H'→H p=none→zaP H' p (zhF s now most)→zig c G' H' dA s→Q (.ref p) H'
theorem Z7.listLen {c:Cl} {G:Hp} {v:V} {e:Sa39.Entry} {now:Nat} (h:Z7 c G v e):(JG now e).length≤400:=by
 obtain ⟨a,wA,pvv,iA,dx,rfl,h1,h2,h3,h4,h5,h6⟩:=h
 have hm:e.until_ - now < 2 ^ 64:=by
  have:(2:Nat) ^ 32=4294967296:=by decide +kernel
  rw [p64];omega
 have hl:=Z6 (e.until_ - now) hm
 have hx:(ascii " ").length=1:=by decide +kernel
 have hc:(ascii "\n").length=1:=by decide +kernel
 have htt:=h3.len
 unfold JG
 simp only [List.length_append]
 omega
include T Fs
theorem ze9:zml P w K mg base 7 "listing" c.Desk ["self","now","most"] (zeB c):=by
 refine Fs.d_Desk_listing.ok Qh zfF (fun vs H Q E h=>?_) (fun f cdv A outer s H vs Q E hr h=>?_)
 ·obtain ⟨G,dA,s,now,most,rfl,_⟩:=h;rfl
 ·obtain ⟨G,dA,st,now,most,rfl,sg,hd,k⟩:=h
  refine ⟨_,(zc (z4 (zw YG (zj (K:=K) (pv 0) rfl) zY (zz _)) (zg (zm (zO (zl (zN T.c_NO_HOUSE rfl) zb)))) zF) (zc (z4 (yT (zeh ZG ZG zu (pv 2) (zN T.c_MOST_OUT rfl))) (zg (zm (zO (zl (zN T.c_OUT_OF_RANGE rfl) zb)))) zF) (zc (zE (i:=3) Qh.nd rfl (Or.inl rfl) (zO zb)) (zc (JP PassesOwn.never rfl (zK (K:=K) (zq (JC T Fs) (hr.mono (by decide)) rfl (zl (zq (YW T Fs) (hr.mono (by decide)) rfl (zl (zj (K:=K) (zj (K:=K) (pv 0) rfl) rfl) (zl (pv 1) zb))) zb))) (zX (i:=4) Qh.nd rfl (Or.inl rfl)) (zg (yx (Zb PySem.F.plainAttrs_list PySem.F.slot_list_extend PySem.F.type_list_extend Jc (pv 3) (zl (zq (ziZ T Fs) (hr.mono (by decide)) rfl (zl (pv 4) (zl (pv 1) zb))) zb))))) (zg (zm (yI (zw ZG (yo (zx (K:=K)) rfl T.b_len PySem.boot_len (zl (pv 3) zb)) (pv 2) (zz _)) (zU yq (zO (zl (yo (zx (K:=K)) rfl T.b_len PySem.boot_len (zl (pv 3) zb)) zb)) (pv 3)) (zO (zl (zN T.c_TOO_LITTLE_ROOM rfl) zb))))))))),fun hL=>?_⟩
  cases st with
  | none=>
   obtain ⟨h0,ddx,h1⟩:=id hd
   refine ⟨_,rfl,dA,_,ddx,_,_,rfl,h1,T.k_Desk,T.n_Desk_house,rfl,rfl,_,rfl,zdL ?_⟩
   refine ⟨by rw [sizeLine_eq];simp,fun p hp=>?_⟩
   have g2:=zJ.more sg (zd (o:=.lst [.int (-9)]) hp)
   exact k p G _ (yJ g2) hp za (hd.go g2)
  | some h=>
   obtain ⟨h0,ddx,hA,h1,hs,hne⟩:=id hd
   obtain ⟨ev,hh,hna,hes,hel,hG⟩:=hs.open sg
   refine ⟨_,rfl,dA,_,ddx,_,_,rfl,h1,T.k_Desk,T.n_Desk_house,rfl,rfl,_,rfl,zkp ?_⟩
   walk_at "nx"
   have bad:¬ (decide (0≤most)&&decide (most≤65536))=true→∀σ,(zsn (zgJ (tC (V.int (-2))) znV)) σ H Q:=by
    intro hn σ
    refine ⟨by rw [sizeLine_eq];simp,fun p hp=>?_⟩
    have g2:=zJ.more sg (zd (o:=.lst [.int (-2)]) hp)
    have:zhF (some h) now most=[-2]:=by unfold zhF;simp only;rw [if_neg hn]
    rw [this] at k
    exact k p G _ (yJ g2) hp za (hd.go g2)
   refine ⟨_,rfl,_,_,rfl,rfl,_,rfl,zR (fun w1=>⟨_,_,rfl,rfl,_,rfl,zR (fun w2=>bad ?_ _) (fun w2=>?_)⟩) (fun w1=>⟨_,rfl,zdL (bad ?_ _)⟩)⟩
   ·have e2:decide (most≤65536)=false:=by simpa using w2
    rw [e2];simp
   ·have e2:decide (most≤65536)=true:=by simpa using w2
    walk_at "nx"
    have hy:(decide (0≤most)&&decide (most≤65536))=true:=by rw [w1,e2];rfl
    have hlb:zhF (some h) now most=(if ((ZC now (yl now h.entries.reverse).reverse).length:Int)≤most then [((ZC now (yl now h.entries.reverse).reverse).length:Int)]++(ZC now (yl now h.entries.reverse).reverse).map (fun n:Nat=>(n:Int)) else [-1]):=by unfold zhF;simp only;rw [if_pos hy]
    rw [hlb] at k
    refine ⟨Nat.zero_le _,fun p hp=>?_⟩
    walk_at "nm"
    have g1:=zJ.more sg (zd (o:=.lst []) hp)
    have e1:zD (upd H p (.lst [])) p []:=za
    have nGp:G p=none:=sg.free hp
    generalize upd H p (.lst [])=H1 at g1 e1 ⊢
    obtain ⟨hA',nA,dxh,e,k1,k2,k3,k4⟩:=hh.mono g1.hh
    cases e
    refine ⟨_,rfl,dA,_,ddx,_,_,rfl,g1.hh _ _ h1,T.k_Desk,T.n_Desk_house,rfl,hA,_,dxh,_,_,rfl,k1,T.k_House,T.n_House_entries,Qv _ _ _ _,_,rfl,G,ev,_,now,rfl,g1.gh,hes,fun v2 G2 H2 g2 r2=>⟨G2,v2,_,rfl,g2.gh,r2,fun v3 G3 H3 g3 r3=>?_⟩⟩
    have r3:zL (Z7 c) G3 v3 (yl now h.entries.reverse).reverse:=r3
    have hun:∀e ∈ (yl now h.entries.reverse).reverse,now < e.until_:=fun e he=>by have:=(List.mem_filter.mp (List.mem_reverse.mp he)).2;simpa using this
    have hlen:(yl now h.entries.reverse).reverse.length≤256:=by
     rw [List.length_reverse]
     refine Nat.le_trans (List.length_filter_le _ _) ?_
     rw [List.length_reverse];exact hel
    generalize (yl now h.entries.reverse).reverse=l at r3 k hun hlen
    obtain ⟨pl,vs,rfl,hpl,hR⟩:=r3
    have g23:=g2.trans g3
    have g13:=g1.trans g23
    have nG3:G3 p=none:=g23.sep p nGp (by rw [e1];simp)
    have hll:=Paired.length hR
    refine ⟨pl,vs,rfl,SqL.of (g3.gh _ _ hpl),fun _=>Yy (K:=K) (a:=pl) (xs:=vs) (fun i σ H'=>∃w,σ=[some (.ref dA),some (.int now),some (.int most),some (.ref p),w]∧zJ G H G3 H'∧zD H' p (ZC now (l.take i))∧(ZC now (l.take i)).length≤400 * i) ⟨none,rfl,g13,g23.hh _ _ e1,by simp [ZC]⟩ (fun i σ H' _ ⟨_,_,g,_⟩=>SqL.of (g.gh _ _ hpl)) ?_ ?_⟩
    ·rintro i y σ H' hi ⟨w,rfl,g,hrow,hz⟩
     obtain ⟨e,he,hE⟩:=Paired.at_ hR hi
     have hi2:=(List.getElem?_eq_some_iff.mp he).1
     have hEl:=hE.listLen (now:=now)
     have hstep:ZC now (l.take (i + 1))=ZC now (l.take i)++JG now e:=by
      unfold ZC
      rw [List.take_add_one,he,List.flatMap_append]
      simp
     walk_at "nm"
     refine ⟨_,rfl,.inl ⟨rfl,_,SqL.of hrow⟩,_,rfl,_,rfl,y,e,now,rfl,hE.mono g.gh,Nat.le_of_lt (hun e (List.mem_of_getElem? he)),fun q H4 s4 hq e4=>⟨p,q,_,_,rfl,rfl,s4 _ _ hrow,e4,?_,?_⟩⟩
     ·rw [zi,zi];exact sz (by omega)
     ·rw [yf]
      refine ⟨_,rfl,(g.trans (zJ.more g.gh s4)).turn hp nG3,?_,?_⟩
      ·rw [hstep];exact za
      ·rw [hstep,List.length_append];omega
    ·rintro σ H' ⟨w,rfl,g,hrow,hz⟩
     rw [hll,List.take_length] at hrow hz
     generalize ZC now l=row at hrow hz k
     refine ⟨_,rfl,p,_,rfl,.inl (SqL.of hrow),_,rfl,_,_,rfl,rfl,_,rfl,zR (fun w3=>?_) (fun w3=>?_)⟩
     ·have w3':(row.length:Int)≤most:=by simp only [zi] at w3;simpa using w3
      rw [if_pos w3'] at k
      refine ⟨_,rfl,p,_,rfl,.inl (SqL.of hrow),by rw [sizeLine_eq];simp,fun q hq=>⟨_,rfl,q,p,_,_,rfl,rfl,za,(zd hq) _ _ hrow,?_,fun r hr=>?_⟩⟩
      ·rw [zi]
       simp only [List.length_cons,List.length_nil]
       exact sz (by omega)
      ·have g5:=g.trans (zJ.more g.gh ((zd (o:=.lst [.int ((rv row).length:Nat)]) hq).trans (zd (o:=.lst ([.int ((rv row).length:Nat)]++rv row)) hr)))
       refine k r G3 _ (yJ g5) (g.hh.free (Yu hr).2) ?_ (hd.go g5)
       show upd _ r _ r=_
       rw [za,zi,zbx]
       simp
     ·have w3':¬ (row.length:Int)≤most:=by simp only [zi] at w3;simpa using w3
      rw [if_neg w3'] at k
      refine ⟨by rw [sizeLine_eq];simp,fun q hq=>?_⟩
      have g5:=g.trans (zJ.more g.gh (zd (o:=.lst [.int (-1)]) hq))
      exact k q G3 _ (yJ g5) (g.hh.free hq) za (hd.go g5)
   ·have e1:decide (0≤most)=false:=by simpa using w1
    rw [e1];simp
end
section
variable {P:Program} {w:World} {K:PySem.W.Frag} {mg:Str→Option Value} {base:Heap} {c:Cl} {le ln:Addr} (T:Txt K mg c le ln) (Fs:YM K mg c)
inductive Cal where
 | beg (adr port:Nat) (nm:B)
 | pkt (src sport now:Nat) (most:Int) (row:B)
 | lst (now:Nat) (most:Int)
noncomputable def zot (b:B):List Int:=b.map fun n:Nat=>(n:Int)
noncomputable def flat:Cal→List Int
 | .beg adr port nm=>[0,(adr:Int),(port:Int),(nm.length:Int)]++zot nm
 | .pkt src sport now most row=>[1,(src:Int),(sport:Int),(now:Int),most,(row.length:Int)]++zot row
 | .lst now most=>[2,(now:Int),most]
noncomputable def okC:Cal→Prop
 | .beg _ _ nm=>nm.length≤100000
 | .pkt _ _ now _ _=>now < 2 ^ 32
 | .lst _ _=>True
noncomputable def Y9 (s:Abs):Cal→Abs × List Int
 | .beg adr port nm=>zaK s nm adr port
 | .pkt src sport now most row=>Qq s src sport now most row
 | .lst now most=>(s,zhF s now most)
noncomputable abbrev ziG (K:PySem.W.Frag):Sp:=fun vs H Q _=>∃a l cl pre rest,vs=[.ref a,.int ((pre.length:Nat):Int)]∧SqL K H a (l.map V.int)∧l=pre++(flat cl++rest)∧Q (.int ((flat cl).length:Nat)) H
theorem zkV (b:B):(zot b).length=b.length:=List.length_map _
theorem zjM {pre x:List Int} {n:Int} {i:Nat} {v:Int} (e:n=((pre.length + i:Nat):Int)) (h:x[i]?=some v):atI ((pre++x).map V.int) n=some (.int v):=by
 rw [e]
 refine yk ?_
 rw [List.getElem?_map,List.getElem?_append_right (Nat.le_add_right _ _),Nat.add_sub_cancel_left,h]
 rfl
noncomputable def zsF:Cal→Int
 | .beg _ _ _=>0
 | .pkt _ _ _ _ _=>1
 | .lst _ _=>2
theorem zej (cl:Cal) (rest:List Int):(flat cl++rest)[0]?=some (zsF cl):=by cases cl <;> rfl
noncomputable abbrev zfS (c:Cl):Sp:=fun vs H Q _=>∃G dA s b cl,vs=[.ref dA,.ref b]∧zC G H∧zig c G H dA s∧zaP H b (flat cl)∧okC cl∧
 ∀p G' H',Stp G H G' H'→H p=none→zaP H' p (Y9 s cl).2→zig c G' H' dA (Y9 s cl).1→Q (.ref p) H'
theorem Qz {l:List Int} {i:Nat} {v:Int} (h:l[i]?=some v):atI (l.map V.int) ((i:Nat):Int)=some (.int v):=by
 refine yk ?_
 rw [List.getElem?_map,h];rfl
theorem zmJ (b:B):(zot b).map V.int=rv b:=by unfold zot;rw [zbx]
include T Fs
theorem zi2:yG P w K mg base 1 "call_size" ["calls","at"] (ziG K):=by
 refine Fs.d_call_size.ok ziO zjJ (fun vs H Q E h=>?_) (fun f cdv A outer s H vs Q E hr h=>?_)
 ·obtain ⟨a,l,cl,pre,rest,rfl,_⟩:=h;rfl
 ·obtain ⟨a,l,cl,pre,rest,rfl,hq,rfl,k⟩:=h
  refine ⟨_,(zc (z4 (zw Z0 (yE (zI (K:=K)) (pv 0) (pv 1) (fun _ _=>rfl)) (zN T.c_BEGIN rfl) (zz _)) (zg (zm (zU yY zu (yE (zI (K:=K)) (pv 0) (zU yY (pv 1) zu) (fun _ _=>rfl))))) zF) (zc (z4 (zw Z0 (yE (zI (K:=K)) (pv 0) (pv 1) (fun _ _=>rfl)) (zN T.c_PACKET rfl) (zz _)) (zg (zm (zU yY zu (yE (zI (K:=K)) (pv 0) (zU yY (pv 1) zu) (fun _ _=>rfl))))) zF) (zg (zm zu)))),fun hL=>?_⟩
  refine ⟨_,rfl,_,rfl,a,_,_,_,rfl,rfl,hq,zjM (i:=0) (by simp) (zej cl rest),rfl,_,rfl,?_⟩
  cases cl with
  | beg adr port nm=>
   refine zdL ?_
   refine ⟨_,rfl,_,rfl,_,_,rfl,rfl,a,_,_,_,rfl,rfl,hq,zjM (i:=3) (v:=(nm.length:Int)) (by simp) rfl,_,_,rfl,rfl,qi ?_ k⟩
   unfold flat
   rw [List.length_append,zkV]
   simp
  | pkt src sport now most row=>
   refine zkp ?_
   walk_at "nx"
   refine ⟨_,rfl,_,rfl,a,_,_,_,rfl,rfl,hq,zjM (i:=0) (by simp) (zej _ rest),rfl,_,rfl,zdL ?_⟩
   refine ⟨_,rfl,_,rfl,_,_,rfl,rfl,a,_,_,_,rfl,rfl,hq,zjM (i:=5) (v:=(row.length:Int)) (by simp) rfl,_,_,rfl,rfl,qi ?_ k⟩
   unfold flat
   rw [List.length_append,zkV]
   simp
  | lst now most=>
   refine zkp ?_
   walk_at "nx"
   refine ⟨_,rfl,_,rfl,a,_,_,_,rfl,rfl,hq,zjM (i:=0) (by simp) (zej _ rest),rfl,_,rfl,zkp ?_⟩
   walk_at "nx"
   exact k
theorem zf5:yG P w K mg base 15 "call_answer" ["desk","call"] (zfS c):=by
 refine Fs.d_call_answer.ok zfY zgi (fun vs H Q E h=>?_) (fun f cdv A outer s H vs Q E hr h=>?_)
 ·obtain ⟨G,dA,s,b,cl,rfl,_⟩:=h;rfl
 ·obtain ⟨G,dA,st,b,cl,rfl,sg,hd,hb,hok,k⟩:=h
  refine ⟨_,(zc (z4 (zw Z0 (yE (zI (K:=K)) (pv 1) zu (fun _ _=>rfl)) (zN T.c_BEGIN rfl) (zz _)) (zg (zm (zlF (pv 0) (zhC T Fs) (hr.mono (by decide)) (zl (yE (zI (K:=K)) (pv 1) zu (fun _ _=>rfl)) (zl (yE (zI (K:=K)) (pv 1) zu (fun _ _=>rfl)) (zl (ya (z9 (K:=K)) (pv 1) (yb zu) yR) zb)))))) zF) (zc (z4 (zw Z0 (yE (zI (K:=K)) (pv 1) zu (fun _ _=>rfl)) (zN T.c_PACKET rfl) (zz _)) (zg (zm (zlF (pv 0) (zf8 T Fs) (hr.mono (by decide)) (zl (yE (zI (K:=K)) (pv 1) zu (fun _ _=>rfl)) (zl (yE (zI (K:=K)) (pv 1) zu (fun _ _=>rfl)) (zl (yE (zI (K:=K)) (pv 1) zu (fun _ _=>rfl)) (zl (yE (zI (K:=K)) (pv 1) zu (fun _ _=>rfl)) (zl (ya (z9 (K:=K)) (pv 1) (yb zu) yR) zb)))))))) zF) (zg (zm (zlF (pv 0) (ze9 T Fs) (hr.mono (by decide)) (zl (yE (zI (K:=K)) (pv 1) zu (fun _ _=>rfl)) (zl (yE (zI (K:=K)) (pv 1) zu (fun _ _=>rfl)) zb))))))),fun hL=>?_⟩
  have hq:SqL K H b ((flat cl).map V.int):=SqL.of hb
  have hdi:∃ddx dv,H dA=some (.ins c.Desk ddx (zaG dv)):=by
   cases st with
   | none=>obtain ⟨h0,dx,h1⟩:=hd;exact ⟨dx,_,h1⟩
   | some h=>obtain ⟨h0,dx,hA,h1,_⟩:=hd;exact ⟨dx,_,h1⟩
  obtain ⟨ddx,dv,hdA⟩:=hdi
  have g0:=zej cl []
  rw [List.append_nil] at g0
  refine ⟨_,rfl,b,_,_,_,rfl,rfl,hq,Qz (i:=0) g0,rfl,_,rfl,?_⟩
  cases cl with
  | beg adr port nm=>
   refine zdL ?_
   refine ⟨_,rfl,dA,ddx,_,rfl,hdA,rfl,_,rfl,b,_,_,_,rfl,rfl,hq,Qz (i:=1) rfl,_,rfl,b,_,_,_,rfl,rfl,hq,Qz (i:=2) rfl,_,rfl,_,rfl,b,_,rfl,hq,fun q hq1=>?_⟩
   have e:zjQ ((flat (.beg adr port nm)).map V.int) (some 4) none=rv nm:=by
    refine (zcv ((flat (.beg adr port nm)).map V.int) 4).trans ?_
    unfold flat
    rw [List.map_append,zmJ];rfl
   rw [e]
   have g1:=zJ.more sg (zd (o:=.lst (rv nm)) hq1)
   refine ⟨G,dA,st,q,nm,adr,port,rfl,g1.gh,hd.go g1,za,hok,fun p G' H' t1 hp h1 h2=>k p G' H' ((yJ g1).trans t1) (Yu hp).2 h1 h2⟩
  | pkt src sport now most row=>
   refine zkp ?_
   walk_at "nx"
   refine ⟨_,rfl,b,_,_,_,rfl,rfl,hq,Qz (i:=0) g0,rfl,_,rfl,zdL ?_⟩
   refine ⟨_,rfl,dA,ddx,_,rfl,hdA,rfl,_,rfl,b,_,_,_,rfl,rfl,hq,Qz (i:=1) rfl,_,rfl,b,_,_,_,rfl,rfl,hq,Qz (i:=2) rfl,_,rfl,b,_,_,_,rfl,rfl,hq,Qz (i:=3) rfl,_,rfl,b,_,_,_,rfl,rfl,hq,Qz (i:=4) rfl,_,rfl,_,rfl,b,_,rfl,hq,fun q hq1=>?_⟩
   have e:zjQ ((flat (.pkt src sport now most row)).map V.int) (some 6) none=rv row:=by
    refine (zcv ((flat (.pkt src sport now most row)).map V.int) 6).trans ?_
    unfold flat
    rw [List.map_append,zmJ];rfl
   rw [e]
   have g1:=zJ.keep sg (zd (o:=.lst (rv row)) hq1) hq1 za
   refine ⟨_,dA,st,q,row,src,sport,now,most,rfl,g1.gh,hd.go g1,za,hok,fun p G' H' t1 hp h1 h2=>k p G' H' ((yJ g1).trans t1) (Yu hp).2 h1 h2⟩
  | lst now most=>
   refine zkp ?_
   walk_at "nx"
   refine ⟨_,rfl,b,_,_,_,rfl,rfl,hq,Qz (i:=0) g0,rfl,_,rfl,zkp ?_⟩
   walk_at "nx"
   exact ⟨_,rfl,dA,ddx,_,rfl,hdA,rfl,_,rfl,b,_,_,_,rfl,rfl,hq,Qz (i:=1) rfl,_,rfl,b,_,_,_,rfl,rfl,hq,Qz (i:=2) rfl,G,dA,st,now,most,rfl,sg,hd,fun p G' H' t1 hp h1 h2=>k p G' H' t1 hp h1 h2⟩
end
section
variable {P:Program} {w:World} {K:PySem.W.Frag} {mg:Str→Option Value} {base:Heap} {c:Cl} {le ln:Addr} (T:Txt K mg c le ln) (Fs:YM K mg c)
noncomputable def Qo:Abs→List Cal→List (List Int)
 | _,[]=>[]
 | s,cl::r=>(Y9 s cl).2::Qo (Y9 s cl).1 r
noncomputable def zfO (l:List (List Int)):List Int:=l.flatMap fun a=>(a.length:Int)::a
noncomputable def yW (cs:List Cal):List Int:=cs.flatMap flat
noncomputable abbrev zgp (K:PySem.W.Frag):Sp:=fun vs H Q _=>∃a cs,vs=[.ref a]∧SqL K H a ((yW cs).map V.int)∧(∀cl ∈ cs,okC cl)∧cs.length≤32∧∀p H',zaP H' p (zfO (Qo none cs))→Q (.ref p) H'
theorem zkf (o:Out):(zbB o).length≤3 + (YF o).length:=by
 cases o with
 | none=>simp [zbB,YF]
 | some x=>
  obtain ⟨b,p⟩:=x
  unfold zbB YF
  simp only
  split
  ·simp;omega
  ·simp only [List.length_append,List.length_cons,List.length_nil,List.length_map]
   omega
theorem zmz (s:Abs) (cl:Cal):(Y9 s cl).2.length≤65600:=by
 cases cl with
 | beg adr port nm=>
  unfold Y9 zaK
  simp only
  split <;> simp
 | lst now most=>
  unfold Y9 zhF
  simp only
  cases s with
  | none=>simp
  | some h=>
   simp only
   split
   ·rename_i hm
    rw [Bool.and_eq_true,decide_eq_true_eq,decide_eq_true_eq] at hm
    split
    ·rename_i hl
     rw [List.length_append,List.length_map]
     simp only [List.length_cons,List.length_nil]
     omega
    ·simp
   ·simp
 | pkt src sport now most row=>
  unfold Y9 Qq
  simp only
  cases s with
  | none=>simp
  | some h=>
   simp only
   split
   ·rename_i hm
    rw [Bool.and_eq_true,Bool.and_eq_true,decide_eq_true_eq,decide_eq_true_eq] at hm
    split
    ·simp
    ·rename_i m _
     split
     ·simp
     ·rename_i hl
      have:=zkf (zdJ h.name h.own h.entries.reverse m src now).1
      simp only
      omega
   ·simp
theorem SqL.keep {K:PySem.W.Frag} {H H':Hp} {a:Addr} {xs:List V} (k:∀b o,H b=some o→zkU o→H' b=some o) (h:SqL K H a xs):SqL K H' a xs:=by
 rcases h with (h | ⟨o,h⟩) | h
 ·exact .inl (.inl (k _ _ h trivial))
 ·exact .inl (.inr ⟨o,k _ _ h trivial⟩)
 ·exact .inr h
theorem zk2 (cl:Cal):0 < (flat cl).length:=by
 cases cl <;> simp [flat]
noncomputable def muA (n:Nat) (σ:List (Option V)) (_:Hp):Nat:=match σ[3]? with
 | some (some (V.int i))=>((n:Int) - i).toNat
 | _=>0
theorem zlf (x:List Int) (r:List (List Int)):zfO (x::r)=((x.length:Int)::x)++zfO r:=rfl
include T Fs
theorem zlP:yG P w K mg base 16 "answers" ["calls"] (zgp K):=by
 refine Fs.d_answers.ok Yh zmi (fun vs H Q E h=>?_) (fun f cdv A outer s H vs Q E hr h=>?_)
 ·obtain ⟨a,cs,rfl,_⟩:=h;rfl
 ·obtain ⟨a,cs,rfl,hq,hok,hcs,k⟩:=h
  refine ⟨_,(zc (zE (i:=1) Yh.nd rfl (Or.inl rfl) (zqS (zi3 T Fs) (hr.mono (by decide)) rfl)) (zc (zE (i:=2) Yh.nd rfl (Or.inl rfl) (zO zb)) (zc (zE (i:=3) Yh.nd rfl (Or.inl rfl) zu) (zc (zca PassesOwn.never (zw zd0 (pv 3) (yo (zx (K:=K)) rfl T.b_len PySem.boot_len (zl (pv 0) zb)) (zz _)) (zc (zE (i:=4) Yh.nd rfl (Or.inl rfl) (zq (zi2 T Fs) (hr.mono (by decide)) rfl (zl (pv 0) (zl (pv 3) zb)))) (zc (zE (i:=5) Yh.nd rfl (Or.inl rfl) (zq (zf5 T Fs) (hr.mono (by decide)) rfl (zl (pv 1) (zl (ya (z9 (K:=K)) (pv 0) (yb (pv 3)) (yb (zU yY (pv 3) (pv 4)))) zb)))) (zc (yx (Zb PySem.F.plainAttrs_list PySem.F.slot_list_append PySem.F.type_list_append yu (pv 2) (zl (yo (zx (K:=K)) rfl T.b_len PySem.boot_len (zl (pv 5) zb)) zb))) (zc (yx (Zb PySem.F.plainAttrs_list PySem.F.slot_list_extend PySem.F.type_list_extend Jc (pv 2) (zl (pv 5) zb))) (zg (zE (i:=3) Yh.nd rfl (Or.inl rfl) (zU yY (pv 3) (pv 4))))))))) (zg (zm (pv 2))))))),fun hL=>?_⟩
  intro dA ddx ndA nddx nee
  refine ⟨dA,ddx,rfl,za,fun H1 q1 q2=>⟨rfl,?_⟩⟩
  walk_at "nm"
  have s1:=zdd ndA nddx q1
  refine ⟨Nat.zero_le _,fun g hg=>?_⟩
  walk_at "nm"
  have s2:=s1.trans (zd (o:=.lst []) hg)
  have e2:zaP (upd H1 g (.lst [])) g []:=za
  have d2:zig c (fun _=>none) (upd H1 g (.lst [])) dA none:=⟨rfl,ddx,(zd hg) _ _ q2⟩
  have ng:H g=none:=s1.free hg
  generalize upd H1 g (.lst [])=H2 at s2 e2 d2 ⊢
  walk_at "nm"
  refine zem (fun σ H'=>∃G s done todo acc w4 w5,σ=[some (.ref a),some (.ref dA),some (.ref g),some (.int (((yW done).length:Nat):Int)),w4,w5]∧cs=done++todo∧zig c G H' dA s∧zC G H'∧G g=none∧zaP H' g acc∧(∀b o,H b=some o→zkU o→H' b=some o)∧zfO (Qo none cs)=acc++zfO (Qo s todo)∧acc.length≤65601 * done.length) (muA (yW cs).length)
   ⟨fun _=>none,none,[],cs,[],none,none,rfl,rfl,d2,fun b o e=>(by cases e),rfl,e2,fun b o e _=>s2 _ _ e,rfl,by simp⟩ ?_
  rintro σ H' ⟨G,s,done,todo,acc,w4,w5,rfl,hdt,hd,sG,nG,hacc,keep,htold,hlen⟩
  have hqa:=SqL.keep keep hq
  have hfl:yW cs=yW done++yW todo:=by rw [hdt];unfold yW;rw [List.flatMap_append]
  refine ⟨_,rfl,_,rfl,a,_,rfl,.inl hqa,_,_,rfl,rfl,_,rfl,zR (fun w1=>?_) (fun w1=>?_)⟩
  ·cases todo with
   | nil=>
    rw [hfl] at w1
    simp [yW] at w1
   | cons cl rest=>
   have hcl:okC cl:=hok cl (by rw [hdt];simp)
   have hfl2:yW cs=yW done++(flat cl++yW rest):=by rw [hfl];rfl
   have hfp:=zk2 cl
   have hdl:done.length≤31:=by
    have:=congrArg List.length hdt
    simp only [List.length_append,List.length_cons] at this
    omega
   refine ⟨fun σ' H''=>(∃G s done todo acc w4 w5,σ'=[some (.ref a),some (.ref dA),some (.ref g),some (.int (((yW done).length:Nat):Int)),w4,w5]∧cs=done++todo∧zig c G H'' dA s∧zC G H''∧G g=none∧zaP H'' g acc∧(∀b o,H b=some o→zkU o→H'' b=some o)∧zfO (Qo none cs)=acc++zfO (Qo s todo)∧acc.length≤65601 * done.length)∧muA (yW cs).length σ' H'' < muA (yW cs).length [some (.ref a),some (.ref dA),some (.ref g),some (.int (((yW done).length:Nat):Int)),w4,w5] H',fun σ' H'' ⟨h1,h2⟩=>⟨_,h2,rfl,h1⟩,?_⟩
   refine ⟨_,rfl,_,rfl,a,yW cs,cl,yW done,yW rest,rfl,hqa,hfl2,?_⟩
   walk_at "nm"
   refine ⟨_,rfl,_,rfl,_,rfl,_,rfl,_,rfl,_,rfl,_,_,rfl,rfl,_,rfl,a,_,rfl,hqa,fun b hb=>?_⟩
   have ecut:zjQ ((yW cs).map V.int) (some (((yW done).length:Nat):Int)) (some ((((yW done).length:Nat):Int) + (((flat cl).length:Nat):Int)))=(flat cl).map V.int:=by
    rw [show (((yW done).length:Nat):Int) + (((flat cl).length:Nat):Int)=(((yW done).length + (flat cl).length:Nat):Int) by omega,zk4,hfl2]
    rw [List.map_append,List.drop_left' (by rw [List.length_map]),Nat.add_sub_cancel_left,List.map_append,List.take_left' (by rw [List.length_map])]
   rw [ecut]
   have g3:=zJ.more sG (zd (o:=.lst ((flat cl).map V.int)) hb)
   have hg3:=g3.hh _ _ hacc
   have eb:zaP (upd H' b (.lst ((flat cl).map V.int))) b (flat cl):=za
   generalize upd H' b (.lst ((flat cl).map V.int))=H3 at g3 hg3 eb ⊢
   refine ⟨G,dA,s,b,cl,rfl,g3.gh,hd.go g3,eb,hcl,fun p G4 H4 t4 hp4 e4 d4=>?_⟩
   walk_at "nm"
   have hsl:=zmz s cl
   have hg4:=t4.keep _ _ hg3 trivial
   have npg:p≠g:=by
    rintro rfl;rw [hp4] at hg3;cases hg3
   have nG4:G4 g=none:=t4.sep g nG (by rw [hg3];simp)
   have hz1:(acc.map V.int).length≤3000000:=by rw [List.length_map];omega
   have hz2:((Y9 s cl).2.map V.int).length≤65600:=by rw [List.length_map];exact hsl
   refine ⟨_,rfl,.inl ⟨rfl,_,SqL.of hg4⟩,_,rfl,p,_,rfl,.inl (SqL.of e4),g,_,_,rfl,rfl,hg4,by rw [sizeLine_eq];omega,?_⟩
   dsimp only
   have e5:(upd H4 g (.lst (acc.map V.int++[V.int ((((Y9 s cl).2.map V.int).length:Nat):Int)]))) p=some (.lst ((Y9 s cl).2.map V.int)):=(zv npg).trans e4
   refine ⟨_,rfl,.inl ⟨rfl,_,SqL.of za⟩,_,rfl,g,p,_,_,rfl,rfl,za,e5,?_,?_⟩
   ·rw [List.length_append,List.length_cons,List.length_nil,sizeLine_eq];omega
   dsimp only
   rw [zpq]
   refine ⟨_,rfl,_,rfl,_,_,rfl,rfl,?_⟩
   have hfd:yW (done++[cl])=yW done++flat cl:=by unfold yW;rw [List.flatMap_append];simp
   have hln:(((yW done).length:Nat):Int) + (((flat cl).length:Nat):Int)=(((yW (done++[cl])).length:Nat):Int):=by rw [hfd,List.length_append];omega
   refine ⟨⟨G4,(Y9 s cl).1,done++[cl],rest,acc++(((Y9 s cl).2.length:Int)::(Y9 s cl).2),some (.int (((flat cl).length:Nat):Int)),some (.ref p),?_,?_,d4.turn hg4,?_,nG4,?_,?_,?_,?_⟩,?_⟩
   ·rw [← hln];rfl
   ·rw [hdt];simp
   ·exact fun b o e=>(zv (zy e nG4)).trans (t4.gh _ _ e)
   ·show upd _ g _ g=_
    rw [za,List.length_map]
    simp
   ·intro b o e ni
    have nb:b≠g:=zy e ng
    rw [zv nb]
    exact t4.keep _ _ (g3.hh _ _ (keep b o e ni)) ni
   ·rw [htold]
    show acc++zfO ((Y9 s cl).2::Qo (Y9 s cl).1 rest)=_
    rw [zlf,List.append_assoc]
   ·rw [List.length_append,List.length_append,List.length_cons,List.length_cons,List.length_nil]
    omega
   ·have hlt:(yW done).length + (flat cl).length≤(yW cs).length:=by
     rw [hfl2,List.length_append,List.length_append];omega
    show ((((yW cs).length:Nat):Int) - ((((yW done).length:Nat):Int) + (((flat cl).length:Nat):Int))).toNat < ((((yW cs).length:Nat):Int) - (((yW done).length:Nat):Int)).toNat
    omega
  ·cases todo with
   | cons cl rest=>
    exfalso
    apply w1
    have hfp:=zk2 cl
    have:(yW cs).length=(yW done).length + ((flat cl).length + (yW rest).length):=by
     rw [hfl,List.length_append]
     show _ + (flat cl++yW rest).length=_
     rw [List.length_append]
    rw [List.length_map]
    simp only [decide_eq_true_eq]
    omega
   | nil=>
    rw [show zfO (Qo s [])=[] from rfl,List.append_nil] at htold
    rw [htold] at k
    exact ⟨_,rfl,k g H' hacc⟩
end
end CH
namespace CH
open PySem L2 Sa39
theorem zoG {b:B} {m:Msg} (h:msgOf b=some m):∃f hs r,zif b f hs r m:=by
 by_cases hl:16384 < b.length
 ·rw [zgC hl] at h;cases h
 ·cases e:L [] b with
  | none=>rw [zcr e] at h;cases h
  | some x=>
   obtain ⟨ls,r⟩:=x
   cases ls with
   | nil=>rw [zdI e] at h;cases h
   | cons f hs=>exact ⟨f,hs,r,(zi7 hl e m).mp h⟩
theorem zaS {α:Type} {l:List Header} {n:String} {f:B→Option α} {x:α} (h:oneOf l n f=some x):(valuesOf l n).headD []=zZ l n∧f (zZ l n)=some x∧valuesOf l n=[zZ l n]:=by
 unfold oneOf at h
 unfold zZ
 cases e:valuesOf l n with
 | nil=>rw [e] at h;cases h
 | cons v t=>
  cases t with
  | nil=>rw [e] at h;exact ⟨rfl,h,rfl⟩
  | cons _ _=>rw [e] at h;cases h
theorem zmS (v:Via) (p:Sa39.Place):received v p=zeW v p.host:=rfl
theorem zkL (x:B):∀(r:List B) (k:Nat),1≤k→(r.zipIdx k).flatMap (fun y=>ascii "Via: "++(y.1++((if y.2=0 then x else [])++crlf)))=zV (r.map fun u=>ascii "Via: "++u)
 | [],_,_=>rfl
 | u::r,k,h=>by
  rw [List.zipIdx_cons,List.flatMap_cons,zkL x r (k + 1) (by omega),List.map_cons,zH]
  simp only
  rw [if_neg (by omega)]
  simp [crlf]
theorem zii (us:List B) (x:B):us.zipIdx.flatMap (fun y=>ascii "Via: "++(y.1++((if y.2=0 then x else [])++crlf)))=zV (YX us x):=by
 cases us with
 | nil=>rfl
 | cons u r=>
  show (u::r).zipIdx.flatMap _=zV ((ascii "Via: "++u++x)::r.map fun u=>ascii "Via: "++u)
  rw [List.zipIdx_cons,List.flatMap_cons,zkL x r (0 + 1) (by omega),zH]
  simp [crlf]
theorem zkI {b f:B} {hs:List B} {r:B} {m:Msg} (im:zif b f hs r m) (h:House) (x:Via) (p:Sa39.Place) (n:Nat) (words st:String) (cls:List B) (hst:ascii st=decimal n++(32::ascii words)):
  answered h m x p n words cls=some (zV (Y4 st m x p.host h.name cls),⟨p.host,x.port⟩):=by
 have e1:=(zaS im.from_).1
 have e2:=(zaS im.to).1
 have e3:=(zaS im.cseq).1
 have e4:(valuesOf m.headers "call-id").headD []=m.id:=by
  obtain ⟨h1,h2,_⟩:=zaS im.id
  rw [h1]
  split at h2
  ·exact Option.some.inj h2
  ·cases h2
 unfold answered
 simp only
 rw [e1,e2,e3,e4,zmS,zii]
 congr 2
 unfold Y4
 simp only [Zu,zH,yN,List.append_nil]
 rw [hst]
 have ec:(cls.flatMap fun c=>c++crlf)=zV cls:=rfl
 rw [ec]
 unfold zo5 crlf
 simp only [List.append_assoc,List.cons_append,List.nil_append]
theorem zqA (meth:B):(meth == ascii "ACK"||meth == ascii "CANCEL")=zeC meth:=rfl
theorem zou:ascii "via"≠ascii "max-forwards":=by decide +kernel
theorem ziT (v:Via) (p:Sa39.Place) (n:Nat):∀(t:List Header) (done:Bool),(∀x ∈ t,x.name=ascii "max-forwards"→natOf x.value=n)→passed v p done t=zV (Ze n (if done=true then [] else zeW v p.host) t)
 | [],_,_=>rfl
 | x::t,done,h=>by
  have ih:=fun d=>ziT v p n t d fun y hy=>h y (List.mem_cons_of_mem _ hy)
  unfold passed Ze
  rw [zmS]
  by_cases e1:x.name=ascii "max-forwards"
  ·rw [if_neg (by rw [e1];exact fun q=>zou q.1.symm),if_pos e1,if_pos e1,zH,h x List.mem_cons_self e1,ih]
   simp [crlf]
  ·rw [if_neg e1,if_neg e1]
   by_cases e2:x.name=ascii "via"
   ·cases done with
    | true=>
     rw [if_neg (by simp),if_neg (by simp),zH,ih]
     simp [crlf]
    | false=>
     rw [if_pos ⟨e2,rfl⟩,ih]
     simp only [Bool.false_eq_true,if_false,if_true]
     by_cases e3:zeW v p.host=[]
     ·have n3:¬ (x.name=ascii "via"∧zeW v p.host≠[]):=fun q=>q.2 e3
      rw [if_neg n3,if_pos e3,zH,e3]
      simp [crlf]
     ·have n3:x.name=ascii "via"∧zeW v p.host≠[]:=⟨e2,e3⟩
      rw [if_pos n3,if_neg e3,zH]
      simp [crlf]
   ·rw [if_neg fun q=>e2 q.1,if_neg fun q=>e2 q.1,zH,ih]
    simp [crlf]
theorem zk8:ascii " "=[32]:=by decide +kernel
theorem zji {b f:B} {hs:List B} {r:B} {m:Msg} (im:zif b f hs r m) {meth:B} {t:Target} {txt:B} (hf:m.first=.request meth t txt) (h:House) (x:Via) (p to:Sa39.Place) (method target:B):
  goesOn h m x p to method target=some (Jz h.own m x p.host method target,to):=by
 have e3:=(zaS im.cseq).1
 have hh:=im.hops
 rw [hf] at hh
 unfold zdM at hh
 simp only at hh
 have hmf:∀y ∈ m.headers,y.name=ascii "max-forwards"→natOf y.value=natOf (zZ m.headers "max-forwards"):=by
  intro y hy e
  split at hh
  ·cases eo:oneOf m.headers "max-forwards" (digits 3) with
   | none=>rw [eo] at hh;cases hh
   | some k=>
    obtain ⟨_,_,h3⟩:=zaS eo
    have:y.value ∈ valuesOf m.headers "max-forwards":=by
     unfold valuesOf
     exact List.mem_map.mpr ⟨y,List.mem_filter.mpr ⟨hy,by simpa using e⟩,rfl⟩
    rw [h3] at this
    rw [List.mem_singleton.mp this]
  ·cases hh
 unfold goesOn Jz
 rw [e3,ziT x p (natOf (zZ m.headers "max-forwards")) m.headers false hmf]
 rw [show [method++ascii " "++target++ascii " SIP/2.0",Jb h.own x m]=[method++ascii " "++target++ascii " SIP/2.0"]++[Jb h.own x m] from rfl]
 simp only [Zu,zH,yN,List.append_nil]
 unfold Jb
 rw [zk8]
 congr 2
 simp [crlf]
theorem zoa {m:Msg} (h:House):Sa39.reply h m=QB h.own m:=by
 unfold Sa39.reply QB
 split
 ·rename_i v w ws e
  rw [e]
  simp only
  by_cases c:v.host=.address h.own.host∧v.port=h.own.port
  ·rw [if_pos c,if_pos c]
   have ea:∀a:Nat,(some (m.line++(crlf++((Sa39.without m.headers).flatMap (fun x=>x.line++crlf)++(crlf++m.body))),(⟨a,w.port⟩:Sa39.Place)):Out)=some (zbO m,⟨a,w.port⟩):=by
    intro a
    unfold zbO
    rw [Zu,Zu]
    congr 2
    have:zV ((Sa39.without m.headers).map fun h=>h.line)=(Sa39.without m.headers).flatMap (fun x=>x.line++crlf):=by
     unfold zV crlf
     rw [List.flatMap_map]
    rw [this]
    simp [zH,yN,crlf]
   unfold zby
   cases e1:(w.params.filterMap fun p=>if p.1=ascii "received" then p.2.bind addressOf else none).head? with
   | some a=>simp only;exact ea a
   | none=>
    simp only
    cases e2:w.host with
    | address a=>simp only;exact ea a
    | name _=>rfl
  ·rw [if_neg c,if_neg c]
 ·rename_i hne
  split
  ·rename_i v w ws e
   exact absurd e (hne v w ws)
  ·rfl
end CH
namespace CH
open PySem L2 Sa39
theorem zph (h:House) (host:Host) (port:Nat):h.its host port=zgc h.name h.own host port:=by cases host <;> rfl
theorem zn5 (cs:List Contact):(cs.any fun c=>match c with
  | .all=>true
  | _=>false)=cs.any zit:=by
 congr 1
 funext c
 cases c <;> rfl
theorem zl1:FOREVER=4294967295:=by decide +kernel
theorem zpR (m:Msg) (whom:B) (now:Nat) (l:List Sa39.Entry) (n:Named) {a:Nat} (hh:n.target.host=.address a):keep m whom now l.reverse n=some (JT m whom now l (.at_ n)).reverse:=by
 have hp:∀e:Sa39.Entry,(!(e.whom == whom&&(e.word == n.target.word&&e.place == (⟨a,n.target.port⟩:Sa39.Place))))=(!(e.whom == whom&&decide (e.word=n.target.word∧e.place=⟨a,n.target.port⟩))):=by
  intro e
  congr 2
  rw [Bool.eq_iff_iff]
  simp
 have hN:zkq n.target.host=a:=by rw [hh];rfl
 simp only [JT,hN]
 unfold keep
 rw [hh]
 simp only
 rw [List.filter_reverse,zl1]
 congr 1
 rw [List.reverse_append]
 have:(fun e:Sa39.Entry=>!(e.whom == whom&&(e.word == n.target.word&&e.place == (⟨a,n.target.port⟩:Sa39.Place))))=fun e=>!(e.whom == whom&&decide (e.word=n.target.word∧e.place=⟨a,n.target.port⟩)):=funext hp
 rw [this]
 by_cases e:lasts m n=0
 ·rw [if_pos e,if_pos e];rfl
 ·rw [if_neg e,if_neg e];rfl
noncomputable def zmy (m:Msg) (whom:B) (now:Nat) (l:List Sa39.Entry) (c:Contact):Option (List Sa39.Entry):=match c with
 | .at_ n=>keep m whom now l n
 | .all=>none
theorem zjj (m:Msg) (whom:B) (now:Nat):∀(cs:List Contact) (l:List Sa39.Entry),cs.all zcF=true→cs.foldlM (zmy m whom now) l.reverse=some (cs.foldl (JT m whom now) l).reverse
 | [],l,_=>rfl
 | x::cs,l,h=>by
  rw [List.all_cons,Bool.and_eq_true] at h
  rw [List.foldlM_cons,List.foldl_cons]
  cases x with
  | all=>simp [zcF] at h
  | at_ n=>
   cases hh:n.target.host with
   | name _=>rw [zcF,hh] at h;cases h.1
   | address a=>
    show (keep m whom now l.reverse n >>=_)=_
    rw [zpR m whom now l n hh]
    exact zjj m whom now cs _ h.2
theorem zjk (m:Msg) (whom:B) (now:Nat):∀(cs:List Contact) (l:List Sa39.Entry),cs.all zcF=false→cs.foldlM (zmy m whom now) l=none
 | [],l,h=>by cases h
 | x::cs,l,h=>by
  rw [List.foldlM_cons]
  cases e:zmy m whom now l x with
  | none=>rfl
  | some l'=>
   show cs.foldlM (zmy m whom now) l'=none
   refine zjk m whom now cs l' ?_
   rw [List.all_cons,Bool.and_eq_false_iff] at h
   rcases h with h | h
   ·exfalso
    cases x with
    | all=>cases e
    | at_ n=>
     cases hh:n.target.host with
     | address a=>rw [zcF,hh] at h;cases h
     | name _=>
      have e':keep m whom now l n=some l':=e
      unfold keep at e'
      rw [hh] at e'
      cases e'
   ·exact h
theorem zpQ (m:Msg) (es:List Sa39.Entry) (whom:B):(es.any fun e=>e.whom == whom&&(e.id == m.id&&decide (m.cseq.1≤e.cseq)))=zko m es.reverse whom:=by
 unfold zko
 rw [List.any_filter,List.any_reverse]
inductive znR (h:House) (m:Msg) (now:Nat) (whom:B) (es:List Sa39.Entry):String × List Sa39.Entry→Prop
 | bad:register h m now whom=.inr (400,"Bad Request")→znR h m now whom es ("400 Bad Request",es)
 | full:register h m now whom=.inr (503,"Service Unavailable")→znR h m now whom es ("503 Service Unavailable",es)
 | good {l:List Sa39.Entry}:register h m now whom=.inl l→znR h m now whom es ("200 OK",l.reverse)
theorem zkd (h:House) (m:Msg) (now:Nat) (whom:B) (hw:m.to.target.word=some whom) (hi:zgc h.name h.own m.to.target.host m.to.target.port=true) (hu:∀e ∈ h.entries,now < e.until_) (hl:h.entries.length≤256):
  znR h m now whom h.entries.reverse (zcG h.name h.own m now h.entries.reverse):=by
 have hbad:zoV h.name h.own m h.entries.reverse=(!zl2 m||zko m h.entries.reverse whom):=by
  unfold zoV
  rw [hw,hi];rfl
 unfold zcG
 rw [hbad,hw]
 have hreg:register h m now whom=(if zko m h.entries.reverse whom=true then .inr (400,"Bad Request") else if m.contacts.any zit=true then (if m.contacts.length=1∧m.expires=some 0 then .inl (h.entries.filter fun e=>e.whom !=whom) else .inr (400,"Bad Request"))
   else match m.contacts.foldlM (zmy m whom now) h.entries with
   | none=>.inr (400,"Bad Request")
   | some l=>let l:=l.filter fun e=>decide (now < e.until_);if MOST < l.length then .inr (503,"Service Unavailable") else .inl l):=by
  unfold Sa39.register
  simp only
  rw [zpQ]
  refine ite_congr rfl (fun _=>rfl) (fun _=>?_)
  exact ite_congr (congrArg (·=true) (zn5 m.contacts)) (fun _=>rfl) (fun _=>rfl)
 by_cases hlate:zko m h.entries.reverse whom=true
 ·rw [if_pos (by rw [hlate];simp)]
  refine .bad ?_
  rw [hreg,if_pos hlate]
 ·rw [if_neg hlate] at hreg
  by_cases hst:m.contacts.any zit=true
  ·rw [if_pos hst] at hreg
   by_cases hc:m.contacts.length=1∧m.expires=some 0
   ·rw [if_pos hc] at hreg
    have hclear:Jh m=true:=by unfold Jh;rw [hst,hc.1,hc.2];rfl
    have hfit:zl2 m=true:=by unfold zl2;rw [if_pos hst];exact hclear
    rw [if_neg (by rw [hfit];simpa using hlate)]
    simp only [Option.getD_some]
    have hch:(QL m whom now h.entries.reverse).filter (fun e=>decide (now < e.until_))=(h.entries.filter fun e=>e.whom !=whom).reverse:=by
     unfold QL
     rw [if_pos hclear,List.filter_reverse,List.filter_reverse]
     congr 1
     rw [List.filter_filter]
     refine List.filter_congr fun e he=>?_
     rw [decide_eq_true (hu e he),Bool.true_and]
     rfl
    rw [hch]
    rw [if_neg (by
     rw [List.length_reverse]
     have:=List.length_filter_le (fun e:Sa39.Entry=>e.whom !=whom) h.entries
     omega)]
    exact .good hreg
   ·rw [if_neg hc] at hreg
    have hclear:Jh m=false:=by
     unfold Jh
     rw [Bool.eq_false_iff]
     intro q
     simp only [Bool.and_eq_true,decide_eq_true_eq] at q
     exact hc q.2
    have hfit:zl2 m=false:=by unfold zl2;rw [if_pos hst];exact hclear
    rw [if_pos (by rw [hfit];rfl)]
    exact .bad hreg
  ·rw [if_neg hst] at hreg
   have hfit:zl2 m=m.contacts.all zcF:=by unfold zl2;rw [if_neg hst]
   have hclear:Jh m=false:=by unfold Jh;rw [Bool.not_eq_true] at hst;rw [hst];rfl
   cases ha:m.contacts.all zcF with
   | false=>
    rw [if_pos (by rw [hfit,ha];rfl)]
    refine .bad ?_
    rw [hreg,zjk m whom now _ _ ha]
   | true=>
    rw [if_neg (by rw [hfit,ha];simpa using hlate)]
    have e0:h.entries=h.entries.reverse.reverse:=(List.reverse_reverse _).symm
    rw [e0,zjj m whom now _ _ ha] at hreg
    simp only [Option.getD_some] at hreg ⊢
    have hch:(QL m whom now h.entries.reverse)=m.contacts.foldl (JT m whom now) h.entries.reverse:=by unfold QL;rw [if_neg (by rw [hclear];simp)]
    rw [hch]
    generalize m.contacts.foldl (JT m whom now) h.entries.reverse=l at hreg
    rw [List.filter_reverse,List.length_reverse] at hreg
    by_cases hm:256 < (l.filter fun e=>decide (now < e.until_)).length
    ·rw [if_pos hm]
     rw [if_pos (show MOST < _ from hm)] at hreg
     exact .full hreg
    ·rw [if_neg hm]
     rw [if_neg (show ¬ MOST < _ from hm)] at hreg
     have:=znR.good (es:=h.entries.reverse) hreg
     rw [List.reverse_reverse] at this
     exact this
end CH
namespace CH
open PySem L2 Sa39
theorem zio (now:Nat) (es:List Sa39.Entry):yl now es.reverse=(es.filter fun e=>decide (now < e.until_)).reverse:=List.filter_reverse ..
theorem zrT:ascii "400 Bad Request"=decimal 400++(32::ascii "Bad Request"):=by decide +kernel
theorem zrP:ascii "503 Service Unavailable"=decimal 503++(32::ascii "Service Unavailable"):=by decide +kernel
theorem zqz:ascii "200 OK"=decimal 200++(32::ascii "OK"):=by decide +kernel
theorem zrR:ascii "405 Method Not Allowed"=decimal 405++(32::ascii "Method Not Allowed"):=by decide +kernel
theorem zqy:ascii "483 Too Many Hops"=decimal 483++(32::ascii "Too Many Hops"):=by decide +kernel
theorem zrS:ascii "404 Not Found"=decimal 404++(32::ascii "Not Found"):=by decide +kernel
theorem zrQ:ascii "502 Bad Gateway"=decimal 502++(32::ascii "Bad Gateway"):=by decide +kernel
theorem zmH {b f:B} {hs:List B} {r:B} {m:Msg} (im:zif b f hs r m) (h:House) (x:Via) (p:Sa39.Place) (meth:B) (n:Nat) (words st:String) (cls:List B) (hst:ascii st=decimal n++(32::ascii words)):
  (if (meth == ascii "ACK"||meth == ascii "CANCEL")=true then (none:Out) else answered h m x p n words cls)=ZF st m x p.host h.name cls meth:=by
 unfold ZF
 rw [zkI im h x p n words st cls hst]
 rfl
theorem zjm {α:Type} (p:α→Bool):∀l:List α,l.find? p=(l.filter p).head?
 | []=>rfl
 | x::t=>by
  rw [List.find?_cons,List.filter_cons]
  cases p x with
  | true=>rfl
  | false=>exact zjm p t
theorem zqF:¬ (ascii "REGISTER" == ascii "ACK"||ascii "REGISTER" == ascii "CANCEL")=true:=by decide +kernel
theorem zlB {b f:B} {hs:List B} {r:B} {m:Msg} (im:zif b f hs r m) (h:House) (x:Via) (p:Sa39.Place) (now:Nat) (meth:B) (t:Target) (txt:B) (hf:m.first=.request meth t txt) (hl:h.entries.length≤256):
  request (h.at_ now) m x p now meth t txt=({h with entries:=(zhp h.name h.own m x p.host now h.entries.reverse meth t txt).2.reverse},(zhp h.name h.own m x p.host now h.entries.reverse meth t txt).1):=by
 have hrev:yl now h.entries.reverse=(h.at_ now).entries.reverse:=zio now h.entries
 have hself:h.at_ now={h with entries:=(yl now h.entries.reverse).reverse}:=by rw [hrev,List.reverse_reverse];rfl
 have hnm:(h.at_ now).name=h.name:=rfl
 have hon:(h.at_ now).own=h.own:=rfl
 have hlen:(h.at_ now).entries.length≤256:=Nat.le_trans (List.length_filter_le _ _) hl
 have hun:∀e ∈ (h.at_ now).entries,now < e.until_:=fun e he=>by have:=(List.mem_filter.mp he).2;simpa using this
 have hsay:∀(n:Nat) (words st:String),ascii st=decimal n++(32::ascii words)→(if (meth == ascii "ACK"||meth == ascii "CANCEL")=true then (none:Out) else answered (h.at_ now) m x p n words [])=ZF st m x p.host h.name [] meth:=
  fun n words st e=>zmH im (h.at_ now) x p meth n words st [] e
 unfold request
 simp only
 rw [zph,hnm,hon]
 by_cases hits:zgc h.name h.own t.host t.port=true
 ·rw [hits]
  cases hw:t.word with
  | none=>
   rw [if_neg (by simp),if_pos rfl]
   simp only
   by_cases hr:meth=ascii "REGISTER"
   ·rw [if_pos hr]
    have hq:zhp h.name h.own m x p.host now h.entries.reverse meth t txt=(ZF (zcG h.name h.own m now (h.at_ now).entries.reverse).1 m x p.host h.name (zdS (zcG h.name h.own m now (h.at_ now).entries.reverse).1 m now (zcG h.name h.own m now (h.at_ now).entries.reverse).2) meth,(zcG h.name h.own m now (h.at_ now).entries.reverse).2):=by
     unfold zhp
     rw [if_pos ⟨by rw [hits,hw];rfl,hr⟩,hrev]
    rw [hq,zph,hnm,hon]
    simp only
    have hnoto:m.to.target.word=none∨¬ zgc h.name h.own m.to.target.host m.to.target.port=true→zcG h.name h.own m now (h.at_ now).entries.reverse=("400 Bad Request",(h.at_ now).entries.reverse):=by
     intro q
     unfold zcG
     rw [if_pos]
     unfold zoV
     rcases q with q | q
     ·rw [q];rfl
     ·rw [Bool.not_eq_true] at q
      rw [q];simp
    have bad:zcG h.name h.own m now (h.at_ now).entries.reverse=("400 Bad Request",(h.at_ now).entries.reverse)→
      ((h.at_ now,if (meth == ascii "ACK"||meth == ascii "CANCEL")=true then (none:Out) else answered (h.at_ now) m x p 400 "Bad Request" []):House × Out)=
      ({h with entries:=(zcG h.name h.own m now (h.at_ now).entries.reverse).2.reverse},ZF (zcG h.name h.own m now (h.at_ now).entries.reverse).1 m x p.host h.name (zdS (zcG h.name h.own m now (h.at_ now).entries.reverse).1 m now (zcG h.name h.own m now (h.at_ now).entries.reverse).2) meth):=by
     intro e
     rw [e,hsay 400 "Bad Request" "400 Bad Request" zrT]
     simp only [List.reverse_reverse]
     rw [show zdS "400 Bad Request" m now (h.at_ now).entries.reverse=[] from rfl]
     rfl
    cases hi:zgc h.name h.own m.to.target.host m.to.target.port with
    | false=>
     rw [if_neg (by simp)]
     simp only
     exact bad (hnoto (.inr (by rw [hi];simp)))
    | true=>
     rw [if_pos rfl]
     cases hwt:m.to.target.word with
     | none=>
      simp only
      exact bad (hnoto (.inl hwt))
     | some whom=>
      simp only
      have hreg:=zkd (h.at_ now) m now whom hwt (by rw [hnm,hon];exact hi) hun hlen
      rw [hnm,hon] at hreg
      generalize hR:zcG h.name h.own m now (h.at_ now).entries.reverse=R at hreg bad
      cases hreg with
      | bad e=>
       rw [e]
       simp only
       exact bad rfl
      | full e=>
       rw [e]
       simp only [List.reverse_reverse]
       rw [hsay 503 "Service Unavailable" "503 Service Unavailable" zrP]
       rw [show zdS "503 Service Unavailable" m now (h.at_ now).entries.reverse=[] from rfl]
       rfl
      | @good l e=>
       rw [e]
       simp only [List.reverse_reverse]
       have e2:zdS "200 OK" m now l.reverse=(l.filter fun e=>e.whom == whom).map (contactLine now):=by
        unfold zdS
        rw [if_pos rfl,hwt]
        simp only [Option.getD_some]
        rw [List.filter_reverse,List.reverse_reverse]
       have e3:=zmH im (h.at_ now) x p meth 200 "OK" "200 OK" ((l.filter fun e=>e.whom == whom).map (contactLine now)) zqz
       rw [if_neg (by rw [hr];exact zqF),hnm] at e3
       rw [e2,e3]
   ·rw [if_neg hr]
    have ha:(zgc h.name h.own t.host t.port&&decide (t.word=none))=true:=by rw [hits,hw];rfl
    have hq:zhp h.name h.own m x p.host now h.entries.reverse meth t txt=(ZF (if meth=ascii "OPTIONS" then "200 OK" else "405 Method Not Allowed") m x p.host h.name [] meth,yl now h.entries.reverse):=by
     unfold zhp yp
     rw [if_neg fun q=>hr q.2,if_pos ha]
    rw [hq]
    simp only
    rw [← hself]
    by_cases ho:meth=ascii "OPTIONS"
    ·rw [if_pos ho,if_pos ho,hsay 200 "OK" "200 OK" zqz]
    ·rw [if_neg ho,if_neg ho,hsay 405 "Method Not Allowed" "405 Method Not Allowed" zrR]
  | some w=>
   have hna:¬ (zgc h.name h.own t.host t.port&&decide (t.word=none))=true:=by rw [hw];simp
   have hq1:zhp h.name h.own m x p.host now h.entries.reverse meth t txt=(yp h.name h.own m x p.host (yl now h.entries.reverse) meth t txt,yl now h.entries.reverse):=by
    unfold zhp
    rw [if_neg fun q=>hna q.1]
   rw [hq1]
   simp only
   rw [← hself]
   by_cases hh:m.hops=0
   ·have hq:yp h.name h.own m x p.host (yl now h.entries.reverse) meth t txt=ZF "483 Too Many Hops" m x p.host h.name [] meth:=by
     unfold yp
     rw [if_neg hna,if_pos hh]
    rw [hq,if_pos ⟨hh,by simp⟩,hsay 483 "Too Many Hops" "483 Too Many Hops" zqy]
   ·have hq:yp h.name h.own m x p.host (yl now h.entries.reverse) meth t txt=toO h.own m x p.host h.name meth ((h.at_ now).entries.filter fun e=>e.whom == w):=by
     unfold yp
     rw [if_neg hna,if_neg hh,if_pos hits,hw,hrev,List.filter_reverse,List.reverse_reverse]
     rfl
    rw [hq,if_neg fun q=>hh q.1]
    simp only [if_true]
    rw [zjm]
    cases hfl:(h.at_ now).entries.filter fun e=>e.whom == w with
    | nil=>
     simp only [List.head?_nil,toO]
     rw [hsay 404 "Not Found" "404 Not Found" zrS]
    | cons e rest=>
     simp only [List.head?_cons,toO]
     rw [zji im hf]
     rfl
 ·have hits':zgc h.name h.own t.host t.port=false:=by simpa using hits
  have hna:¬ (zgc h.name h.own t.host t.port&&decide (t.word=none))=true:=by rw [hits'];simp
  have hq1:zhp h.name h.own m x p.host now h.entries.reverse meth t txt=(yp h.name h.own m x p.host (yl now h.entries.reverse) meth t txt,yl now h.entries.reverse):=by
   unfold zhp
   rw [if_neg fun q=>hna q.1]
  rw [hq1]
  simp only
  rw [← hself]
  by_cases hh:m.hops=0
  ·have hq:yp h.name h.own m x p.host (yl now h.entries.reverse) meth t txt=ZF "483 Too Many Hops" m x p.host h.name [] meth:=by
    unfold yp
    rw [if_neg hna,if_pos hh]
   rw [hq,if_pos ⟨hh,fun q=>hits q.1⟩,hsay 483 "Too Many Hops" "483 Too Many Hops" zqy]
  ·have hq:yp h.name h.own m x p.host (yl now h.entries.reverse) meth t txt=(match t.host with
     | .name _=>ZF "502 Bad Gateway" m x p.host h.name [] meth
     | .address a=>some (Jz h.own m x p.host meth txt,⟨a,t.port⟩)):=by
    unfold yp
    rw [if_neg hna,if_neg hh,if_neg hits]
    try (cases t.host <;> rfl)
   rw [hq,if_neg fun q=>hh q.1,if_neg hits]
   cases eh:t.host with
   | address a=>
    simp only
    rw [zji im hf]
    rfl
   | name n=>
    simp only
    rw [hsay 502 "Bad Gateway" "502 Bad Gateway" zrQ]
theorem zp7 {b:B} {m:Msg} (hm:msgOf b=some m) (h:House) (p:Sa39.Place) (now:Nat) (hl:h.entries.length≤256):
  came h p now b=({h with entries:=(zdJ h.name h.own h.entries.reverse m p.host now).2.reverse},(zdJ h.name h.own h.entries.reverse m p.host now).1):=by
 obtain ⟨f,hs,r,im⟩:=zoG hm
 unfold came
 rw [hm]
 simp only
 cases hf:m.first with
 | request meth t txt=>
  cases hv:m.vias with
  | nil=>exact absurd hv im.novia
  | cons x xr=>
   simp only
   have:zdJ h.name h.own h.entries.reverse m p.host now=zhp h.name h.own m x p.host now h.entries.reverse meth t txt:=by unfold zdJ;rw [hf,hv]
   rw [this]
   exact zlB im h x p now meth t txt hf hl
 | answer=>
  simp only
  have:zdJ h.name h.own h.entries.reverse m p.host now=(QB h.own m,h.entries.reverse):=by unfold zdJ;rw [hf]
  rw [this,zoa]
  simp
end CH
namespace CH
open PySem L2 Sa39
noncomputable def zqm:Cal→Sa39.Call
 | .beg adr port nm=>.begin_ nm (nm.length:Int) ⟨adr,port⟩
 | .pkt src sport now most row=>.packet ⟨src,sport⟩ now row (row.length:Int) most
 | .lst now most=>.list now most
noncomputable def zrF (a:Ans):List Int:=a.v::((match a.to with
  | some p=>[(p.host:Int),(p.port:Int)]
  | none=>[])++Sa39Neutral.ints a.b)
noncomputable def few (s:Abs):Prop:=∀h,s=some h→h.entries.length≤256
noncomputable def zqE:Cal→Prop
 | .pkt _ _ _ _ row=>row.length≤65535
 | _=>True
theorem zff (l:B) (ls:List B):zV (l::ls)≠[]:=by rw [zH];simp
theorem zqU (name:B) (own:Sa39.Place) (es:List Sa39.Entry) (m:Msg) (src now:Nat) {b:B} {p:Sa39.Place} (h:(zdJ name own es m src now).1=some (b,p)):b≠[]:=by
 have hrep:∀{st:String} {x:Via} {cls:List B} {meth:B},ZF st m x src name cls meth=some (b,p)→b≠[]:=by
  intro st x cls meth e
  unfold ZF at e
  split at e
  ·cases e
  ·have:zV (Y4 st m x src name cls)=b:=congrArg Prod.fst (Option.some.inj e)
   rw [← this]
   unfold Y4
   simp only [List.append_assoc,List.singleton_append]
   exact zff _ _
 have hon:∀{x:Via} {meth tgt:B} {q:Sa39.Place},(some (Jz own m x src meth tgt,q):Out)=some (b,p)→b≠[]:=by
  intro x meth tgt q e
  have:Jz own m x src meth tgt=b:=congrArg Prod.fst (Option.some.inj e)
  rw [← this]
  unfold Jz
  simp only [List.append_assoc,List.cons_append]
  intro q
  have:=(List.append_eq_nil_iff.mp q).1
  exact zff _ _ this
 unfold zdJ at h
 split at h
 ·unfold zhp at h
  split at h
  ·exact hrep h
  ·simp only at h
   unfold yp at h
   split at h
   ·exact hrep h
   ·split at h
    ·exact hrep h
    ·split at h
     ·unfold toO at h
      split at h
      ·exact hrep h
      ·exact hon h
     ·split at h
      ·exact hrep h
      ·exact hon h
 ·simp only at h
  unfold QB at h
  split at h
  ·split at h
   ·split at h
    ·have:zbO m=b:=congrArg Prod.fst (Option.some.inj h)
     rw [← this]
     unfold zbO
     simp only [List.append_assoc,List.singleton_append]
     intro q
     exact zff _ _ (List.append_eq_nil_iff.mp q).1
    ·cases h
   ·cases h
  ·cases h
 ·cases h
theorem znf (h:House) (now:Nat):listed h now=ZC now (yl now h.entries.reverse).reverse:=by
 rw [zio,List.reverse_reverse]
 unfold listed ZC House.at_
 refine congrArg (fun f=>List.flatMap f _) (funext fun e=>?_)
 unfold JG
 rw [zk8,show ascii "\n"=[10] from by decide +kernel]
 simp
theorem zp0 (s:Abs) (cl:Cal) (hs:few s) (hc:zqE cl):((does s (zqm cl)).1,zrF (does s (zqm cl)).2)=Y9 s cl:=by
 cases cl with
 | beg adr port nm=>
  show ((does s (.begin_ nm (nm.length:Int) ⟨adr,port⟩)).1,zrF (does s (.begin_ nm (nm.length:Int) ⟨adr,port⟩)).2)=zaK s nm adr port
  have hd:does s (.begin_ nm (nm.length:Int) ⟨adr,port⟩)=(match (if within (nm.length:Int) 1 64=true∧portOk ⟨adr,port⟩=true then hostOf nm else none) with
    | some (.name x)=>(some ⟨x,⟨adr,port⟩,[]⟩,ok 0)
    | _=>(s,ok (-2))):=by cases s <;> rfl
  have hport:portOk ⟨adr,port⟩=(decide (1≤port)&&decide (port≤65535)):=rfl
  unfold zaK
  rw [hd,hport]
  cases hp:(decide (1≤port)&&decide (port≤65535)) with
  | false=>
   rw [if_neg (by simp),Bool.and_false,if_neg (by simp)]
   rfl
  | true=>
   rw [Bool.and_true]
   cases hn:YK nm with
   | true=>
    obtain ⟨h1,h2⟩:=zkW hn
    have h3:1≤nm.length:=by
     unfold YK at hn
     simp only [Bool.and_eq_true,decide_eq_true_eq] at hn
     exact hn.1.1
    have hw:within (nm.length:Int) 1 64=true:=by unfold within;simp;omega
    rw [if_pos ⟨hw,rfl⟩,Je,h2,hn,if_pos rfl,if_pos rfl]
    rfl
   | false=>
    rw [if_neg (show ¬ false=true by simp)]
    have:∀o:Option Host,(∀x,o≠some (.name x))→((match o with
      | some (.name x)=>((some ⟨x,⟨adr,port⟩,[]⟩,ok 0):Abs × Ans)
      | _=>(s,ok (-2)))=(s,ok (-2))):=by
     intro o ho
     cases o with
     | none=>rfl
     | some y=>cases y with
      | address _=>rfl
      | name x=>exact absurd rfl (ho x)
    rw [this _ (by
     intro x e
     split at e
     ·rw [Je,hn] at e
      cases ea:addressOf nm with
      | none=>rw [ea] at e;simp at e
      | some _=>rw [ea] at e;simp at e
     ·cases e)]
    rfl
 | lst now most=>
  show ((does s (.list now most)).1,zrF (does s (.list now most)).2)=(s,zhF s now most)
  cases s with
  | none=>rfl
  | some h=>
   have hd:does (some h) (.list now most)=(if within most 0 65536=false then (some h,ok (-2)) else if most < ((listed h now).length:Int) then (some h,ok (-1)) else (some h,⟨(listed h now).length,listed h now,none⟩)):=rfl
   rw [hd,znf]
   unfold zhF
   simp only
   have hw:within most 0 65536=(decide (0≤most)&&decide (most≤65536)):=rfl
   rw [hw]
   cases (decide (0≤most)&&decide (most≤65536)) with
   | false=>rfl
   | true=>
    rw [if_neg (show ¬ true=false by simp),if_pos (show true=true from rfl)]
    by_cases hl:most < ((ZC now (yl now h.entries.reverse).reverse).length:Int)
    ·rw [if_pos hl,if_neg (by omega)];rfl
    ·rw [if_neg hl,if_pos (by omega)];rfl
 | pkt src sport now most row=>
  show ((does s (.packet ⟨src,sport⟩ now row (row.length:Int) most)).1,zrF (does s (.packet ⟨src,sport⟩ now row (row.length:Int) most)).2)=Qq s src sport now most row
  cases s with
  | none=>rfl
  | some h=>
   have hd:does (some h) (.packet ⟨src,sport⟩ now row (row.length:Int) most)=(if (within (row.length:Int) 0 65535&&(within most 0 65536&&portOk ⟨src,sport⟩))=false then (some h,ok (-2)) else match came h ⟨src,sport⟩ now row with
     | (g,none)=>(some g,ok 0)
     | (g,some (t,p))=>if most < (t.length:Int) then (some h,ok (-1)) else (some g,⟨t.length,t,some p⟩)):=rfl
   have hr:within (row.length:Int) 0 65535=true:=by
    have:row.length≤65535:=hc
    unfold within;simp;omega
   have hw:(within most 0 65536&&portOk ⟨src,sport⟩)=((decide (0≤most)&&decide (most≤65536))&&(decide (1≤sport)&&decide (sport≤65535))):=rfl
   rw [hd,hr,Bool.true_and,hw]
   unfold Qq
   simp only
   cases hy:((decide (0≤most)&&decide (most≤65536))&&(decide (1≤sport)&&decide (sport≤65535))) with
   | false=>rfl
   | true=>
    rw [if_neg (show ¬ true=false by simp),if_pos (show true=true from rfl)]
    have hm0:0≤most:=by
     rw [Bool.and_eq_true,Bool.and_eq_true,decide_eq_true_eq] at hy
     exact hy.1.1
    cases em:msgOf row with
    | none=>
     have:came h ⟨src,sport⟩ now row=(h,none):=by unfold came;rw [em]
     rw [this]
     rfl
    | some m=>
     rw [zp7 em h ⟨src,sport⟩ now (hs h rfl)]
     simp only
     have hne:=fun {b:B} {p:Sa39.Place} (e:(zdJ h.name h.own h.entries.reverse m src now).1=some (b,p))=>zqU h.name h.own h.entries.reverse m src now e
     generalize zdJ h.name h.own h.entries.reverse m src now=R at hne
     obtain ⟨out,es'⟩:=R
     cases out with
     | none=>
      simp only
      rw [if_neg (by show ¬ most < ((([]:B).length:Nat):Int);simp;omega)]
      rfl
     | some x=>
      obtain ⟨t,p⟩:=x
      simp only
      have ht:=hne (b:=t) (p:=p) rfl
      show _=if most < (t.length:Int) then _ else _
      by_cases hl:most < (t.length:Int)
      ·rw [if_pos hl,if_pos hl];rfl
      ·rw [if_neg hl,if_neg hl]
       show (_,_)=(_,if t=[] then [0] else [(t.length:Int),(p.host:Int),(p.port:Int)]++t.map fun n:Nat=>(n:Int))
       rw [if_neg ht]
       rfl
theorem zoP (s:Abs) (cl:Cal) (hs:few s):few (Y9 s cl).1:=by
 intro h e
 cases cl with
 | beg adr port nm=>
  unfold Y9 zaK at e
  simp only at e
  split at e
  ·cases e;simp
  ·exact hs h e
 | lst now most=>exact hs h e
 | pkt src sport now most row=>
  unfold Y9 Qq at e
  simp only at e
  cases s with
  | none=>cases e
  | some h0=>
   simp only at e
   split at e
   ·split at e
    ·exact hs h e
    ·split at e
     ·exact hs h e
     ·cases e
      simp only [List.length_reverse]
      exact zkX _ _ _ _ _ _ (by rw [List.length_reverse];exact hs h0 rfl)
   ·exact hs h e
end CH
namespace CH
open PySem L2 Sa39
open Sa39Neutral (nats natural whole32 callOf step)
theorem zdH {z:Int} {k:Nat} (h:natural z k=true):((z.toNat:Nat):Int)=z∧z.toNat < 2 ^ k:=by
 unfold natural at h
 rw [Bool.and_eq_true,decide_eq_true_eq,decide_eq_true_eq] at h
 refine ⟨by omega,?_⟩
 have h2:z < (2:Int) ^ k:=h.2
 have h3:((2:Nat) ^ k:Nat)=((2:Int) ^ k):=by norm_cast
 omega
theorem znb {l:List Int} (h:l.all (fun z=>natural z 8)=true):zot (nats l)=l:=by
 unfold zot Sa39Neutral.nats
 rw [List.map_map]
 rw [List.all_eq_true] at h
 refine (List.map_congr_left fun z hz=>?_).trans (List.map_id' l)
 exact (zdH (h z hz)).1
theorem zaT (l:List Int):(nats l).length=l.length:=List.length_map _
theorem zj5 {p:Int} {n k:Nat} (h:PySa39.shape p=some (n,k)):(p=0∧n=2∧k=1)∨(p=1∧n=4∧k=1)∨(p=2∧n=2∧k=0):=by
 unfold PySa39.shape at h
 split at h
 ·cases h;exact .inl ⟨by assumption,rfl,rfl⟩
 ·split at h
  ·cases h;exact .inr (.inl ⟨by assumption,rfl,rfl⟩)
  ·split at h
   ·cases h;exact .inr (.inr ⟨by assumption,rfl,rfl⟩)
   ·cases h
theorem zo2 (x0 x1:Int) (r0:List Int):PySa39.whole [[0,x0,x1],r0]=[[0,(r0.length:Int),x0,x1],r0]:=rfl
theorem zo1 (x0 x1 x2 x3:Int) (r0:List Int):PySa39.whole [[1,x0,x1,x2,x3],r0]=[[1,x0,x1,x2,(r0.length:Int),x3],r0]:=rfl
theorem zo0 (x0 x1:Int):PySa39.whole [[2,x0,x1]]=[[2,x0,x1]]:=rfl
theorem zs1 (n h p:Int) (name:List Int):Sa39Neutral.asked1 [[0,n,h,p],name]=(whole32 n&&(natural h 32&&(natural p 32&&(name.all (fun (z:Int)=>natural z 8)&&(decide ((name.length:Int)=if 1≤n∧n≤64 then n else 0)))))):=by unfold Sa39Neutral.asked1;rfl
theorem zs0 (h p now n most:Int) (b:List Int):Sa39Neutral.asked1 [[1,h,p,now,n,most],b]=(natural h 32&&(natural p 32&&(natural now 32&&(whole32 n&&(whole32 most&&(b.all (fun (z:Int)=>natural z 8)&&(decide ((b.length:Int)=if 0≤n∧n≤65535 then n else 0)))))))):=by unfold Sa39Neutral.asked1;rfl
theorem zsZ (now most:Int):Sa39Neutral.asked1 [[2,now,most]]=(natural now 32&&(whole32 most)):=by unfold Sa39Neutral.asked1;rfl
theorem zsY (n h p:Int) (name:List Int):callOf [[0,n,h,p],name]=some (.begin_ (nats name) n ⟨h.toNat,p.toNat⟩):=rfl
theorem zsX (h p now n most:Int) (b:List Int):callOf [[1,h,p,now,n,most],b]=some (.packet ⟨h.toNat,p.toNat⟩ now.toNat (nats b) n most):=rfl
theorem zsW (now most:Int):callOf [[2,now,most]]=some (.list now.toNat most):=rfl
theorem zsy {α:Type}:∀{l:List α},l.length=1→∃a,l=[a]
 | [a],_=>⟨a,rfl⟩
theorem zsx {α:Type}:∀{l:List α},l.length=2→∃a b,l=[a,b]
 | [a,b],_=>⟨a,b,rfl⟩
theorem zsR {α:Type}:∀{l:List α},l.length=4→∃a b c d,l=[a,b,c,d]
 | [a,b,c,d],_=>⟨a,b,c,d,rfl⟩
theorem zp8 {c:List (List Int)} (hc:PyFlat.okCall PySa39.shape c) (ha:Sa39Neutral.asked1 (PySa39.whole c)=true):∃cl,PyFlat.put1 c=flat cl∧okC cl∧zqE cl∧callOf (PySa39.whole c)=some (zqm cl):=by
 obtain ⟨p,a,xs,rfl,hs⟩:=hc
 rcases zj5 hs with ⟨rfl,h1,h2⟩ | ⟨rfl,h1,h2⟩ | ⟨rfl,h1,h2⟩
 ·obtain ⟨x0,x1,rfl⟩:=zsx h1
  obtain ⟨r0,rfl⟩:=zsy h2
  have ha':=ha
  rw [zo2,zs1] at ha'
  simp only [Bool.and_eq_true,decide_eq_true_eq] at ha'
  obtain ⟨_,n0,n1,nr,nl⟩:=ha'
  refine ⟨.beg x0.toNat x1.toNat (nats r0),?_,?_,trivial,?_⟩
  ·show [0,x0,x1]++(((r0.length:Int)::r0)++[])=[0,((x0.toNat:Nat):Int),((x1.toNat:Nat):Int),((nats r0).length:Int)]++zot (nats r0)
   rw [znb nr,(zdH n0).1,(zdH n1).1,zaT]
   simp
  ·show (nats r0).length≤100000
   rw [zaT]
   split at nl <;> omega
  ·rw [zo2,zsY,zqm,zaT]
 ·obtain ⟨x0,x1,x2,x3,rfl⟩:=zsR h1
  obtain ⟨r0,rfl⟩:=zsy h2
  have ha':=ha
  rw [zo1,zs0] at ha'
  simp only [Bool.and_eq_true,decide_eq_true_eq] at ha'
  obtain ⟨n0,n1,n2,_,_,nr,nl⟩:=ha'
  refine ⟨.pkt x0.toNat x1.toNat x2.toNat x3 (nats r0),?_,?_,?_,?_⟩
  ·show [1,x0,x1,x2,x3]++(((r0.length:Int)::r0)++[])=[1,((x0.toNat:Nat):Int),((x1.toNat:Nat):Int),((x2.toNat:Nat):Int),x3,((nats r0).length:Int)]++zot (nats r0)
   rw [znb nr,(zdH n0).1,(zdH n1).1,(zdH n2).1,zaT]
   simp
  ·exact (zdH n2).2
  ·show (nats r0).length≤65535
   rw [zaT]
   split at nl <;> omega
  ·rw [zo1,zsX,zqm,zaT]
 ·obtain ⟨x0,x1,rfl⟩:=zsx h1
  obtain rfl:=List.length_eq_zero_iff.mp h2
  have ha':=ha
  rw [zo0,zsZ] at ha'
  simp only [Bool.and_eq_true] at ha'
  refine ⟨.lst x0.toNat x1,?_,trivial,trivial,by rw [zo0,zsW,zqm]⟩
  show [2,x0,x1]++[]=[2,((x0.toNat:Nat):Int),x1]
  rw [(zdH ha'.1).1]
  simp
theorem zk6:∀(cs:List (List (List Int))),(∀c ∈ cs,PyFlat.okCall PySa39.shape c)→(∀c ∈ cs,Sa39Neutral.asked1 (PySa39.whole c)=true)→
  ∃cls:List Cal,PyFlat.put cs=yW cls∧cls.length=cs.length∧(∀cl ∈ cls,okC cl)∧∀s,few s→PyFlat.played step s (cs.map PySa39.whole)=Qo s cls
 | [],_,_=>⟨[],rfl,rfl,fun _ h=>(by cases h),fun _ _=>rfl⟩
 | c::cs,h1,h2=>by
  obtain ⟨cl,e1,e2,e3,e4⟩:=zp8 (h1 c List.mem_cons_self) (h2 c List.mem_cons_self)
  obtain ⟨cls,f1,f2,f3,f4⟩:=zk6 cs (fun d hd=>h1 d (List.mem_cons_of_mem _ hd)) (fun d hd=>h2 d (List.mem_cons_of_mem _ hd))
  refine ⟨cl::cls,?_,by rw [List.length_cons,List.length_cons,f2],?_,?_⟩
  ·show PyFlat.put1 c++PyFlat.put cs=flat cl++yW cls
   rw [e1,f1]
  ·intro d hd
   rcases List.mem_cons.mp hd with rfl | hd
   ·exact e2
   ·exact f3 d hd
  ·intro s hs
   have hstep:step s (PySa39.whole c)=Y9 s cl:=by
    rw [← zp0 s cl hs e3]
    unfold Sa39Neutral.step
    rw [e4]
    rfl
   show (step s (PySa39.whole c)).2::PyFlat.played step (step s (PySa39.whole c)).1 (cs.map PySa39.whole)=(Y9 s cl).2::Qo (Y9 s cl).1 cls
   rw [hstep,f4 _ (zoP s cl hs)]
theorem zrh {l:List Int} (h:PySa39.answers_asked l=true):∃cls:List Cal,l=yW cls∧(∀cl ∈ cls,okC cl)∧cls.length≤32∧PySa39.answers l=zfO (Qo none cls):=by
 unfold PySa39.answers_asked at h
 unfold PySa39.answers
 unfold PySa39.calls at h ⊢
 cases e:PyFlat.calls PySa39.shape l.length l with
 | none=>rw [e] at h;cases h
 | some cs=>
  rw [e] at h
  simp only at h ⊢
  obtain ⟨p1,p2⟩:=PyFlat.put_calls _ _ _ e
  rw [Bool.and_eq_true] at h
  obtain ⟨h1,h2⟩:=h
  unfold Sa39Neutral.asked at h2
  rw [Bool.and_eq_true] at h2
  have h3:=List.all_eq_true.mp h2.1
  obtain ⟨cls,q1,q2,q3,q4⟩:=zk6 cs p2 fun c hc=>h3 _ (List.mem_map.mpr ⟨c,hc,rfl⟩)
  refine ⟨cls,p1.trans q1,q3,?_,?_⟩
  ·unfold PyFlat.atMost at h1
   rw [decide_eq_true_eq,List.length_map] at h1
   omega
  ·rw [show Sa39Neutral.start=(none:Abs) from rfl,q4 none (fun h e=>(by cases e))]
   rfl
end CH
namespace CH
open PySem L2 PySem.Spec PyProof.Rows
theorem zoD {P:Program} {w:World} {K:PySem.W.Frag} {mg mb:Str→Option Value} {k:Nat} {fa a:Addr} {nm x:Str} {sp:Sp} {s₁:Shared} {vs:List Value} {ns out:List Int}
  (KX:K.In s₁.heap) (hns:s₁.heap.Ns mainGlobals mg) (hb:s₁.heap.Ns builtinsNs mb) (hbb:∀x:Str,x≠"__name__"→mb x=bootBuiltins x) (hlim:s₁.heap.NoLimit) (hg:s₁.gens=#[])
  (ha:s₁.heap.get? a=some {cls:=.type "list",data:=.seq vs.toArray}) (hi:IntsAre vs ns) (hl:ns.length≤sizeLine) (hr:za9 k callerA) (hmg:mg nm=some (.ref fa))
  (F:∀base:Heap,K.In base→base.Ns mainGlobals mg→yG P w K mg base k nm [x] sp)
  (hsp:∀H:Hp,zsC H→SqL K H a (ns.map V.int)→sp [.ref a] H (fun v H'=>∃p,v=.ref p∧zaP H' p out) E0):
  codeAny (model P w) callerA (.call (.ref fa) ⟨[.ref a],[]⟩) (fun r s'=>(∃p vs' n,r=.ok (.ret (.ref p))∧s'.heap.get? p=some {cls:=.type "list",data:=.seq (List.toArray vs') n}∧IntsAre vs' out)∧OldK s₁.heap s'.heap∧s'.os=s₁.os∧AllBare s'.gens) s₁:=by
 have rv:=zil hi
 have lenV:=hi.length
 have core:∀H:Hp,zsC H→SqL K H a (ns.map V.int)→HOk P w H s₁.heap→(∀b,H b≠none→b=a)→(H a≠none→K.lookup a=none)→
   codeAny (model P w) callerA (.call (.ref fa) ⟨[.ref a],[]⟩) (fun r s'=>(∃p vs' n,r=.ok (.ret (.ref p))∧s'.heap.get? p=some {cls:=.type "list",data:=.seq (List.toArray vs') n}∧IntsAre vs' out)∧OldK s₁.heap s'.heap∧s'.os=s₁.os∧AllBare s'.gens) s₁:=by
  intro H hO hS hok hA hK
  have base_of:∀{b:Addr} {o:Obj},s₁.heap.get? b=some o→H b=none→(zoM s₁.heap H).get? b=some o:=fun e n=>zoL e n
  have noA:∀{b:Addr} {o:Obj} {es:Array DictEntry} {ep:Nat},s₁.heap.get? b=some o→o.data=.dict es ep→H b=none:=fun {b o es ep} e d=>by
   cases q:H b with
   | none=>rfl
   | some u=>
    have e':b=a:=hA b (by rw [q];simp)
    subst e'
    rw [ha] at e;cases e
    have d':Data.seq vs.toArray _=Data.dict es ep:=d
    cases d'
  have nsK:∀{b:Addr} {m:Str→Option Value},s₁.heap.Ns b m→(zoM s₁.heap H).Ns b m:=fun {b m} ⟨o,es,ep,e,d,r⟩=>⟨o,es,ep,base_of e (noA e d),d,r⟩
  have hKb:K.In (zoM s₁.heap H):=fun b o e=>base_of (KX b o e) (by
   cases q:H b with
   | none=>rfl
   | some u=>
    have e':b=a:=hA b (by rw [q];simp)
    subst e'
    rw [hK (by rw [q];simp)] at e;cases e)
  have hM:Mod K mg (zoM s₁.heap H):=⟨hKb,nsK hns,⟨mb,nsK hb,hbb⟩,let ⟨mc,h1,h2⟩:=hlim;⟨mc,nsK h1,h2⟩⟩
  have e0:zqh P w K mg (zoM s₁.heap H) callerA [] s₁ H:=⟨rfl,hM,fun b o e=>zpL e,Nat.le_of_eq (znq _ _),trivial,fun b hb=>absurd (show b ∈ ([]:List Addr) from hb) (by simp),hok,.of_eq hg⟩
  obtain ⟨f,fd,Fk,hf,_,hbi⟩:=(F _ hKb (nsK hns)).ex
  rw [hmg] at hf
  cases hf
  have hbind:BindsTo s₁ fd ⟨[.ref a],[]⟩ ([x].zip [.ref a]):=hbi s₁ [.ref a] KX rfl
  refine codeAny_mono (Fk.run callerA [] s₁ H ⟨[.ref a],[]⟩ [.ref a] [.ref a] _ _ hr e0 hbind (.cons rfl .nil) (hsp H hO hS)) fun r s' h=>?_
  cases r with
  | error e=>exact False.elim h
  | ok fl=>
   cases fl with
   | next=>exact False.elim h
   | brk=>exact False.elim h
   | cont=>exact False.elim h
   | ret u=>
    obtain ⟨v,H',os,bare,un,hok',r',p,q1,q2⟩:=h
    subst q1
    obtain rfl:u=Value.ref p:=r'
    obtain ⟨_,its,n,hv,ho⟩:=(show za0 P w H' s'.heap p (.lst (out.map V.int)) from hok' p _ q2)
    refine ⟨⟨p,its,n,rfl,ho,hv.ints⟩,OldK.of_keep fun b o e=>?_,os,bare⟩
    cases q:H b with
    | none=>exact un.keep b o e q (by intro z;exact absurd (show b ∈ ([]:List Addr) from z) (by simp)) (by simp)
    | some u=>
     rcases hO b with z | ⟨ob,xs,z⟩
     ·rw [q] at z;cases z
     ·have z2:=un.frzs b ob _ z
      obtain ⟨e1,_⟩:=hok b _ z
      obtain ⟨e2,_⟩:=hok' b _ z2
      rw [e] at e1;cases e1
      exact e2
 cases hk:K.lookup a with
 | some o=>
  have e:=KX a o hk
  rw [ha] at e
  cases e
  refine core (fun _=>none) (fun _=>.inl rfl) (.inr ⟨_,vs.toArray,_,hk,rfl,rfl,rfl,by rw [List.size_toArray,lenV];exact hl,by simpa using rv⟩) (fun b u z=>by have z':(none:Option HO)=some u:=z;cases z') (fun b z=>absurd rfl z) fun z=>absurd rfl z
 | none=>
  refine core (fun b=>if b=a then some (.frz {cls:=.type "list",data:=.seq vs.toArray} (.lst (ns.map V.int))) else none) (fun b=>?_) (.inl (.inr ⟨{cls:=.type "list",data:=.seq vs.toArray},if_pos rfl⟩)) (fun b u z=>?_) (fun b z=>?_) fun _=>hk
  ·by_cases hb:b=a
   ·exact .inr ⟨_,_,if_pos hb⟩
   ·exact .inl (if_neg hb)
  ·by_cases hb:b=a
   ·have z':=(if_pos hb).symm.trans z
    cases z'
    subst hb
    exact ⟨ha,by rw [List.length_map];exact hl,vs,_,rv,ha⟩
   ·have z':=(if_neg hb).symm.trans z
    cases z'
  ·by_cases hb:b=a
   ·exact hb
   ·exact absurd (if_neg hb) z
theorem zgs {cl:Str→Option Addr} {h:Heap}:∀{vs:List Value} {ns:List Int},IntsAre vs ns→PySem.W.ReadsAllW [] cl h vs (ns.map PySem.W.WData.int) []
 | _,_,.nil=>.nil
 | _,_,.cons n t r=>.cons (.int n t) (zgs r)
theorem walk_all (said:rw_.wellSaid=true) {q:Program} {loose:List Str} {XP:(Str→Option Value)→Heap→Prop} {YP:World→Heap→Prop} {d:DefRec} (hdn:d.name="answers")
  (hT:∀(w:World) (mg:Str→Option Value) (h:Heap),YP w h→h.Ns mainGlobals mg→∃(K:PySem.W.Frag) (c:Cl) (le ln:Addr),K.In h∧Txt K mg c le ln∧YM K mg c):
  PySem.W.WalkOS q loose XP YP rw_ d [] (fun f vs=>PySem.call f vs):=by
 intro w s₀ s₁ mg mb G Y fa o pm cd doc dV kV ho hd hcd hD hmg hg args vals as hpre hlay hrd hwl hlo
 obtain ⟨a,hw,hask,rfl⟩:=(PySem.W.OpenSpec.pre_iff said args).mp hpre
 obtain ⟨ns,u⟩:=a
 have hwl':PySem.W.WellAll w.params s₁.heap vals [PySem.W.WData.list (ns.map PySem.W.WData.int)]:=hwl
 have hask':PySa39.answers_asked ns=true:=hask
 have hlen:ns.length≤30000:=by
  have h1:(PySem.W.Codec.inList 0 30000 (PySem.W.Codec.inInt (-2147483648) 4294967295) ns&&true)=true:=hw
  rw [Bool.and_true] at h1
  unfold PySem.W.Codec.inList PySem.W.Codec.inLen at h1
  rw [Bool.and_eq_true] at h1
  exact (PySem.W.Codec.inNat_iff.mp h1.1).2
 obtain ⟨cls,hl,hok,hn,hdue⟩:=zrh hask'
 obtain ⟨la,vs,rfl,hobj,hints⟩:∃la vs,vals=[Value.ref la]∧s₁.heap.get? la=some {cls:=.type "list",data:=.seq (List.toArray vs)}∧IntsAre vs ns:=by
  cases hwl' with
  | cons w1 w2=>
   cases w2
   cases w1 with
   | list ho hall=>exact ⟨_,_,rfl,ho,Att.ints_of_wellAll ns _ hall⟩
 obtain ⟨K,c,le,ln,KX,T,Fs⟩:=hT w mg s₁.heap Y G.T.g
 rw [hdn] at hmg
 refine PySem.W.enter_call (codeAny_mono (zoD (P:=rw_.prog) (w:=w) (x:="calls") (sp:=zgp K) (ns:=ns) (out:=PySa39.answers ns) KX G.T.g G.T.b G.T.builtins G.T.nolimit hg hobj hints (Nat.le_trans hlen (by rw [sizeLine_eq];decide)) ⟨rfl,by decide,by decide⟩ hmg (fun base kb nb=>zlP T Fs) ?_) fun r s' hq=>?_)
 ·intro H hO hS
  refine ⟨la,cls,rfl,by rw [← hl];exact hS,hok,hn,fun p H' hp=>⟨p,rfl,?_⟩⟩
  rw [hdue];exact hp
 ·obtain ⟨⟨p,vs',n,rfl,ho,hv⟩,h2,h3,h4⟩:=hq
  have hrd':PySem.W.ReadsAllW [] (PySem.classAt s₀.heap) s'.heap (List.toArray vs').toList ((PySa39.answers ns).map PySem.W.WData.int) []:=zgs hv
  refine ⟨.inl ⟨.ref p,.list ((PySa39.answers ns).map PySem.W.WData.int),[p],rfl,fun _=>rfl,.list ho rfl rfl hrd',(PySem.W.OpenSpec.post_iff said hw _ _).mpr rfl,fun z=>(by cases z)⟩,h2,h3,h4⟩
end CH
theorem PySem.Challenge.cw_callhouse_s01_answers_holds : PySem.Challenge.rw_callhouse_s01_answers.Holds := by
 exact @HQ.h0 ⟨fun _ _ _ _ _ h1 h2=>CH.walk_all (by decide +kernel) h1 h2⟩
#print axioms PySem.Challenge.cw_callhouse_s01_answers_holds
