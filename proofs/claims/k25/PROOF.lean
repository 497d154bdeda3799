import PyProof.Rows.All
import Wide.All
import OpenK.AllK
import Wide.FinOn
import Lean
import PyProof.EqAt
import PyProof.EqKinds
import PyProof.TupleCall
import PyProof.NeKinds
import PySem.Challenge.RW_secondread_k25_dealt
set_option Elab.async false
set_option linter.all false
set_option maxRecDepth 100000
set_option maxHeartbeats 4000000
namespace L2
open PySem PySem.Spec PyProof.Rows
abbrev Key:=Sum Int Str
def keyIs:Key→Value→Bool
 | .inl k,v=>Value.isInt k v
 | .inr x,v=>Value.isStrOf x v
def keyH (w:World):Key→Int
 | .inl k=>hashInt k
 | .inr x=>hashStr w x
theorem keyIs_shape:∀ {k:Key} {v:Value},keyIs k v=true→(∃ i t,k=Sum.inl i∧v=Value.int i t)∨(∃ x t,k=Sum.inr x∧v=Value.str x t)
 | .inl i,v,h=>by
   obtain ⟨t,e⟩:=Value.isInt_shape (k:=i) (v:=v) h
   exact .inl ⟨i,t,rfl,e⟩
 | .inr x,v,h=>by
   obtain ⟨t,e⟩:=Value.isStrOf_shape (x:=x) (v:=v) h
   exact .inr ⟨x,t,rfl,e⟩
theorem zim (i:Int) (t:Tok):keyIs (.inl i) (.int i t)=true:=by simp [keyIs,Value.isInt]
theorem zin (x:Str) (t:Tok):keyIs (.inr x) (.str x t)=true:=by simp [keyIs,Value.isStrOf]
theorem zlW (a b:Int):decide ((Sum.inl a:Key)=Sum.inl b)=(a == b):=by
 by_cases e:a=b
 ·subst e;simp
 ·have h:¬(Sum.inl a:Key)=Sum.inl b:=fun q=>e (Sum.inl.inj q)
  rw [decide_eq_false h]
  exact (beq_eq_false_iff_ne.mpr e).symm
theorem zlX (a b:Str):decide ((Sum.inr a:Key)=Sum.inr b)=decide (a=b):=by
 by_cases e:a=b
 ·subst e;simp
 ·have h:¬(Sum.inr a:Key)=Sum.inr b:=fun q=>e (Sum.inr.inj q)
  rw [decide_eq_false h,decide_eq_false e]
theorem zlY (a:Int) (b:Str):decide ((Sum.inl a:Key)=Sum.inr b)=false:=decide_eq_false (fun q=>nomatch q)
theorem zlZ (a:Str) (b:Int):decide ((Sum.inr a:Key)=Sum.inl b)=false:=decide_eq_false (fun q=>nomatch q)
def zbk (prog:Program) (w:World):PySem.KeyKind prog w Key where
 is:=keyIs
 hash:=keyH w
 inj:=fun v a b ha hb=>by
  rcases keyIs_shape ha with ⟨i,t,rfl,rfl⟩ | ⟨x,t,rfl,rfl⟩
  ·rcases keyIs_shape hb with ⟨j,u,rfl,e⟩ | ⟨y,u,rfl,e⟩
   ·injection e with e1 _;rw [e1]
   ·exact nomatch e
  ·rcases keyIs_shape hb with ⟨j,u,rfl,e⟩ | ⟨y,u,rfl,e⟩
   ·exact nomatch e
   ·injection e with e1 _;rw [e1]
 byValue:=fun k v h=>by
  rcases keyIs_shape h with ⟨i,t,rfl,rfl⟩ | ⟨x,t,rfl,rfl⟩ <;> rfl
 pyHash:=fun hv h=>by
  rcases keyIs_shape hv with ⟨i,t,rfl,rfl⟩ | ⟨x,t,rfl,rfl⟩
  ·exact wpAny_pyHash_int h
  ·exact wpAny_pyHash_str h
 eqBool:=fun hu hv h=>by
  rcases keyIs_shape hu with ⟨i,t,rfl,rfl⟩ | ⟨x,t,rfl,rfl⟩
  ·rcases keyIs_shape hv with ⟨j,u,rfl,rfl⟩ | ⟨y,u,rfl,rfl⟩
   ·rw [zlW] at h;exact wpAny_eqBool_int h
   ·rw [zlY] at h;exact SeqAt.EqAt.int_str i t y u _ _ _ _ h
  ·rcases keyIs_shape hv with ⟨j,u,rfl,rfl⟩ | ⟨y,u,rfl,rfl⟩
   ·rw [zlZ] at h;exact SeqAt.EqAt.str_int x t j u _ _ _ _ h
   ·rw [zlX] at h;exact wpAny_eqBool_str h
 «strs»:=fun k x t v h=>by
  rcases keyIs_shape h with ⟨i,u,rfl,e⟩ | ⟨y,u,rfl,e⟩
  ·exact nomatch e
  ·injection e with e1 _
   subst e1
   cases v <;> rfl
theorem zgt (prog:Program) (w:World) (i:Int) (t:Tok):(zbk prog w).is (.inl i) (.int i t)=true:=zim i t
theorem zgu (prog:Program) (w:World) (x:Str) (t:Tok):(zbk prog w).is (.inr x) (.str x t)=true:=zin x t
end L2
namespace L2
open PySem PySem.Spec PyProof.Rows
inductive V where
 | non | bl (b:Bool) | int (i:Int) | str (x:Str) | byt (b:Array UInt8) | flt (b:UInt64) | ref (a:Addr) | ty (n:String)
 deriving DecidableEq
def RelV:V→Value→Prop
 | .non,u=>u=Value.none
 | .bl b,u=>u=Value.bool b
 | .int i,u=>∃ t,u=Value.int i t
 | .str x,u=>∃ t,u=Value.str x t
 | .byt b,u=>∃ t,u=Value.bytes b t
 | .flt b,u=>∃ t,u=Value.float b t
 | .ref a,u=>u=Value.ref a
 | .ty n,u=>u=Value.type n
abbrev Vals:List V→List Value→Prop:=Paired RelV
theorem Vals.length {xs:List V} {us:List Value} (r:Vals xs us):xs.length=us.length:=Paired.length r
theorem Vals.get:∀ {xs:List V} {us:List Value} {i:Nat} {x:V},Vals xs us→xs[i]? = some x→∃ u,us[i]? = some u∧RelV x u
 | _,_,_,_,.nil,e=>by simp at e
 | _,_,0,_,.cons r _,e=>by simp at e;subst e;exact ⟨_,rfl,r⟩
 | _,_,i+1,x,.cons _ t,e=>by
   obtain ⟨u,h1,h2⟩:=Vals.get (i:=i) (x:=x) t (by simpa using e)
   exact ⟨u,by simpa using h1,h2⟩
theorem Vals.set {x:V} {u:Value} (r:RelV x u):∀ {xs:List V} {us:List Value} (i:Nat),Vals xs us→Vals (xs.set i x) (us.set i u)
 | _,_,_,.nil=>.nil
 | _,_,0,.cons _ t=>.cons r t
 | _,_,i+1,.cons q t=>.cons q (Vals.set r i t)
theorem Vals.append:∀ {xs ys:List V} {us ws:List Value},Vals xs us→Vals ys ws→Vals (xs++ys) (us++ws)
 | _,_,_,_,.nil,s=>s
 | _,_,_,_,.cons r t,s=>.cons r (Vals.append t s)
theorem Vals.take:∀ {xs:List V} {us:List Value} (n:Nat),Vals xs us→Vals (xs.take n) (us.take n)
 | _,_,0,_=>.nil
 | _,_,_+1,.nil=>.nil
 | _,_,n+1,.cons r t=>.cons r (Vals.take n t)
theorem Vals.drop:∀ {xs:List V} {us:List Value} (n:Nat),Vals xs us→Vals (xs.drop n) (us.drop n)
 | _,_,0,r=>r
 | _,_,_+1,.nil=>.nil
 | _,_,n+1,.cons _ t=>Vals.drop n t
def RelO:Option V→Option Value→Prop
 | some v,some u=>RelV v u
 | none,none=>True
 | _,_=>False
def KV {κ:Type}:List (κ×V)→List (κ×Value)→Prop:=Paired fun (p:κ×V) (q:κ×Value)=>p.1=q.1∧RelV p.2 q.2
def kV:Key→V
 | .inl i=>.int i
 | .inr x=>.str x
inductive HO where
 | lst (xs:List V)
 | tup (xs:List V)
 | dK (kvs:List (Key×V)) | dT (kvs:List (List Key×V))
 | set (S:Int→Bool) (n:Nat)
 | ins (C dx:Addr) (fs:List (Str×V))
 | own (x:Addr)
 | xd (fs:List (Str×V))
 | met (f x:Addr)
 | rng (lo hi:Int)
 | frz (o:Obj) (u:HO)
 | tbl (ps:Array Value)
 | ext (φ:Heap→Prop)
abbrev Hp:=Addr→Option HO
def upd (H:Hp) (a:Addr) (o:HO):Hp:=fun b=>if b=a then some o else H b
theorem zar {H:Hp} {a:Addr} {o:HO}:upd H a o a=some o:=by unfold upd;rw [if_pos rfl]
theorem zaD {H:Hp} {a b:Addr} {o:HO} (h:b≠a):upd H a o b=H b:=by unfold upd;rw [if_neg h]
theorem zlc {H:Hp} {a:Addr} {o u:HO}:upd (upd H a o) a u=upd H a u:=by
 funext b;unfold upd;split <;> rfl
theorem zm8 {H:Hp} {a b:Addr} {o u:HO} (h:H a=some o) (h':H b=some u) (d:o≠u):a≠b:=by
 intro e;subst e;rw [h] at h';exact d (Option.some.inj h')
theorem zag {H:Hp} {a b:Addr} {o:HO} (h:H a=some o) (h':H b=none):a≠b:=by
 intro e;subst e;rw [h] at h';cases h'
section
variable (P:Program) (w:World)
def zbs (H:Hp) (h:Heap) (a:Addr):HO→Prop
 | .lst xs=>xs.length≤sizeLine∧∃ (its:List Value) (n:Nat),Vals xs its∧h.get? a=some { cls:=.type "list",data:=.seq its.toArray n }
 | .tup xs=>xs.length≤sizeLine∧∃ its:List Value,Vals xs its∧IsTup h a its.toArray
 | .dK kvs=>kvs.length≤sizeLine∧(a == sysModules)=false∧∃ vs,KV kvs vs∧h.DictOf (zbk P w) a vs
 | .dT kvs=>kvs.length≤sizeLine∧(a == sysModules)=false∧∃ xs:List (List Key×Addr×Value),
    Paired (fun (p:List Key×V) (q:List Key×Addr×Value)=>p.1=q.1∧H q.2.1=some (.tup (p.1.map kV))∧RelV p.2 q.2.2) kvs xs ∧
    ∃ o es ep,h.get? a=some o∧o.ExactDict∧o.data=.dict es ep∧es.toList=xs.map (entryOfKey (tupleKind (zbk P w)))∧(xs.map (·.1)).Nodup
 | .set S n=>h.SetOf (intKind P w) a S n
 | .ins C dx fs=>H dx=some (.own a)∧fs.length≤1000∧dx≠a∧h.get? a=some (PySem.W.instObj C dx) ∧
    ∃ mA,h.Ns1 dx mA∧(∀ f,RelO (fs.lookup f) (mA f))∧PySem.Within mA (fs.map (·.1))
 | .own _=>∃ o,h.get? a=some o
 | .xd fs=>∃ mA,h.Ns1 a mA∧∀ f,RelO (fs.lookup f) (mA f)
 | .rng lo hi=>∃ t u v,h.get? a=some { cls:=.type "range",data:=.fields #[.int lo t,.int hi u,.int 1 v] }
 | .frz o u=>h.get? a=some o∧zbs H h a u
 | .tbl ps=>h.get? a=some { cls:=.none,data:=.fields ps }
 | .met f x=>h.get? a=some (PySem.W.methodObj (.ref f) (.ref x))
 | .ext φ=>φ h∧(∃ o,h.get? a=some o)∧∀ h1 h2:Heap,φ h1→(∀ o,h1.get? a=some o→h2.get? a=some o)→φ h2
def HOk (H:Hp) (h:Heap):Prop:=∀ a o,H a=some o→zbs P w H h a o
end
section
variable {P:Program} {w:World} {H H':Hp} {h h':Heap} {a:Addr} {o:HO}
theorem zbs.lt (x:zbs P w H h a o):a < h.objs.size:=by
 cases o with
 | lst xs=>obtain ⟨_,_,_,_,e⟩:=x;exact Heap.lt_size e
 | tup xs=>obtain ⟨_,_,_,p⟩:=x;exact p.lt
 | dK kvs=>obtain ⟨_,_,_,_,o,_,_,e,_⟩:=x;exact Heap.lt_size e
 | dT kvs=>obtain ⟨_,_,_,_,o,_,_,e,_⟩:=x;exact Heap.lt_size e
 | set S n=>obtain ⟨o,_,_,_,e,_⟩:=x;exact Heap.lt_size e
 | ins C dx fs=>obtain ⟨_,_,_,e,_⟩:=x;exact Heap.lt_size e
 | own y=>obtain ⟨_,e⟩:=x;exact Heap.lt_size e
 | xd fs=>obtain ⟨_,⟨_,_,_,e,_⟩,_⟩:=x;exact Heap.lt_size e
 | rng lo hi=>obtain ⟨_,_,_,e⟩:=x;exact Heap.lt_size e
 | frz ob u=>obtain ⟨e,_⟩:=x;exact Heap.lt_size e
 | tbl ps=>exact Heap.lt_size (show h.get? a=some _ from x)
 | met f y=>exact Heap.lt_size (show h.get? a=some _ from x)
 | ext φ=>obtain ⟨_,⟨_,e⟩,_⟩:=x;exact Heap.lt_size e
theorem Paired.mapP {α β:Type} {F G:α→β→Prop}:∀ {l₁:List α} {l₂:List β},Paired F l₁ l₂→(∀ a b,F a b→G a b)→Paired G l₁ l₂
 | _,_,.nil,_=>.nil
 | _,_,.cons r t,f=>.cons (f _ _ r) (Paired.mapP t f)
theorem zbs.stay (x:zbs P w H h a o) (k:∀ b u,(b=a∨H b=some (.own a))→h.get? b=some u→h'.get? b=some u)
  (ho:∀ b,H b=some (.own a)→H' b=some (.own a)) (ht:∀ b xs,H b=some (.tup xs)→H' b=some (.tup xs)):zbs P w H' h' a o:=by
 induction o with
 | lst xs=>obtain ⟨z,its,n,r,e⟩:=x;exact ⟨z,its,n,r,k _ _ (.inl rfl) e⟩
 | tup xs=>obtain ⟨z,its,r,ob,e,c⟩:=x;exact ⟨z,its,r,ob,k _ _ (.inl rfl) e,c⟩
 | dK kvs=>obtain ⟨z,y,vs,r,ob,es,ep,e,c⟩:=x;exact ⟨z,y,vs,r,ob,es,ep,k _ _ (.inl rfl) e,c⟩
 | dT kvs =>
   obtain ⟨z,y,xs,r,ob,es,ep,e,c⟩:=x
   exact ⟨z,y,xs,Paired.mapP r fun p q z=>⟨z.1,ht _ _ z.2.1,z.2.2⟩,ob,es,ep,k _ _ (.inl rfl) e,c⟩
 | set S n=>obtain ⟨ob,es,ep,t,e,c⟩:=x;exact ⟨ob,es,ep,t,k _ _ (.inl rfl) e,c⟩
 | ins C dx fs =>
   obtain ⟨d,z,ne,e,mA,⟨od,es,ep,e2,c⟩,r⟩:=x
   exact ⟨ho _ d,z,ne,k _ _ (.inl rfl) e,mA,⟨od,es,ep,k _ _ (.inr d) e2,c⟩,r⟩
 | own y=>obtain ⟨ob,e⟩:=x;exact ⟨ob,k _ _ (.inl rfl) e⟩
 | xd fs=>obtain ⟨mA,⟨od,es,ep,e,c⟩,r⟩:=x;exact ⟨mA,⟨od,es,ep,k _ _ (.inl rfl) e,c⟩,r⟩
 | rng lo hi=>obtain ⟨t,u,v,e⟩:=x;exact ⟨t,u,v,k _ _ (.inl rfl) e⟩
 | frz ob u ih=>obtain ⟨e,q⟩:=x;exact ⟨k _ _ (.inl rfl) e,ih q⟩
 | tbl ps =>
   have e:h.get? a=some { cls:=.none,data:=.fields ps }:=x
   show h'.get? a=some { cls:=.none,data:=.fields ps }
   exact k a _ (.inl rfl) e
 | met f y =>
   have e:h.get? a=some (PySem.W.methodObj (.ref f) (.ref y)):=x
   show h'.get? a=some (PySem.W.methodObj (.ref f) (.ref y))
   exact k a _ (.inl rfl) e
 | ext φ=>obtain ⟨p,⟨o,e⟩,st⟩:=x;exact ⟨st _ _ p fun o q=>k _ _ (.inl rfl) q,⟨o,k _ _ (.inl rfl) e⟩,st⟩
theorem HOk.lt (x:HOk P w H h) (e:H a=some o):a < h.objs.size:=(x a o e).lt
theorem HOk.fresh (x:HOk P w H h) (e:h.objs.size≤a):H a=none:=by
 cases q:H a with
 | none=>rfl
 | some u=>exact absurd (Nat.lt_of_lt_of_le (x.lt q) e) (Nat.lt_irrefl _)
theorem HOk.kept (x:HOk P w H h) (k:∀ b u,h.get? b=some u→h'.get? b=some u):HOk P w H h':=fun a o e =>
 (x a o e).stay (fun b u _ q=>k b u q) (fun _ q=>q) fun _ _ q=>q
theorem HOk.laid (x:HOk P w H h) (k:∀ b u,h.get? b=some u→h'.get? b=some u) (hp:h.objs.size≤a) (new:zbs P w (upd H a o) h' a o):HOk P w (upd H a o) h':=fun b u e=>by
 have hn:=x.fresh hp
 by_cases hb:b=a
 ·subst hb;rw [zar] at e;cases e;exact new
 ·rw [zaD hb] at e
  exact (x b u e).stay (fun c v _ q=>k c v q) (fun c q=>by rw [zaD (zag q hn)];exact q) fun c xs q=>by rw [zaD (zag q hn)];exact q
end
def Rd (H:Hp) (a:Addr) (u:HO):Prop:=H a=some u∨∃ o,H a=some (.frz o u)
theorem Rd.ok {P:Program} {w:World} {H:Hp} {h:Heap} {a:Addr} {u:HO} (r:Rd H a u) (x:HOk P w H h):zbs P w H h a u:=by
 rcases r with r | ⟨o,r⟩
 ·exact x a u r
 ·obtain ⟨_,q⟩:=x a _ r
  exact q
def Mut:Option HO→Prop
 | some (.lst _)=>True
 | some (.dK _)=>True
 | some (.dT _)=>True
 | some (.set _ _)=>True
 | some (.ins _ _ _)=>True
 | some (.ext _)=>True
 | _=>False
section
variable {P:Program} {w:World} {H:Hp} {h h':Heap} {x e:Addr} {o':HO}
theorem HOk.write (ok:HOk P w H h) (mu:Mut (H x)) (he:e=x∨H e=some (.own x)) (k:∀ b u,b≠e→h.get? b=some u→h'.get? b=some u) (heo:∃ u,h'.get? e=some u)
  (new:zbs P w (upd H x o') h' x o'):HOk P w (upd H x o') h':=fun b u q=>by
 have nown:∀ c y,H c=some (.own y)→c≠x:=fun c y r z=>by subst z;rw [r] at mu;exact mu
 have ntup:∀ c xs,H c=some (.tup xs)→c≠x:=fun c xs r z=>by subst z;rw [r] at mu;exact mu
 by_cases hb:b=x
 ·subst hb;rw [zar] at q;cases q;exact new
 ·rw [zaD hb] at q
  by_cases hbe:b=e
  ·have q':H b=some (.own x):=by
    rcases he with z | z
    ·exact absurd (hbe.trans z) hb
    ·rw [hbe];exact z
   rw [q] at q';cases q'
   obtain ⟨v,hv⟩:=heo
   exact ⟨v,by rw [hbe];exact hv⟩
  ·refine (ok b u q).stay (fun c v hc r=>k c v ?_ r) (fun c r=>by rw [zaD (nown c b r)];exact r) fun c xs r=>by rw [zaD (ntup c xs r)];exact r
   rcases hc with rfl | hc
   ·exact hbe
   ·rintro rfl
    rcases he with z | z
    ·exact nown c b hc z
    ·rw [hc] at z;cases z;exact hb rfl
end
structure Un (fs ex:List Addr) (H H':Hp) (h h':Heap):Prop where
 keep:∀ b o,h.get? b=some o→H b=none→b∉fs→b∉ex→h'.get? b=some o
 slot:∀ b o,h.get? b=some o→H b=none→b∈fs→b∉ex→∃ sl,h'.get? b=some { o with slots:=sl }
 free:∀ b o,h.get? b=some o→H b=none→b∉ex→H' b=none
 there:∀ b o,h.get? b=some o→b∉ex→∃ o',h'.get? b=some o'
 tups:∀ b xs,H b=some (.tup xs)→H' b=some (.tup xs)
 frzs:∀ b o u,H b=some (.frz o u)→H' b=some (.frz o u)
 tbls:∀ b ps,H b=some (.tbl ps)→∃ more,H' b=some (.tbl (ps++more))
section
variable {fs fs' ex ex':List Addr} {H H1 H2:Hp} {h h1 h2 h':Heap} {a x e:Addr} {o:HO}
theorem Un.any (u:Un fs ex H H1 h h1) {b:Addr} {ob:Obj} (q:h.get? b=some ob) (n:H b=none) (hx:b∉ex):∃ sl,h1.get? b=some { ob with slots:=sl }:=by
 by_cases hb:b∈fs
 ·exact u.slot b ob q n hb hx
 ·exact ⟨ob.slots,u.keep b ob q n hb hx⟩
theorem Un.kept (k:∀ b u,h.get? b=some u→h'.get? b=some u):Un fs ex H H h h' :=
 ⟨fun b ob q _ _ _=>k b ob q,fun b ob q _ _ _=>⟨ob.slots,k b ob q⟩,fun _ _ _ n _=>n,fun b ob q _=>⟨ob,k b ob q⟩,fun _ _ q=>q,fun _ _ _ q=>q,fun _ ps q=>⟨#[],by rw [q];simp⟩⟩
theorem Un.refl:Un fs ex H H h h:=Un.kept fun _ _ q=>q
theorem Un.laid (k:∀ b u,h.get? b=some u→h'.get? b=some u) (hp:h.objs.size≤a) (hn:H a=none):Un fs ex H (upd H a o) h h' where
 keep:=fun b u q _ _ _=>k b u q
 slot:=fun b u q _ _ _=>⟨u.slots,k b u q⟩
 free:=fun b u q n _=>by rw [zaD (Nat.ne_of_lt (Nat.lt_of_lt_of_le (Heap.lt_size q) hp))];exact n
 there:=fun b u q _=>⟨u,k b u q⟩
 tups:=fun b xs q=>by rw [zaD (zag q hn)];exact q
 frzs:=fun b u xs q=>by rw [zaD (zag q hn)];exact q
 tbls:=fun b ps q=>⟨#[],by rw [zaD (zag q hn),q];simp⟩
theorem Un.write (mu:Mut (H x)) (he:e=x∨H e=some (.own x)) (k:∀ b u,b≠e→h.get? b=some u→h'.get? b=some u) (heo:∃ u,h'.get? e=some u):Un fs ex H (upd H x o) h h':=by
 have hx:∀ b,H b=none→b≠x:=fun b n z=>by subst z;rw [n] at mu;exact mu
 have hb:∀ b,H b=none→b≠e:=fun b n z=>by
  subst z
  rcases he with r | r
  ·exact hx b n r
  ·rw [n] at r;cases r
 have hm:∀ b u,H b=some u→¬Mut (some u)→b≠x:=fun b u q nm z=>by subst z;rw [q] at mu;exact nm mu
 refine ⟨fun b u q n _ _=>k b u (hb b n) q,fun b u q n _ _=>⟨u.slots,k b u (hb b n) q⟩,fun b u q n _=>by rw [zaD (hx b n)];exact n,fun b u q _=>?_,
  fun b xs q=>by rw [zaD (hm b _ q fun z=>z)];exact q,fun b u xs q=>by rw [zaD (hm b _ q fun z=>z)];exact q,fun b ps q=>⟨#[],by rw [zaD (hm b _ q fun z=>z),q];simp⟩⟩
 by_cases hbe:b=e
 ·subst hbe;exact heo
 ·exact ⟨u,k b u hbe q⟩
end
def trk (h:Heap) (H:Hp):List Addr:=(List.range h.objs.size).filter fun a=>(H a).isSome
def hidT (h:Heap) (H:Hp):Heap:=PySem.W.hideAll h (trk h H)
theorem zio (h:Heap) (H:Hp):(hidT h H).objs.size=h.objs.size:=PySem.W.hideAll_size _ _
theorem zjM {h:Heap} {H:Hp} {b:Addr} {o:Obj} (e:h.get? b=some o) (n:H b=none):(hidT h H).get? b=some o :=
 PySem.W.hideAll_get _ e fun hm=>by
  have q:(H b).isSome=true:=(List.mem_filter.mp hm).2
  rw [n] at q;simp at q
theorem zld {h:Heap} {H:Hp} {b:Addr} {o:Obj} (e:(hidT h H).get? b=some o):h.get? b=some o∧H b=none:=by
 have e':h.get? b=some o:=PySem.W.of_hideAll (trk h H) e
 refine ⟨e',?_⟩
 cases q:H b with
 | none=>rfl
 | some x =>
   have hm:b∈trk h H:=List.mem_filter.mpr ⟨List.mem_range.mpr (Heap.lt_size e'),by simp [q]⟩
   have z:(hidT h H).get? b=none:=PySem.W.hideAll_none (trk h H) hm
   rw [z] at e;cases e
end L2
namespace L2
open PySem PySem.Spec PyProof.Rows
structure Mod (K:PySem.W.Frag) (mg:Str→Option Value) (base:Heap):Prop where
 kin:K.In base
 glob:base.Ns mainGlobals mg
 blt:∃ mb,base.Ns builtinsNs mb∧∀ x:Str,x≠"__name__"→mb x=bootBuiltins x
 nolimit:base.NoLimit
structure Cx where
 prog:Program
 w:World
 K:PySem.W.Frag
 mg:Str→Option Value
 base:Heap
 A:Around
 N:List Str
 s₀:Shared
 H₀:Hp
 env:Env
 outer:List Env
 stack:List Env
 ex:List Addr
 fn:Str→Bool
 calm:Bool
 pn:List (Addr×Obj)
 xe:Value→Shared→Prop
def frs (l:List Env):List Addr:=l.filterMap (·.frame)
abbrev Cx.fs (X:Cx):List Addr:=frs X.outer
def Vis (sc:Scope) (x:Str):Prop:=sc.names.lookup x=some .local∨sc.names.lookup x=some .cell∨sc.names.lookup x=some .free
def Loc (sc:Scope) (x:Str):Prop:=sc.names.lookup x=some .local∨sc.names.lookup x=some .cell
def Look (env:Env) (h:Heap) (m:Str→Option Value) (x:Str) (u:Value):Prop :=
 (env.kindOf x=some .local∧m x=some u)∨((env.kindOf x=some .cell∨env.kindOf x=some .free)∧∃ c,env.cells.lookup x=some c∧h.IsCell c (some u))
structure Cx.Ok (X:Cx):Prop where
 mod:Mod X.K X.mg X.base
 kind:X.env.scope.kind=.function
 glob:X.env.globals=mainGlobals
 blt:X.env.builtins=builtinsNs
 above:X.s₀.heap.objs.size≤X.env.locals
 inj:∀ x y c,X.env.cells.lookup x=some c→X.env.cells.lookup y=some c→x=y
 has:∀ x,(X.env.kindOf x=some .cell∨X.env.kindOf x=some .free)→∃ c,X.env.cells.lookup x=some c
 cab:∀ x c,X.fn x=true→X.env.cells.lookup x=some c→X.s₀.heap.objs.size≤c
 hd:X.calm=true→X.A.handled=none
 frames:X.A.frames=some X.stack
 stk:X.stack=X.outer∨(X.stack=X.env::X.outer∧X.env.frame=some X.env.locals)
 exf:∀ b∈X.ex,b≠X.env.locals∧∀ x c,X.env.cells.lookup x=some c→c≠b
 bs:∀ b o,X.base.get? b=some o→X.s₀.heap.get? b=some o∧X.H₀ b=none
 bsz:X.base.objs.size≤X.s₀.heap.objs.size
 noex:∀ b o,X.base.get? b=some o→b∉X.ex
 exfs:∀ b∈X.ex,b∉X.fs
 funs:X.s₀.heap.FunFrames X.base X.outer
 frf:∀ b∈X.fs,X.H₀ b=none
structure Inv (X:Cx) (pins:List (Addr×Obj)) (σ:List (Option V)) (H:Hp) (s:Shared):Prop where
 ok:X.Ok
 os:s.os=X.s₀.os
 bare:AllBare s.gens
 base:Un X.fs X.ex X.H₀ H X.s₀.heap s.heap
 loc:∃ m,s.heap.Ns X.env.locals m∧∀ (i:Nat) (x:Str) (v:V),X.N[i]? = some x→σ[i]? = some (some v)→Vis X.env.scope x→∃ u,RelV v u∧Look X.env s.heap m x u
 cell:∀ x c,X.env.cells.lookup x=some c→∃ v,s.heap.IsCell c v
 free:H X.env.locals=none
 freeC:∀ x c,X.env.cells.lookup x=some c→H c=none
 pin:∀ p∈X.pn++pins,s.heap.get? p.1=some p.2∧H p.1=none∧p.1≠X.env.locals∧p.1∉X.fs∧∀ v,p.2.data≠.cell v
 hok:HOk X.prog X.w H s.heap
 len:σ.length=X.N.length
section
variable {X:Cx} {pins:List (Addr×Obj)} {σ:List (Option V)} {H H':Hp} {s:Shared} {h':Heap}
theorem Cx.Ok.nofr (ok:X.Ok) {b:Addr} {o:Obj} (e:X.base.get? b=some o):b∉X.fs:=fun hb=>by
 have:=(ok.funs.mem hb).1
 rw [e] at this;cases this
theorem Inv.bs (I:Inv X pins σ H s):∀ b o,X.base.get? b=some o→s.heap.get? b=some o∧H b=none:=fun b o e =>
 ⟨I.base.keep b o (I.ok.bs b o e).1 (I.ok.bs b o e).2 (I.ok.nofr e) (I.ok.noex b o e),I.base.free b o (I.ok.bs b o e).1 (I.ok.bs b o e).2 (I.ok.noex b o e)⟩
theorem Inv.bk (I:Inv X pins σ H s):∀ b o,X.base.get? b=some o→s.heap.get? b=some o:=fun b o e=>(I.bs b o e).1
theorem Inv.mod (I:Inv X pins σ H s):Mod X.K X.mg X.base:=I.ok.mod
theorem Inv.kIn (I:Inv X pins σ H s):X.K.In s.heap:=I.ok.mod.kin.keeps I.bk
theorem Inv.lt (I:Inv X pins σ H s):X.env.locals < s.heap.objs.size:=let ⟨_,hn,_⟩:=I.loc;hn.lt
theorem Inv.sz (I:Inv X pins σ H s):X.s₀.heap.objs.size≤s.heap.objs.size:=Nat.le_trans I.ok.above (Nat.le_of_lt I.lt)
theorem Inv.nofs (I:Inv X pins σ H s) {a:Addr} (h:s.heap.objs.size≤a):a∉X.fs:=fun hb=>by
 obtain ⟨_,o,ho,_⟩:=I.ok.funs.mem hb
 exact absurd (Nat.lt_of_lt_of_le (Heap.lt_size ho) (Nat.le_trans I.sz h)) (Nat.lt_irrefl _)
theorem Inv.cne (I:Inv X pins σ H s):∀ x c,X.env.cells.lookup x=some c→c≠X.env.locals:=fun x c e z=>by
 obtain ⟨v,o,ho,hd⟩:=I.cell x c e
 obtain ⟨m,⟨o',es,ep,ho',hd',_⟩,_⟩:=I.loc
 rw [z,ho'] at ho;cases ho;rw [hd'] at hd;cases hd
theorem Inv.funs (I:Inv X pins σ H s):s.heap.FunFrames X.base X.outer:=by
 have all:∀ (l:List Env),(∀ b∈frs l,b∈X.fs)→X.s₀.heap.FunFrames X.base l→s.heap.FunFrames X.base l:=by
  intro l
  induction l with
  | nil=>intro _ _;trivial
  | cons env r ih =>
    intro hs hl
    obtain ⟨hk,⟨L,o,hf,hn,ho,hd⟩,hr⟩:=hl
    have hL:L∈X.fs:=hs L (by unfold frs;rw [List.filterMap_cons,hf];exact List.mem_cons_self)
    obtain ⟨sl,e⟩:=I.base.slot L o ho (I.ok.frf L hL) hL fun z=>I.ok.exfs L z hL
    exact ⟨hk,⟨L,_,hf,hn,e,hd⟩,ih (fun b hb=>hs b (by unfold frs;rw [List.filterMap_cons,hf];exact List.mem_cons_of_mem _ hb)) hr⟩
 exact all X.outer (fun _ hb=>hb) I.ok.funs
theorem Inv.stack (I:Inv X pins σ H s):s.heap.FunFrames X.base X.stack:=by
 rcases I.ok.stk with e | ⟨e,hf⟩
 ·rw [e];exact I.funs
 ·rw [e]
  obtain ⟨m,hn,_⟩:=I.loc
  refine .cons (by rw [I.ok.kind];decide) hf hn ?_ I.funs
  exact Heap.get?_none_of_le (Nat.le_trans I.ok.bsz I.ok.above)
theorem Inv.stkSub (I:Inv X pins σ H s):∀ b∈frs X.stack,b∈X.env.locals::X.fs:=fun b hb=>by
 rcases I.ok.stk with e | ⟨e,hf⟩
 ·rw [e] at hb;exact List.mem_cons_of_mem _ hb
 ·rw [e] at hb
  unfold frs at hb
  rw [List.filterMap_cons,hf] at hb
  exact hb
theorem Inv.stkFree (I:Inv X pins σ H s):∀ b∈frs X.stack,H b=none:=fun b hb=>by
 rcases List.mem_cons.mp (I.stkSub b hb) with e | hb
 ·rw [e];exact I.free
 ·obtain ⟨_,o,ho,_⟩:=I.ok.funs.mem hb
  exact I.base.free b o ho (I.ok.frf b hb) fun z=>I.ok.exfs b z hb
theorem Inv.step {g':Array GenState} {t':Nat} {d':Drawn} {ch:List Addr} (I:Inv X pins σ H s)
  (hch:∀ b∈ch,(b∈X.ex∨X.s₀.heap.objs.size≤b)∧b≠X.env.locals∧(∀ x c,X.env.cells.lookup x=some c→c≠b)∧∀ p∈X.pn++pins,p.1≠b)
  (keep:∀ b o,b≠X.env.locals→b∉X.fs→b∉ch→s.heap.get? b=some o→H b=none→h'.get? b=some o)
  (slot:∀ b o,b≠X.env.locals→b∈X.fs→b∉ch→s.heap.get? b=some o→H b=none→∃ sl,h'.get? b=some { o with slots:=sl }) (free:∀ b o,b∉ch→s.heap.get? b=some o→H b=none→H' b=none)
  (there:∀ b o,b∉ch→s.heap.get? b=some o→∃ o',h'.get? b=some o')
  (tups:∀ b xs,H b=some (.tup xs)→H' b=some (.tup xs)) (frzs:∀ b o u,H b=some (.frz o u)→H' b=some (.frz o u)) (tbls:∀ b ps,H b=some (.tbl ps)→∃ more,H' b=some (.tbl (ps++more)))
  (ns:∀ m,s.heap.Ns X.env.locals m→h'.Ns X.env.locals m) (hok:HOk X.prog X.w H' h') (hg:AllBare g') :
  Inv X pins σ H' { s with heap:=h',gens:=g',drawn:=d',toks:=t' }:=by
 have neL:∀ b o,X.s₀.heap.get? b=some o→b≠X.env.locals:=fun b o e=>Nat.ne_of_lt (Nat.lt_of_lt_of_le (Heap.lt_size e) I.ok.above)
 have neC:∀ b o,X.s₀.heap.get? b=some o→b∉X.ex→b∉ch:=fun b o e hx hb=>by
  rcases (hch b hb).1 with z | z
  ·exact hx z
  ·exact absurd (Nat.lt_of_lt_of_le (Heap.lt_size e) z) (Nat.lt_irrefl _)
 have cellK:∀ x c,X.env.cells.lookup x=some c→∀ v,s.heap.IsCell c v→h'.IsCell c v:=fun x c e v ⟨o,ho,hd⟩=>by
  have nch:c∉ch:=fun z=>(hch c z).2.2.1 x c e rfl
  by_cases hc:c∈X.fs
  ·obtain ⟨sl,q⟩:=slot c o (I.cne x c e) hc nch ho (I.freeC x c e)
   exact ⟨_,q,hd⟩
  ·exact ⟨o,keep c o (I.cne x c e) hc nch ho (I.freeC x c e),hd⟩
 refine ⟨I.ok,I.os,hg,⟨fun b o e n hb hx=>?_,fun b o e n hb hx=>?_,fun b o e n hx=>?_,fun b o e hx=>?_,fun b xs e=>tups b xs (I.base.tups b xs e),fun b o xs e=>frzs b o xs (I.base.frzs b o xs e),fun b ps e=>?_⟩,?_,fun x c e=>?_,?_,fun x c e=>?_,fun p hp=>?_,hok,I.len⟩
 ·exact keep b o (neL b o e) hb (neC b o e hx) (I.base.keep b o e n hb hx) (I.base.free b o e n hx)
 ·obtain ⟨sl,e1⟩:=I.base.slot b o e n hb hx
  obtain ⟨sl',e2⟩:=slot b _ (neL b o e) hb (neC b o e hx) e1 (I.base.free b o e n hx)
  exact ⟨sl',e2⟩
 ·obtain ⟨o',e1⟩:=I.base.there b o e hx
  exact free b o' (neC b o e hx) e1 (I.base.free b o e n hx)
 ·obtain ⟨o',e1⟩:=I.base.there b o e hx
  exact there b o' (neC b o e hx) e1
 ·obtain ⟨m1,e1⟩:=I.base.tbls b ps e
  obtain ⟨m2,e2⟩:=tbls b _ e1
  exact ⟨m1++m2,by rw [e2,Array.append_assoc]⟩
 ·obtain ⟨m,hn,hl⟩:=I.loc
  refine ⟨m,ns m hn,fun i x v e1 e2 e3=>?_⟩
  obtain ⟨u,r,l⟩:=hl i x v e1 e2 e3
  refine ⟨u,r,?_⟩
  rcases l with l | ⟨k,c,e,z⟩
  ·exact .inl l
  ·exact .inr ⟨k,c,e,cellK x c e _ z⟩
 ·obtain ⟨v,z⟩:=I.cell x c e
  exact ⟨v,cellK x c e v z⟩
 ·obtain ⟨m,⟨o,_,_,ho,_⟩,_⟩:=I.loc
  exact free _ o (fun z=>(hch _ z).2.1 rfl) ho I.free
 ·obtain ⟨v,o,ho,hd⟩:=I.cell x c e
  exact free c o (fun z=>(hch c z).2.2.1 x c e rfl) ho (I.freeC x c e)
 ·obtain ⟨e,n,ne,nf,d⟩:=I.pin p hp
  have nch:p.1∉ch:=fun z=>(hch p.1 z).2.2.2 p hp rfl
  exact ⟨keep p.1 p.2 ne nf nch e n,free p.1 p.2 nch e n,ne,nf,d⟩
theorem Inv.un {t':Nat} (I:Inv X pins σ H s) (u:Un X.fs [] H H' s.heap h') (hok:HOk X.prog X.w H' h'):Inv X pins σ H' { s with heap:=h',toks:=t' }:=by
 obtain ⟨m,⟨o,es,ep,ho,r⟩,_⟩:=id I.loc
 obtain ⟨sl,hL⟩:=u.any ho I.free (by simp)
 exact I.step (g':=s.gens) (d':=s.drawn) (ch:=[]) (fun _ z=>nomatch z) (fun b o _ hb _ e n=>u.keep b o e n hb (by simp)) (fun b o _ hb _ e n=>u.slot b o e n hb (by simp)) (fun b o _ e n=>u.free b o e n (by simp)) (fun b o _ e=>u.there b o e (by simp)) u.tups u.frzs u.tbls (fun m' hm=>by
  obtain ⟨o',es',ep',ho',r'⟩:=hm
  rw [ho] at ho';cases ho'
  exact ⟨_,es',ep',hL,r'⟩) hok I.bare
theorem Inv.call {g':Array GenState} {t':Nat} {d':Drawn} {ch:List Addr} (I:Inv X pins σ H s) (u:Un (frs X.stack) ch H H' s.heap h') (hok:HOk X.prog X.w H' h') (hg:AllBare g')
  (hch:∀ b∈ch,(b∈X.ex∨X.s₀.heap.objs.size≤b)∧b≠X.env.locals∧(∀ x c,X.env.cells.lookup x=some c→c≠b)∧∀ p∈X.pn++pins,p.1≠b) :
  Inv X pins σ H' { s with heap:=h',gens:=g',drawn:=d',toks:=t' }:=by
 obtain ⟨m,⟨o,es,ep,ho,r⟩,_⟩:=id I.loc
 obtain ⟨sl,hL⟩:=u.any ho I.free fun z=>(hch _ z).2.1 rfl
 exact I.step (ch:=ch) hch (fun b o hL hb hc e n=>u.keep b o e n (fun z=>(List.mem_cons.mp (I.stkSub b z)).elim hL hb) hc) (fun b o _ _ hc e n=>u.any e n hc) (fun b o hc e n=>u.free b o e n hc) (fun b o hc e=>u.there b o e hc) u.tups u.frzs u.tbls (fun m' hm=>by
  obtain ⟨o',es',ep',ho',r'⟩:=hm
  rw [ho] at ho';cases ho'
  exact ⟨_,es',ep',hL,r'⟩) hok hg
theorem Inv.turned {t':Nat} {it:Addr} (I:Inv X pins σ H s) (k:∀ b o,b≠it→s.heap.get? b=some o→h'.get? b=some o) (hn:H it=none) (hL:it≠X.env.locals)
  (h1:it∈X.ex∨X.s₀.heap.objs.size≤it) (h2:∀ x c,X.env.cells.lookup x=some c→c≠it) (h3:∀ p∈X.pn++pins,p.1≠it):Inv X pins σ H { s with heap:=h',toks:=t' }:=by
 have nit:∀ b u,H b=some u→b≠it:=fun b u e z=>by rw [z,hn] at e;cases e
 refine I.step (g':=s.gens) (d':=s.drawn) (ch:=[it]) (fun b hb=>?_) (fun b o _ _ hc e _=>k b o (fun z=>hc (by simp [z])) e) (fun b o _ _ hc e _=>⟨o.slots,k b o (fun z=>hc (by simp [z])) e⟩) (fun _ _ _ _ n=>n)
  (fun b o hc e=>⟨o,k b o (fun z=>hc (by simp [z])) e⟩) (fun _ _ e=>e) (fun _ _ _ e=>e) (fun b ps e=>⟨#[],by rw [e];simp⟩) (fun m hm=>?_) (fun b u e=>?_) I.bare
 ·have e:b=it:=by simpa using hb
  subst e
  exact ⟨h1,hL,h2,h3⟩
 ·obtain ⟨o,es,ep,ho,r⟩:=hm
  exact ⟨o,es,ep,k _ o (Ne.symm hL) ho,r⟩
 ·refine (I.hok b u e).stay (fun c v hc q=>k c v ?_ q) (fun _ q=>q) fun _ _ q=>q
  rcases hc with z | z
  ·rw [z];exact nit b u e
  ·exact nit c _ z
theorem Inv.tok (I:Inv X pins σ H s) (t:Nat):Inv X pins σ H { s with toks:=t }:=I.un (h':=s.heap) (t':=t) Un.refl I.hok
theorem Inv.kept {t':Nat} (I:Inv X pins σ H s) (k:∀ b u,s.heap.get? b=some u→h'.get? b=some u):Inv X pins σ H { s with heap:=h',toks:=t' }:=I.un (Un.kept k) (I.hok.kept k)
theorem Inv.laid {a:Addr} {o:HO} {t':Nat} (I:Inv X pins σ H s) (k:∀ b u,s.heap.get? b=some u→h'.get? b=some u) (hp:s.heap.objs.size≤a) (new:zbs X.prog X.w (upd H a o) h' a o) :
  Inv X pins σ (upd H a o) { s with heap:=h',toks:=t' }:=I.un (Un.laid k hp (I.hok.fresh hp)) (I.hok.laid k hp new)
theorem Inv.write {x e:Addr} {o:HO} {t':Nat} (I:Inv X pins σ H s) (mu:Mut (H x)) (he:e=x∨H e=some (.own x)) (k:∀ b u,b≠e→s.heap.get? b=some u→h'.get? b=some u) (heo:∃ u,h'.get? e=some u)
  (new:zbs X.prog X.w (upd H x o) h' x o):Inv X pins σ (upd H x o) { s with heap:=h',toks:=t' }:=I.un (Un.write mu he k heo) (I.hok.write mu he k heo new)
theorem Inv.pins_of {pins':List (Addr×Obj)} (I:Inv X pins σ H s) (h:∀ p∈pins',s.heap.get? p.1=some p.2∧H p.1=none∧p.1≠X.env.locals∧p.1∉X.fs∧∀ v,p.2.data≠.cell v):Inv X pins' σ H s :=
 ⟨I.ok,I.os,I.bare,I.base,I.loc,I.cell,I.free,I.freeC,fun p hp=>(List.mem_append.mp hp).elim (fun z=>I.pin p (List.mem_append_left _ z)) (h p),I.hok,I.len⟩
theorem zg9 {N:List Str} (hN:N.Nodup) {i j:Nat} {x:Str} (a:N[i]? = some x) (b:N[j]? = some x):i=j:=by
 obtain ⟨h1,e1⟩:=List.getElem?_eq_some_iff.mp a
 obtain ⟨h2,e2⟩:=List.getElem?_eq_some_iff.mp b
 exact (List.getElem_inj hN).mp (e1.trans e2.symm)
theorem zfG {M:Model} {A:Around} {E:Value→Shared→Prop} {i:Nat} {x:Str} {v:V} {u:Value} {Q:Unit→Shared→Prop} (I:Inv X pins σ H s) (hN:X.N.Nodup) (hi:X.N[i]? = some x) (hx:Loc X.env.scope x) (r:RelV v u)
  (h:∀ s',Inv X pins (σ.set i (some v)) H s'→(∃ a,Heap.SameBut a s.heap s'.heap∧(a=X.env.locals∨X.env.cells.lookup x=some a))→Q () s') (hf:X.fn x=true∨X.env.scope.names.lookup x=some .local:=by first | exact .inl rfl | exact .inr rfl | assumption):wpAny M A (storeName X.env x u) Q E s:=by
 obtain ⟨m,hn,hl⟩:=id I.loc
 have hcls:(X.env.scope.kind == .class || (X.env.scope.kind == .module && X.env.locals != X.env.globals))=false:=by rw [I.ok.kind];rfl
 have hiσ:i < σ.length:=by rw [I.len];exact (List.getElem?_eq_some_iff.mp hi).1
 have cne:=I.cne
 have tracked:∀ {a:Addr} {h':Heap},(∃ o,s.heap.get? a=some o∧H a=none)→Heap.SameBut a s.heap h'→HOk X.prog X.w H h':=fun {a h'} ha hs b ob e=>by
  obtain ⟨_,_,hfree⟩:=ha
  refine (I.hok b ob e).stay (fun c w' hc q=>(hs.2 c ?_).trans q) (fun _ q=>q) fun _ _ q=>q
  rintro rfl
  rcases hc with rfl | hc
  ·rw [hfree] at e;cases e
  ·rw [hfree] at hc;cases hc
 rcases hx with hk | hk
 ·refine wpAny_storeName_local hk hn (fun h' hn' hs=>?_) hcls
  obtain ⟨oL,_,_,hoL,_⟩:=id hn
  refine h _ ⟨I.ok,I.os,I.bare,⟨fun b o e n hb hx=>?_,fun b o e n hb hx=>?_,I.base.free,fun b o e hx=>?_,I.base.tups,I.base.frzs,I.base.tbls⟩,⟨_,hn',fun j y v' e1 e2 e3=>?_⟩,fun y c e=>?_,I.free,I.freeC,fun p hp=>?_,tracked ⟨oL,hoL,I.free⟩ hs,by simpa using I.len⟩ ⟨_,hs,.inl rfl⟩
  ·exact (hs.2 b (Nat.ne_of_lt (Nat.lt_of_lt_of_le (Heap.lt_size e) I.ok.above))).trans (I.base.keep b o e n hb hx)
  ·obtain ⟨sl,e1⟩:=I.base.slot b o e n hb hx
   exact ⟨sl,(hs.2 b (Nat.ne_of_lt (Nat.lt_of_lt_of_le (Heap.lt_size e) I.ok.above))).trans e1⟩
  ·obtain ⟨o',e1⟩:=I.base.there b o e hx
   exact ⟨o',(hs.2 b (Nat.ne_of_lt (Nat.lt_of_lt_of_le (Heap.lt_size e) I.ok.above))).trans e1⟩
  ·by_cases hj:j=i
   ·subst hj
    rw [hi] at e1;cases e1
    rw [List.getElem?_set_self hiσ] at e2
    cases e2
    exact ⟨u,r,.inl ⟨hk,by simp⟩⟩
   ·rw [List.getElem?_set_ne (Ne.symm hj)] at e2
    obtain ⟨u',r',q⟩:=hl j y v' e1 e2 e3
    refine ⟨u',r',?_⟩
    rcases q with ⟨k,e⟩ | ⟨k,c,e,z⟩
    ·refine .inl ⟨k,?_⟩
     have:y≠x:=fun e=>hj (zg9 hN e1 (e▸hi))
     simp [this,e]
    ·exact .inr ⟨k,c,e,z.sameBut hs (cne y c e)⟩
  ·obtain ⟨w',z⟩:=I.cell y c e
   exact ⟨w',z.sameBut hs (cne y c e)⟩
  ·obtain ⟨e,n,ne,nf,d⟩:=I.pin p hp
   exact ⟨(hs.2 p.1 ne).trans e,n,ne,nf,d⟩
 ·have hfn:X.fn x=true:=by
   rcases hf with z | z
   ·exact z
   ·rw [z] at hk;cases hk
  obtain ⟨c,hc⟩:=I.ok.has x (.inl hk)
  obtain ⟨w',z⟩:=I.cell x c hc
  refine wpAny_storeName_cell I.ok.kind hk hc z (fun h' hc' hs=>?_)
  obtain ⟨oc,hoc,hocd⟩:=id z
  refine h { s with heap:=h' } ⟨I.ok,I.os,I.bare,⟨fun b o e n hb hx=>?_,fun b o e n hb hx=>?_,I.base.free,fun b o e hx=>?_,I.base.tups,I.base.frzs,I.base.tbls⟩,⟨m,hn.sameBut hs (Ne.symm (cne x c hc)),fun j y v' e1 e2 e3=>?_⟩,fun y c' e=>?_,I.free,I.freeC,fun p hp=>?_,tracked ⟨oc,hoc,I.freeC x c hc⟩ hs,by simpa using I.len⟩ ⟨c,hs,.inr hc⟩
  ·exact (hs.2 b (Nat.ne_of_lt (Nat.lt_of_lt_of_le (Heap.lt_size e) (I.ok.cab x c hfn hc)))).trans (I.base.keep b o e n hb hx)
  ·obtain ⟨sl,e1⟩:=I.base.slot b o e n hb hx
   exact ⟨sl,(hs.2 b (Nat.ne_of_lt (Nat.lt_of_lt_of_le (Heap.lt_size e) (I.ok.cab x c hfn hc)))).trans e1⟩
  ·obtain ⟨o',e1⟩:=I.base.there b o e hx
   exact ⟨o',(hs.2 b (Nat.ne_of_lt (Nat.lt_of_lt_of_le (Heap.lt_size e) (I.ok.cab x c hfn hc)))).trans e1⟩
  ·by_cases hj:j=i
   ·subst hj
    rw [hi] at e1;cases e1
    rw [List.getElem?_set_self hiσ] at e2
    cases e2
    exact ⟨u,r,.inr ⟨.inl hk,c,hc,hc'⟩⟩
   ·rw [List.getElem?_set_ne (Ne.symm hj)] at e2
    obtain ⟨u',r',q⟩:=hl j y v' e1 e2 e3
    refine ⟨u',r',?_⟩
    rcases q with q | ⟨k,c',e,z'⟩
    ·exact .inl q
    ·refine .inr ⟨k,c',e,z'.sameBut hs ?_⟩
     rintro rfl
     exact hj (zg9 hN e1 (I.ok.inj _ _ _ e hc▸hi))
  ·by_cases hcc:c'=c
   ·subst hcc;exact ⟨_,hc'⟩
   ·obtain ⟨w2,z2⟩:=I.cell y c' e
    exact ⟨w2,z2.sameBut hs hcc⟩
  ·obtain ⟨e,n,ne,nf,d⟩:=I.pin p hp
   refine ⟨(hs.2 p.1 ?_).trans e,n,ne,nf,d⟩
   intro q
   rw [q,hoc] at e
   have q':oc=p.2:=Option.some.inj e
   exact d w' (by rw [← q'];exact hocd)
theorem zha {M:Model} {A:Around} {E:Value→Shared→Prop} {i:Nat} {x:Str} {v:V} {u:Value} {Q:Unit→Shared→Prop} (I:Inv X pins σ H s) (hN:X.N.Nodup) (hi:X.N[i]? = some x) (hx:Loc X.env.scope x) (r:RelV v u)
  (h:∀ s',Inv X pins (σ.set i (some v)) H s'→Q () s') (hf:X.fn x=true∨X.env.scope.names.lookup x=some .local:=by first | exact .inl rfl | exact .inr rfl | assumption):wpAny M A (storeName X.env x u) Q E s :=
 zfG I hN hi hx r (fun s' I' _=>h s' I') hf
theorem Inv.call' {s':Shared} {ch:List Addr} (I:Inv X pins σ H s) (ho:s'.os=s.os) (u:Un (frs X.stack) ch H H' s.heap s'.heap) (hok:HOk X.prog X.w H' s'.heap) (hg:AllBare s'.gens)
  (hch:∀ b∈ch,(b∈X.ex∨X.s₀.heap.objs.size≤b)∧b≠X.env.locals∧(∀ x c,X.env.cells.lookup x=some c→c≠b)∧∀ p∈X.pn++pins,p.1≠b):Inv X pins σ H' s':=by
 obtain ⟨h',g',d',t',o'⟩:=s'
 have e:o'=s.os:=ho
 subst e
 exact I.call (g':=g') (t':=t') (d':=d') u hok hg hch
end
abbrev XK:=Value→Option Addr→Hp→Prop
abbrev St:=List (Option V)
abbrev VK:=V→Hp→Prop
abbrev TE:=St→Hp→VK→Prop
abbrev TT:=St→Hp→(Bool→Hp→Prop)→Prop
abbrev TA:=St→Hp→(List V→Hp→Prop)→Prop
structure Ends where
 nx:St→Hp→Prop
 rt:VK
 bk:St→Hp→Prop:=fun _ _=>False
 ct:St→Hp→Prop:=fun _ _=>False
abbrev TS:=Ends→St→Hp→Prop
def EP (X:Cx) (pins:List (Addr×Obj)) (σ:St) (Q:VK) (u:Value) (s':Shared):Prop:=∃ v H',Inv X pins σ H' s'∧RelV v u∧Q v H'
def TP (X:Cx) (pins:List (Addr×Obj)) (σ:St) (Q:Bool→Hp→Prop) (b:Bool) (s':Shared):Prop:=∃ H',Inv X pins σ H' s'∧Q b H'
def AP (X:Cx) (pins:List (Addr×Obj)) (σ:St) (Q:List V→Hp→Prop) (us:List Value) (s':Shared):Prop:=∃ vs H',Inv X pins σ H' s'∧Vals vs us∧Q vs H'
def SP (X:Cx) (pins:List (Addr×Obj)) (D:Ends) (f:Flow) (s':Shared):Prop :=
 match f with
 | .next=>∃ σ' H',Inv X pins σ' H' s'∧D.nx σ' H'
 | .brk=>∃ σ' H',Inv X pins σ' H' s'∧D.bk σ' H'
 | .cont=>∃ σ' H',Inv X pins σ' H' s'∧D.ct σ' H'
 | .ret u=>∃ v σ' H',Inv X pins σ' H' s'∧RelV v u∧D.rt v H'
def PE (X:Cx) (e:Expr) (t:TE):Prop :=
 ∀ (pins:List (Addr×Obj)) (s:Shared) (σ:St) (H:Hp) (Q:VK),Inv X pins σ H s→t σ H Q→wpAny (model X.prog X.w) X.A (eval e X.env) (EP X pins σ Q) X.xe s
def PT (X:Cx) (e:Expr) (t:TT):Prop :=
 ∀ (pins:List (Addr×Obj)) (s:Shared) (σ:St) (H:Hp) (Q:Bool→Hp→Prop),Inv X pins σ H s→t σ H Q→wpAny (model X.prog X.w) X.A (isTrue e X.env (eval e X.env)) (TP X pins σ Q) X.xe s
def PW (X:Cx) (e:Expr) (t:TT):Prop :=
 ∀ (whole:Sem Value) (pins:List (Addr×Obj)) (s:Shared) (σ:St) (H:Hp) (Q:Bool→Hp→Prop),Inv X pins σ H s→t σ H Q→wpAny (model X.prog X.w) X.A (isTrue e X.env whole) (TP X pins σ Q) X.xe s
theorem PW.pt {X:Cx} {e:Expr} {t:TT} (h:PW X e t):PT X e t:=h _
def PA (X:Cx) (es:List Expr) (t:TA):Prop :=
 ∀ (pos:Pos) (pins:List (Addr×Obj)) (s:Shared) (σ:St) (H:Hp) (Q:List V→Hp→Prop),Inv X pins σ H s→t σ H Q→wpAny (model X.prog X.w) X.A (spliced (backTo pos (starEach es X.env))) (AP X pins σ Q) X.xe s
def PS (X:Cx) (st:Stmt) (t:TS):Prop :=
 ∀ (pins:List (Addr×Obj)) (s:Shared) (σ:St) (H:Hp) (D:Ends),Inv X pins σ H s→t D σ H→wpAny (model X.prog X.w) X.A (exec st X.env) (SP X pins D) X.xe s
def PSs (X:Cx) (st:List Stmt) (t:TS):Prop :=
 ∀ (pins:List (Addr×Obj)) (s:Shared) (σ:St) (H:Hp) (D:Ends),Inv X pins σ H s→t D σ H→wpAny (model X.prog X.w) X.A (execs st X.env) (SP X pins D) X.xe s
theorem thn {α:Type} {t:Sem α} {Q Q':α→Shared→Prop} {M:Model} {A:Around} {E:Value→Shared→Prop} {s:Shared} (h:wpAny M A t Q E s) (hQ:∀ a s,Q a s→Q' a s):wpAny M A t Q' E s:=wpAny_mono h hQ fun _ _ x=>x
end L2
namespace L2
open PySem PySem.Spec PyProof.Rows
section
variable {X:Cx}
theorem bin {a b:Expr} {ta tb:TE} (ha:PE X a ta) (hb:PE X b tb) {pins:List (Addr×Obj)} {s:Shared} {σ:St} {H:Hp} {R:V→V→Hp→Prop} (I:Inv X pins σ H s) (h:ta σ H fun x H1=>tb σ H1 fun y H2=>R x y H2)
  {α:Type} {Q:α→Shared→Prop} {f:Value→Value→Sem α}
  (hf:∀ v u s2 x y H2,Inv X pins σ H2 s2→RelV x v→RelV y u→R x y H2→wpAny (model X.prog X.w) X.A (f v u) Q X.xe s2) :
  wpAny (model X.prog X.w) X.A (eval a X.env) (fun v s₁=>wpAny (model X.prog X.w) X.A (eval b X.env) (fun u s₂=>wpAny (model X.prog X.w) X.A (f v u) Q X.xe s₂) X.xe s₁) X.xe s:=by
 refine thn (ha pins s σ H _ I h) fun v s1 ⟨x,H1,I1,r1,q1⟩=>?_
 refine thn (hb pins s1 σ H1 _ I1 q1) fun u s2 ⟨y,H2,I2,r2,q2⟩=>?_
 exact hf v u s2 x y H2 I2 r1 r2 q2
def tVar (i:Nat):TE:=fun σ H Q=>∃ v,σ[i]? = some (some v)∧Q v H
def tC (v:V):TE:=fun _ H Q=>Q v H
theorem zl0 {i:Nat} {x:Str} {pos:Pos} (hN:X.N[i]? = some x) (hv:Vis X.env.scope x) (hd:(x == ("__debug__" : Str))=false:=by decide) (hcd:(x == ("__classdict__" : Str))=false:=by decide):PE X (.Name x pos) (tVar i):=by
 intro pins s σ H Q I h
 obtain ⟨v,e,h⟩:=h
 obtain ⟨m,hn,hl⟩:=I.loc
 obtain ⟨u,r,l⟩:=hl i x v hN e hv
 have fin:EP X pins σ Q u s:=⟨v,H,I,r,h⟩
 rcases l with ⟨hk,hm⟩ | ⟨hk,c,hc,hcell⟩
 ·exact wpAny_Name (wpAny_loadName_local I.ok.kind hk hn hm fin) hd
 ·rcases hk with hk | hk
  ·exact wpAny_Name (wpAny_loadName_cell I.ok.kind hk hc hcell fin) hd
  ·exact wpAny_Name (wpAny_loadName_free I.ok.kind hk hc hcell fin hcd) hd
theorem zaf {i j pos}:PE X (.Constant (.int i) j pos) (tC (.int i)):=fun _ _ _ H _ I h=>wpAny_Constant_int ⟨.int i,H,I.tok _,⟨_,rfl⟩,h⟩
theorem za4 {b j pos}:PE X (.Constant (.bool b) j pos) (tC (.bl b)):=fun _ _ _ H _ I h=>Constant_bool ⟨.bl b,H,I,rfl,h⟩
theorem zcv {j pos}:PE X (.Constant .none j pos) (tC .non):=fun _ _ _ H _ I h=>Constant_none ⟨.non,H,I,rfl,h⟩
def Gl (X:Cx) (x:Str):Prop:=X.env.kindOf x=some .globalImplicit
theorem zfe {E:Value→Shared→Prop} {pins:List (Addr×Obj)} {s:Shared} {σ:St} {H:Hp} {x:Str} {u:Value} {pos:Pos} {Q:Value→Shared→Prop} (I:Inv X pins σ H s) (hg:Gl X x) (hm:X.mg x=some u) (h:Q u s)
  (hd:(x == ("__debug__" : Str))=false:=by decide):wpAny (model X.prog X.w) X.A (eval (.Name x pos) X.env) Q E s :=
 Calls.Name_function_global I.ok.kind hg (Calls.loadGlobal_global (by rw [I.ok.glob];exact I.mod.glob.keeps I.bk) hm h) hd
theorem zda {E:Value→Shared→Prop} {pins:List (Addr×Obj)} {s:Shared} {σ:St} {H:Hp} {x:Str} {u:Value} {pos:Pos} {Q:Value→Shared→Prop} (I:Inv X pins σ H s) (hg:Gl X x) (hm:X.mg x=none) (hv:bootBuiltins x=some u) (h:Q u s)
  (hn:x≠"__name__":=by decide) (hd:(x == ("__debug__" : Str))=false:=by decide):wpAny (model X.prog X.w) X.A (eval (.Name x pos) X.env) Q E s:=by
 obtain ⟨mb,h1,h2⟩:=I.mod.blt
 exact Calls.Name_function_global I.ok.kind hg (Calls.loadGlobal_builtin (by rw [I.ok.glob];exact I.mod.glob.keeps I.bk) hm (by rw [I.ok.blt];exact h1.keeps I.bk) ((h2 x hn).trans hv) h) hd
theorem zc1 {x:Str} {v:V} {u:Value} {pos:Pos} (hg:Gl X x) (hm:X.mg x=some u) (r:RelV v u) (hd:(x == ("__debug__" : Str))=false:=by decide):PE X (.Name x pos) (tC v) :=
 fun _ _ _ H _ I h=>zfe I hg hm ⟨v,H,I,r,h⟩ hd
theorem zcw {x:Str} {v:V} {u:Value} {pos:Pos} (hg:Gl X x) (hm:X.mg x=none) (hv:bootBuiltins x=some u) (r:RelV v u) (hn:x≠"__name__":=by decide) (hd:(x == ("__debug__" : Str))=false:=by decide):PE X (.Name x pos) (tC v) :=
 fun _ _ _ H _ I h=>zda I hg hm hv ⟨v,H,I,r,h⟩ hn hd
variable {a b:Expr} {ta tb:TE} {pos:Pos}
def PC (X:Cx) (op:CmpOp) (a b:Expr) (t:TE):Prop :=
 ∀ (pins:List (Addr×Obj)) (s:Shared) (σ:St) (H:Hp) (Q:VK),Inv X pins σ H s→t σ H Q →
  wpAny (model X.prog X.w) X.A (eval a X.env) (fun v s₁=>wpAny (model X.prog X.w) X.A (eval b X.env) (fun u s₂=>wpAny (model X.prog X.w) X.A (compareOp op v u) (EP X pins σ Q) X.xe s₂) X.xe s₁) X.xe s
def tB (t:TE):TT:=fun σ H Q=>t σ H fun x H1=>∃ c,x=.bl c∧Q c H1
theorem zkv {op:CmpOp} {t:TE} (h:PC X op a b t) (h1:behindInMarks op b=false:=by first | exact nobehind _ (by decide) (by decide) | rfl):PT X (.Compare a [op] [b] pos) (tB t):=by
 intro pins s σ H Q I hw
 refine wpAny_isTrue_Compare1 (thn (h pins s σ H _ I hw) fun v s1 h1=>thn h1 fun u s2 h2=>thn h2 fun c s3 ⟨x,H1,I1,r1,q1⟩=>?_) h1
 obtain ⟨d,rfl,q⟩:=q1
 cases r1
 exact wpAny_truthy_bool ⟨H1,I1,q⟩
variable {tA tB':TT} {rest:List Expr}
def tAnd (t u:TT):TT:=fun σ H Q=>t σ H fun c H1=>if c=true then u σ H1 Q else Q false H1
def tOr (t u:TT):TT:=fun σ H Q=>t σ H fun c H1=>if c=true then Q true H1 else u σ H1 Q
def tNot (t:TT):TT:=fun σ H Q=>t σ H fun c H1=>Q (!c) H1
theorem ziq (ha:PT X a tA):PW X (.BoolOp .And [a] pos) tA:=by
 intro wh pins s σ H Q I h
 refine isTrue_and (thn (ha pins s σ H Q I h) fun c s1 e=>?_)
 cases c with
 | true=>exact isTrue_and_nil e
 | false=>exact e
theorem zbT (ha:PT X a tA):PW X (.BoolOp .Or [a] pos) tA:=by
 intro wh pins s σ H Q I h
 refine isTrue_or (thn (ha pins s σ H Q I h) fun c s1 e=>?_)
 cases c with
 | false=>exact isTrue_or_nil e
 | true=>exact e
theorem zkw (ha:PT X a tA) (hb:PW X (.BoolOp .And (b::rest) pos) tB'):PW X (.BoolOp .And (a::b::rest) pos) (tAnd tA tB'):=by
 intro wh pins s σ H Q I h
 refine isTrue_and (thn (ha pins s σ H _ I h) fun c s1 ⟨H1,I1,q1⟩=>?_)
 cases c with
 | true=>exact hb wh pins s1 σ H1 Q I1 q1
 | false=>exact ⟨H1,I1,q1⟩
theorem zc2 (ha:PT X a tA) (hb:PW X (.BoolOp .Or (b::rest) pos) tB'):PW X (.BoolOp .Or (a::b::rest) pos) (tOr tA tB'):=by
 intro wh pins s σ H Q I h
 refine isTrue_or (thn (ha pins s σ H _ I h) fun c s1 ⟨H1,I1,q1⟩=>?_)
 cases c with
 | true=>exact ⟨H1,I1,q1⟩
 | false=>exact hb wh pins s1 σ H1 Q I1 q1
theorem zba (ha:PT X a tA):PT X (.UnaryOp .Not a pos) (tNot tA):=by
 intro pins s σ H Q I h
 exact isTrue_not (ha pins s σ H (fun c H1=>Q (!c) H1) I h)
def zl1 (ta tb:TE):TE:=fun σ H Q=>ta σ H fun x H1=>∃ c,x=.bl c∧if c=true then tb σ H1 Q else Q (.bl false) H1
def zl2 (ta:TE):TE:=fun σ H Q=>ta σ H fun x H1=>∃ c,x=.bl c∧Q (.bl (!c)) H1
theorem zir {op} {t:TE} (h:PE X a t):PE X (.BoolOp op [a] pos) t:=fun pins s σ H Q I hw=>BoolOp_one (h pins s σ H Q I hw)
theorem zhb (ha:PE X a ta) (hb:PE X (.BoolOp .And (b::rest) pos) tb):PE X (.BoolOp .And (a::b::rest) pos) (zl1 ta tb):=by
 intro pins s σ H Q I h
 refine BoolOp_and (thn (ha pins s σ H _ I h) fun v s1 ⟨x,H1,I1,r1,q1⟩=>?_)
 obtain ⟨c,rfl,q1⟩:=q1
 cases r1
 refine wpAny_truthy_bool ?_
 cases c with
 | true=>exact hb pins s1 σ H1 Q I1 q1
 | false=>exact ⟨.bl false,H1,I1,rfl,q1⟩
theorem zl3 (ha:PE X a ta):PE X (.UnaryOp .Not a pos) (zl2 ta):=by
 intro pins s σ H Q I h
 refine UnaryOp_ (thn (ha pins s σ H _ I h) fun v s1 ⟨x,H1,I1,r1,q1⟩=>?_)
 obtain ⟨c,rfl,q1⟩:=q1
 cases r1
 exact not_of (wpAny_truthy_bool ⟨.bl (!c),H1,I1,rfl,q1⟩)
end
end L2
namespace L2
open PySem PySem.Spec PyProof.Rows
def SqL (K:PySem.W.Frag) (H:Hp) (a:Addr) (xs:List V):Prop :=
 Rd H a (.lst xs) ∨
  ∃ (o:Obj) (its:Array Value) (n:Nat),K.lookup a=some o∧o.cls=.type "list"∧o.dict=none∧o.data=.seq its n∧its.size≤sizeLine∧Vals xs its.toList
def SqT (K:PySem.W.Frag) (H:Hp) (a:Addr) (xs:List V):Prop :=
 Rd H a (.tup xs) ∨
  ∃ (o:Obj) (its:Array Value) (n:Nat),K.lookup a=some o∧o.cls=.type "tuple"∧o.data=.seq its n∧its.size≤sizeLine∧Vals xs its.toList
def absV:Value→Option V
 | .none=>some .non
 | .bool b=>some (.bl b)
 | .int i _=>some (.int i)
 | .str x _=>some (.str x)
 | .bytes b _=>some (.byt b)
 | .float b _=>some (.flt b)
 | .ref a=>some (.ref a)
 | .type n=>some (.ty n)
 | _=>none
theorem RelV.abs {x:V} {u:Value} (r:RelV x u):absV u=some x:=by
 cases x with
 | non=>cases r;rfl
 | bl _=>cases r;rfl
 | int _=>obtain ⟨t,rfl⟩:=r;rfl
 | str _=>obtain ⟨t,rfl⟩:=r;rfl
 | byt _=>obtain ⟨t,rfl⟩:=r;rfl
 | flt _=>obtain ⟨t,rfl⟩:=r;rfl
 | ref _=>cases r;rfl
 | ty _=>cases r;rfl
theorem RelV.inj {x y:V} {u:Value} (r:RelV x u) (q:RelV y u):x=y:=Option.some.inj (r.abs.symm.trans q.abs)
theorem Vals.inj:∀ {xs ys:List V} {us:List Value},Vals xs us→Vals ys us→xs=ys
 | _,_,_,.nil,.nil=>rfl
 | _,_,_,.cons r t,.cons r' t'=>by rw [r.inj r',Vals.inj t t']
section
variable {X:Cx} {pins:List (Addr×Obj)} {σ:St} {H:Hp} {s:Shared} {a:Addr} {xs ys:List V}
theorem SqL.of {K:PySem.W.Frag} (h:H a=some (.lst xs)):SqL K H a xs:=.inl (.inl h)
theorem SqT.of {K:PySem.W.Frag} (h:H a=some (.tup xs)):SqT K H a xs:=.inl (.inl h)
theorem Inv.list (I:Inv X pins σ H s) (h:SqL X.K H a xs):∃ its:List Value,Vals xs its∧PlainL s.heap a its.toArray∧xs.length≤sizeLine:=by
 rcases h with h | ⟨o,its,n,hk,hc,hd,hs,hz,r⟩
 ·obtain ⟨z,its,n,r,e⟩:=h.ok I.hok
  exact ⟨its,r,⟨_,n,e,rfl,rfl,rfl⟩,z⟩
 ·refine ⟨its.toList,r,⟨o,n,I.kIn a o hk,hc,hd,by simpa using hs⟩,?_⟩
  have e:=r.length
  simp only [Array.length_toList] at e
  omega
theorem Inv.tuple (I:Inv X pins σ H s) (h:SqT X.K H a xs):∃ its:List Value,Vals xs its∧IsTup s.heap a its.toArray∧xs.length≤sizeLine:=by
 rcases h with h | ⟨o,its,n,hk,hc,hs,hz,r⟩
 ·obtain ⟨z,its,r,p⟩:=h.ok I.hok
  exact ⟨its,r,p,z⟩
 ·refine ⟨its.toList,r,⟨o,I.kIn a o hk,hc,n,by simpa using hs⟩,?_⟩
  have e:=r.length
  simp only [Array.length_toList] at e
  omega
theorem Inv.list_inj (I:Inv X pins σ H s) (h:SqL X.K H a xs) (h':SqL X.K H a ys):xs=ys:=by
 obtain ⟨its,r,⟨o,n,e,_,_,d⟩,_⟩:=I.list h
 obtain ⟨its',r',⟨o',n',e',_,_,d'⟩,_⟩:=I.list h'
 rw [e] at e';cases e'
 rw [d] at d'
 injection d' with d1 _
 have:its=its':=by simpa using congrArg Array.toList d1
 subst this
 exact r.inj r'
end
abbrev Cx.wish (X:Cx) (E:Value→Shared→Prop):Cx:={ X with xe:=E }
abbrev Cx.nox (X:Cx):Cx:=X.wish fun _ _=>False
theorem Cx.Ok.wish {X:Cx} (ok:X.Ok) (E:Value→Shared→Prop):(X.wish E).Ok :=
 ⟨ok.mod,ok.kind,ok.glob,ok.blt,ok.above,ok.inj,ok.has,ok.cab,ok.hd,ok.frames,ok.stk,ok.exf,ok.bs,ok.bsz,ok.noex,ok.exfs,ok.funs,ok.frf⟩
theorem Cx.Ok.unwish {X:Cx} {E:Value→Shared→Prop} (ok:(X.wish E).Ok):X.Ok :=
 ⟨ok.mod,ok.kind,ok.glob,ok.blt,ok.above,ok.inj,ok.has,ok.cab,ok.hd,ok.frames,ok.stk,ok.exf,ok.bs,ok.bsz,ok.noex,ok.exfs,ok.funs,ok.frf⟩
section
variable {X:Cx} {pins:List (Addr×Obj)} {σ:St} {H:Hp} {s:Shared} {E:Value→Shared→Prop}
theorem Inv.wish (I:Inv X pins σ H s) (E:Value→Shared→Prop):Inv (X.wish E) pins σ H s:=⟨I.ok.wish E,I.os,I.bare,I.base,I.loc,I.cell,I.free,I.freeC,I.pin,I.hok,I.len⟩
theorem Inv.unwish (I:Inv (X.wish E) pins σ H s):Inv X pins σ H s:=⟨I.ok.unwish,I.os,I.bare,I.base,I.loc,I.cell,I.free,I.freeC,I.pin,I.hok,I.len⟩
theorem SP.unwish {D:Ends} {f:Flow} {s':Shared} (h:SP (X.wish E) pins D f s'):SP X pins D f s':=by
 cases f with
 | next=>obtain ⟨σ',H',I,q⟩:=h;exact ⟨σ',H',I.unwish,q⟩
 | brk=>obtain ⟨σ',H',I,q⟩:=h;exact ⟨σ',H',I.unwish,q⟩
 | cont=>obtain ⟨σ',H',I,q⟩:=h;exact ⟨σ',H',I.unwish,q⟩
 | ret u=>obtain ⟨v,σ',H',I,r,q⟩:=h;exact ⟨v,σ',H',I.unwish,r,q⟩
theorem PSs.nox {st:List Stmt} {t:TS} (h:PSs X.nox st t):PSs X st t:=fun pins s σ H D I hw =>
 wpAny_mono (h pins s σ H D (I.wish _) hw) (fun _ _ q=>q.unwish) fun _ _ z=>False.elim z
end
section
variable {X:Cx} {st:Stmt} {rest:List Stmt} {t u:TS} {e:Expr} {te:TE} {pos:Pos}
def tNext:TS:=fun D σ H=>D.nx σ H
def tSeq (t u:TS):TS:=fun D σ H=>t { D with nx:=u D } σ H
theorem pss_nil:PSs X [] tNext:=fun _ _ σ H _ I h=>wpAny_execs_nil ⟨σ,H,I,h⟩
theorem zac (h1:PS X st t) (h2:PSs X rest u):PSs X (st::rest) (tSeq t u):=by
 intro pins s σ H D I h
 refine wpAny_execs_cons (thn (h1 pins s σ H { D with nx:=u D } I h) fun f s1 q=>?_)
 cases f with
 | next =>
   obtain ⟨σ',H',I',q⟩:=q
   exact h2 pins s1 σ' H' D I' q
 | ret v=>exact q
 | brk=>exact q
 | cont=>exact q
theorem zad (h1:PS X st t):PSs X [st] t:=by
 intro pins s σ H D I h
 refine wpAny_execs_cons (thn (h1 pins s σ H D I h) fun f s1 q=>?_)
 cases f with
 | next=>exact wpAny_execs_nil q
 | ret v=>exact q
 | brk=>exact q
 | cont=>exact q
def tCont:TS:=fun D σ H=>D.ct σ H
theorem ps_continue:PS X (.Continue pos) tCont:=fun _ _ σ H _ I h=>wpAny_Continue ⟨σ,H,I,h⟩
theorem Inv.quiet {pins:List (Addr×Obj)} {σ:St} {H:Hp} {s:Shared} (I:Inv X pins σ H s):interactive X.env=false:=by simp [interactive,I.ok.kind]
def zl4 (te:TE):TS:=fun D σ H=>te σ H fun _ H1=>D.nx σ H1
theorem zaM (he:PE X e te) (hs:swapsWith e none pos.line X.env=pure false:=by rfl):PS X (.Expr e pos) (zl4 te):=by
 intro pins s σ H D I h
 exact wpAny_Expr_any (thn (he pins s σ H _ I h) fun v s1 ⟨x,H1,I1,r1,q1⟩=>⟨σ,H1,I1,q1⟩) I.quiet hs
def tRet (te:TE):TS:=fun D σ H=>te σ H D.rt
theorem zaj (he:PE X e te):PS X (.Return (some e) pos) (tRet te):=by
 intro pins s σ H D I h
 exact wpAny_Return_some (thn (he pins s σ H _ I h) fun v s1 ⟨x,H1,I1,r1,q1⟩=>⟨x,σ,H1,I1,r1,q1⟩)
def tIfS (c:TT) (t u:TS):TS:=fun D σ H=>c σ H fun b H1=>if b=true then t D σ H1 else u D σ H1
theorem zaV {c:Expr} {a b:List Stmt} {tc:TT} (hc:PT X c tc) (ha:PSs X a t) (hb:PSs X b u):PS X (.If c a b pos) (tIfS tc t u):=by
 intro pins s σ H D I h
 refine wpAny_If (thn (hc pins s σ H _ I h) fun d s1 ⟨H1,I1,q1⟩=>?_)
 cases d with
 | true=>exact ha pins s1 σ H1 D I1 q1
 | false=>exact hb pins s1 σ H1 D I1 q1
def tNever:TS:=fun _ _ _=>False
theorem ps_never:PS X st tNever:=fun _ _ _ _ _ _ h=>h.elim
end
abbrev TG:=V→St→Hp→(St→Hp→Prop)→Prop
abbrev TGs:=List V→St→Hp→(St→Hp→Prop)→Prop
def PG (X:Cx) (target:Expr) (t:TG):Prop :=
 ∀ (pins:List (Addr×Obj)) (s:Shared) (σ:St) (H:Hp) (v:V) (u:Value) (Q:St→Hp→Prop),Inv X pins σ H s→RelV v u→t v σ H Q →
  wpAny (model X.prog X.w) X.A (assign target X.env u) (fun _ s'=>∃ σ' H',Inv X pins σ' H' s'∧Q σ' H') X.xe s
def PGs (X:Cx) (ts:List Expr) (t:TGs):Prop :=
 ∀ (pins:List (Addr×Obj)) (s:Shared) (σ:St) (H:Hp) (vs:List V) (us:List Value) (Q:St→Hp→Prop),Inv X pins σ H s→Vals vs us→t vs σ H Q →
  wpAny (model X.prog X.w) X.A (assignInOrder ((assignEach ts X.env).map (·.2)) us) (fun _ s'=>∃ σ' H',Inv X pins σ' H' s'∧Q σ' H') X.xe s
abbrev TSet:=V→V→V→Hp→(Hp→Prop)→Prop
def PSet (X:Cx) (t:TSet):Prop :=
 ∀ (pins:List (Addr×Obj)) (s:Shared) (σ:St) (H:Hp) (o i v:V) (ov iv u:Value) (Q:Hp→Prop),Inv X pins σ H s→RelV o ov→RelV i iv→RelV v u→t o i v H Q →
  wpAny (model X.prog X.w) X.A (setItem ov iv u) (fun _ s'=>∃ H',Inv X pins σ H' s'∧Q H') X.xe s
abbrev TIp:=V→V→Hp→VK→Prop
def PIp (X:Cx) (op:Operator) (t:TIp):Prop :=
 ∀ (pins:List (Addr×Obj)) (s:Shared) (σ:St) (H:Hp) (x y:V) (v u:Value) (Q:VK),Inv X pins σ H s→RelV x v→RelV y u→t x y H Q →
  wpAny (model X.prog X.w) X.A (inplaceOp op v u) (EP X pins σ Q) X.xe s
section
variable {X:Cx} {pos:Pos}
def zcr (i:Nat):TG:=fun v σ H Q=>Q (σ.set i (some v)) H
theorem zaq {i:Nat} {x:Str} (hN:X.N.Nodup) (hi:X.N[i]? = some x) (hx:Loc X.env.scope x) (hf:X.fn x=true∨X.env.scope.names.lookup x=some .local:=by first | exact .inl rfl | exact .inr rfl | assumption):PG X (.Name x pos) (zcr i):=by
 intro pins s σ H v u Q I r h
 exact wpAny_assign_Name (zha I hN hi hx r (fun s' I'=>⟨_,H,I',h⟩) hf)
def gNil:TGs:=fun vs σ H Q=>vs=[]∧Q σ H
def zgv (t:TG) (u:TGs):TGs:=fun vs σ H Q=>∃ v r,vs=v::r∧t v σ H fun σ' H'=>u r σ' H' Q
theorem pgs_nil:PGs X [] gNil:=by
 intro pins s σ H vs us Q I r h
 obtain ⟨e,h⟩:=h
 subst e
 cases r
 exact assignInOrder_nil ⟨σ,H,I,h⟩
theorem zbU {e:Expr} {es:List Expr} {t:TG} {u:TGs} (h1:PG X e t) (h2:PGs X es u)
  (hs:(assignEach (e::es) X.env).map (·.2)=assign e X.env::(assignEach es X.env).map (·.2):=by rfl):PGs X (e::es) (zgv t u):=by
 intro pins s σ H vs us Q I r h
 obtain ⟨v,vr,e1,h⟩:=h
 subst e1
 cases r with
 | cons r rr =>
   rw [hs]
   refine assignInOrder_cons (thn (h1 pins s σ H _ _ _ I r h) fun _ s1 ⟨σ1,H1,I1,q1⟩=>?_)
   exact h2 pins s1 σ1 H1 _ _ Q I1 rr q1
def gTup (K:PySem.W.Frag) (n:Nat) (t:TGs):TG:=fun v σ H Q=>∃ a xs,v=.ref a∧SqT K H a xs∧xs.length=n∧t xs σ H Q
theorem zl5 {es:List Expr} {k:Nat} {t:TGs} {n:Nat} (hc:X.calm=true) (h:PGs X es t)
  (hn:(assignEach es X.env).length=n:=by rfl) (hst:(assignEach es X.env).findIdx? (·.1)=none:=by rfl):PG X (.Tuple es k pos) (gTup X.K n t):=by
 intro pins s σ H v u Q I r hw
 obtain ⟨a,xs,e1,hq,hl,hw⟩:=hw
 subst e1
 cases r
 obtain ⟨its,rv,ht,hz⟩:=I.tuple hq
 refine assign_Tuple_tuple (I.ok.hd hc) ht (by simp [hn,← hl,rv.length]) hst fun h' hx=>?_
 have I1:Inv X pins σ H { s with heap:=h' }:=I.kept (t':=s.toks) fun b o e=>hx b o (Nat.ne_of_lt (Heap.lt_size e)) e
 exact h pins _ σ H xs _ Q I1 (by simpa using rv) hw
def gSub (to ti:TE) (t:TSet):TG:=fun v σ H Q=>to σ H fun o H1=>ti σ H1 fun i H2=>t o i v H2 fun H3=>Q σ H3
theorem zl6 {o i:Expr} {to ti:TE} {t:TSet} (ho:PE X o to) (hi:PE X i ti) (hs:PSet X t)
  (ha:∀ v,assign (.Subscript o i pos) X.env v=(do
   let ov ← holding [v] (eval o X.env)
   let iv ← holding [v,ov] (eval i X.env)
   standAt pos
   holding [v,ov,iv] (setItem ov iv v)
   release [v,ov,iv] []):=by intro _;rfl):PG X (.Subscript o i pos) (gSub to ti t):=by
 intro pins s σ H v u Q I r h
 rw [ha]
 refine wpAny_bind (wpAny_holding (thn (ho pins s σ H _ I h) fun ov s1 ⟨x,H1,I1,r1,q1⟩=>?_))
 refine wpAny_bind (wpAny_holding (thn (hi pins s1 σ H1 _ I1 q1) fun iv s2 ⟨y,H2,I2,r2,q2⟩=>?_))
 refine wpAny_bind (wpAny_standAt (wpAny_bind (wpAny_holding (thn (hs pins s2 σ H2 x y v ov iv u _ I2 r1 r2 r q2) fun _ s3 ⟨H3,I3,q3⟩=>?_))))
 exact wpAny_release ⟨σ,H3,I3,q3⟩
def tAsg (te:TE) (g:TG):TS:=fun D σ H=>te σ H fun x H1=>g x σ H1 D.nx
theorem zl7 {tg e:Expr} {te:TE} {g:TG} (he:PE X e te) (hg:PG X tg g) (hs:swapsWithSole [tg] e pos.line X.env=pure false:=by rfl) (hw:swappedStores [tg] e X.env=pure none:=by rfl)
  (h1:(assignEach [tg] X.env).map (·.2)=[assign tg X.env]:=by rfl):PS X (.Assign [tg] e pos) (tAsg te g):=by
 intro pins s σ H D I h
 refine wpAny_Assign_stores (thn (he pins s σ H _ I h) fun v s1 ⟨x,H1,I1,r1,q1⟩=>?_) hs hw
 rw [h1]
 exact thn (hg pins s1 σ H1 x v _ I1 r1 q1) fun _ s2 q=>q
theorem zaF {i:Nat} {x:Str} {e:Expr} {te:TE} {pos':Pos} (hN:X.N.Nodup) (hi:X.N[i]? = some x) (hx:Loc X.env.scope x) (he:PE X e te) (hs:swapsWith e (some (.Name x pos')) pos.line X.env=pure false:=by rfl) (hf:X.fn x=true∨X.env.scope.names.lookup x=some .local:=by first | exact .inl rfl | exact .inr rfl | assumption) :
  PS X (.Assign [.Name x pos'] e pos) (tAsg te (zcr i)):=by
 intro pins s σ H D I h
 refine wpAny_Assign_Name (thn (he pins s σ H _ I h) fun v s1 ⟨y,H1,I1,r1,q1⟩=>?_) hs
 exact zha I1 hN hi hx r1 (fun s2 I2=>⟨_,H1,I2,q1⟩) hf
def zl8 (to ti te:TE) (tget:V→V→Hp→VK→Prop) (tip:TIp) (tset:TSet):TS:=fun D σ H=>to σ H fun o H1=>ti σ H1 fun i H2=>tget o i H2 fun x H3=>te σ H3 fun y H4=>tip x y H4 fun z H5=>tset o i z H5 fun H6=>D.nx σ H6
def PGet (X:Cx) (t:V→V→Hp→VK→Prop):Prop :=
 ∀ (pins:List (Addr×Obj)) (s:Shared) (σ:St) (H:Hp) (o i:V) (ov iv:Value) (Q:VK),Inv X pins σ H s→RelV o ov→RelV i iv→t o i H Q →
  wpAny (model X.prog X.w) X.A (getItem ov iv) (EP X pins σ Q) X.xe s
theorem zle {o i e:Expr} {to ti te:TE} {tget:V→V→Hp→VK→Prop} {tip:TIp} {tset:TSet} {op:Operator} {tpos:Pos} (ho:PE X o to) (hi:PE X i ti) (hg:PGet X tget) (he:PE X e te) (hp:PIp X op tip) (hs:PSet X tset)
  (ha:∀ ov iv new,augStore i ov iv new=(do holding [new,ov,iv] (setItem ov iv new);release [new,ov,iv] [];pure .next):=by intros;rfl):PS X (.AugAssign (.Subscript o i tpos) op e pos) (zl8 to ti te tget tip tset):=by
 intro pins s σ H D I h
 refine wpAny_AugAssign_SubscriptAny (thn (ho pins s σ H _ I h) fun ov s1 ⟨x1,H1,I1,r1,q1⟩=>?_) ha
 refine thn (hi pins s1 σ H1 _ I1 q1) fun iv s2 ⟨x2,H2,I2,r2,q2⟩=>?_
 refine thn (hg pins s2 σ H2 x1 x2 ov iv _ I2 r1 r2 q2) fun old s3 ⟨x3,H3,I3,r3,q3⟩=>?_
 refine thn (he pins s3 σ H3 _ I3 q3) fun v s4 ⟨x4,H4,I4,r4,q4⟩=>?_
 refine thn (hp pins s4 σ H4 x3 x4 old v _ I4 r3 r4 q4) fun new s5 ⟨x5,H5,I5,r5,q5⟩=>?_
 exact thn (hs pins s5 σ H5 x1 x2 x5 ov iv new _ I5 r1 r2 r5 q5) fun _ s6 ⟨H6,I6,q6⟩=>⟨σ,H6,I6,q6⟩
def ipI (f:Int→Int→Int):TIp:=fun x y H Q=>∃ i j,x=.int i∧y=.int j∧Q (.int (f i j)) H
theorem ip_sub:PIp X .Sub (ipI fun i j=>i-j):=by
 intro pins s σ H x y v u Q I r1 r2 h
 obtain ⟨i,j,e1,e2,q⟩:=h
 subst e1;subst e2
 obtain ⟨t,rfl⟩:=r1
 obtain ⟨t',rfl⟩:=r2
 exact isub_int ⟨.int _,H,I.tok _,⟨_,rfl⟩,q⟩
end
section
variable {X:Cx} {pos:Pos}
def zl9 (c:TT) (tb:TS):TS:=fun D σ H=>∃ W:Nat→St→Hp→Prop,(∃ m,W m σ H)∧∀ m σ H,W m σ H →
 c σ H fun b H1=>if b=true then ∃ N:St→Hp→Prop,(∀ σ' H',N σ' H'→∃ m',m' < m∧W m' σ' H')∧tb { D with nx:=N,ct:=N,bk:=D.nx } σ H1 else D.nx σ H1
theorem zff {c:Expr} {body:List Stmt} {tc:TT} {tb:TS} (hp:PassesOwn (model X.prog X.w) X.A X.env X.xe) (hc:PT X c tc) (hb:PSs X body tb):PS X (.While c body [] pos) (zl9 tc tb):=by
 intro pins s σ H D I h
 obtain ⟨W,⟨m0,w0⟩,turn⟩:=h
 refine wpAny_While (codeAny_whileLoop (fun n s'=>∃ σ' H',Inv X pins σ' H' s'∧W n σ' H') ?_ m0 ⟨σ,H,I,w0⟩)
 rintro n s1 ⟨σ1,H1,I1,w1⟩
 refine wpAny_passesOwn hp (thn (hc pins s1 σ1 H1 _ I1 (turn n σ1 H1 w1)) fun b s2 ⟨H2,I2,q2⟩=>?_)
 cases b with
 | true =>
   obtain ⟨N,hN,q2⟩:=q2
   rw [if_pos rfl]
   refine wpAny_passesOwn hp (thn (hb pins s2 σ1 H2 _ I2 q2) fun f s3 q3=>?_)
   cases f with
   | next =>
     obtain ⟨σ3,H3,I3,n3⟩:=q3
     obtain ⟨m',hm,w3⟩:=hN σ3 H3 n3
     exact ⟨m',hm,σ3,H3,I3,w3⟩
   | cont =>
     obtain ⟨σ3,H3,I3,n3⟩:=q3
     obtain ⟨m',hm,w3⟩:=hN σ3 H3 n3
     exact ⟨m',hm,σ3,H3,I3,w3⟩
   | brk=>exact q3
   | ret v=>exact q3
 | false =>
   rw [if_neg Bool.false_ne_true]
   exact wpAny_execs_nil ⟨σ1,H2,I2,q2⟩
end
structure It where
 go:Nat→Hp→Prop
 yld:Nat→Hp→V→Hp→Prop
 stop:Nat→Hp→Prop
def FpOk (X:Cx) (pins:List (Addr×Obj)) (H:Hp) (b:Addr):Prop :=
 H b=none∧b≠X.env.locals∧b∉X.fs∧(b∈X.ex∨X.s₀.heap.objs.size≤b)∧(∀ x c,X.env.cells.lookup x=some c→c≠b)∧∀ p∈X.pn++pins,p.1≠b
theorem Inv.fpOk {X:Cx} {pins:List (Addr×Obj)} {σ:St} {H H':Hp} {s:Shared} {b:Addr} (I:Inv X pins σ H s) (hb:s.heap.objs.size≤b) (hn:H' b=none):FpOk X pins H' b:=by
 refine ⟨hn,Nat.ne_of_gt (Nat.lt_of_lt_of_le I.lt hb),I.nofs hb,.inr (Nat.le_trans I.sz hb),fun x c e z=>?_,fun p hp z=>?_⟩
 ·obtain ⟨v,q⟩:=I.cell x c e
  exact absurd (Nat.lt_of_lt_of_le q.lt (by rw [z];exact hb)) (Nat.lt_irrefl _)
 ·exact absurd (Nat.lt_of_lt_of_le (Heap.lt_size (I.pin p hp).1) (by rw [z];exact hb)) (Nat.lt_irrefl _)
structure Turn (P:Program) (w:World) (K:PySem.W.Frag) (tg:Expr) (J:It) (fp:List Addr) (it:Addr) (tn:Nat→Heap→Prop):Prop where
 mem:it∈fp
 obj:∀ i h,tn i h→∀ b∈fp,∃ o,h.get? b=some o∧∀ v,o.data≠.cell v
 keep:∀ i h h',tn i h→(∀ b∈fp,∀ o,h.get? b=some o→h'.get? b=some o)→tn i h'
 item:∀ (X:Cx),X.prog=P→X.w=w→X.K=K→X.calm=true→∀ (i:Nat) (pins:List (Addr×Obj)) (s:Shared) (σ:St) (H:Hp) (E:Value→Shared→Prop),Inv X pins σ H s→(∀ b∈fp,FpOk X pins H b)→tn i s.heap→J.go i H →
  wpAny (model P w) X.A (pyNext (.ref it)) (fun r s1=>∃ u,r=some u ∧
   wpAny (model P w) X.A (letOwnedTupleGo tg (.ref it) u) (fun _ s2=>∃ x H',Inv X pins σ H' s2∧RelV x u∧J.yld i H x H'∧tn (i+1) s2.heap∧∀ b∈fp,H' b=none) E s1) E s
 done:∀ (X:Cx),X.prog=P→X.w=w→X.K=K→X.calm=true→∀ (i:Nat) (pins:List (Addr×Obj)) (s:Shared) (σ:St) (H:Hp) (E:Value→Shared→Prop),Inv X pins σ H s→(∀ b∈fp,FpOk X pins H b)→tn i s.heap→J.stop i H →
  wpAny (model P w) X.A (pyNext (.ref it)) (fun r s1=>r=none∧Inv X pins σ H s1) E s
 self:∀ (A:Around) (i:Nat) (s:Shared) (Q:Value→Shared→Prop) (E:Value→Shared→Prop),tn i s.heap→Q (.ref it) s→wpAny (model P w) A (pyIter (.ref it)) Q E s
abbrev TI:=St→Hp→(It→Hp→Prop)→Prop
def PIE (X:Cx) (pins:List (Addr×Obj)) (σ:St) (tg:Expr) (R:It→Hp→Prop) (itv:Value) (s2:Shared):Prop :=
 ∃ (it:Addr) (fp:List Addr) (tn:Nat→Heap→Prop) (J:It) (H':Hp),itv=.ref it∧Inv X pins σ H' s2∧Turn X.prog X.w X.K tg J fp it tn∧tn 0 s2.heap∧(∀ b∈fp,FpOk X pins H' b)∧R J H'
def PI (X:Cx) (tg iter:Expr) (wi:TI):Prop :=
 ∀ (pins:List (Addr×Obj)) (s:Shared) (σ:St) (H:Hp) (R:It→Hp→Prop),Inv X pins σ H s→wi σ H R →
  wpAny (model X.prog X.w) X.A (eval iter X.env) (fun v s1=>wpAny (model X.prog X.w) X.A (pyIter v) (PIE X pins σ tg R) X.xe s1) X.xe s
theorem zma {M:Model} {A:Around} {E:Value→Shared→Prop} {s:Shared} {tg:Expr} {it:Addr} {u:Value} {o:Obj} {n:String} {vs:Array Value} {Q:Unit→Shared→Prop} (ho:s.heap.get? it=some o) (hc:o.cls=.type n) (hd:o.data=.fields vs)
  (hn:["enumerate","zip","dict_itemiterator","dict_reverseitemiterator","odict_iterator","itertools.zip_longest","itertools.pairwise"].contains n=false) (hQ:Q () s):wpAny M A (letOwnedTupleGo tg (.ref it) u) Q E s:=by
 unfold letOwnedTupleGo
 cases tg <;> first
  | exact wpAny_pure hQ
  | (cases u <;> first
     | exact wpAny_pure hQ
     | (refine wpAny_bind (wpAny_load ho ?_)
        rw [hc,hd]
        show wpAny M A (if (["enumerate","zip","dict_itemiterator","dict_reverseitemiterator","odict_iterator","itertools.zip_longest","itertools.pairwise"].contains n && vs[0]? == some (rawInt _))=true then _ else _) Q E s
        rw [if_neg (by intro h;rw [hn,Bool.false_and] at h;cases h)]
        exact wpAny_pure hQ))
def Itl (K:PySem.W.Frag) (a:Addr):It :=
 ⟨fun i H=>∃ xs x,SqL K H a xs∧xs[i]? = some x,fun i H x H'=>H'=H∧∀ xs,SqL K H a xs→xs[i]? = some x,fun i H=>∃ xs,SqL K H a xs∧xs.length≤i⟩
def Itr (lo:Int) (n:Nat):It:=⟨fun i _=>i < n,fun i H x H'=>H'=H∧x=.int (lo+i),fun i _=>n≤i⟩
theorem zis {P:Program} {w:World} {K:PySem.W.Frag} {tg:Expr} (a it:Addr):Turn P w K tg (Itl K a) [it] it (fun i h=>h.IsListIter it a i) where
 mem:=by simp
 obj:=fun i h st b hb=>by
  have e:b=it:=by simpa using hb
  subst e
  obtain ⟨o,e,c,d⟩:=st
  exact ⟨o,e,fun v z=>by rw [d] at z;cases z⟩
 keep:=fun i h h' st k=>st.at fun o e=>k it (by simp) o e
 item:=by
  intro X hP hw hK hc i pins s σ H E I hf st hg
  subst hP hw hK
  obtain ⟨xs,x,hq,hx⟩:=hg
  obtain ⟨its,rv,p,hz⟩:=I.list hq
  obtain ⟨u,hu,ru⟩:=rv.get hx
  obtain ⟨f0,f1,f2,f3,f4,f5⟩:=hf it (by simp)
  refine wpAny_pyNext_list_item st p.isList (x:=u) (by simpa using hu) fun h' st' sb=>?_
  have I1:Inv X pins σ H { s with heap:=h' }:=I.turned (t':=s.toks) (fun b o hb e=>(sb.2 b hb).trans e) f0 f1 f3 f4 f5
  obtain ⟨o,e,c,d⟩:=id st'
  exact ⟨u,rfl,zma (s:={ s with heap:=h' }) e c d (by decide) ⟨x,H,I1,ru,⟨rfl,fun ys hy=>by rw [I.list_inj hy hq];exact hx⟩,st',fun b hb=>(hf b hb).1⟩⟩
 done:=by
  intro X hP hw hK hc i pins s σ H E I hf st hg
  subst hP hw hK
  obtain ⟨xs,hq,hx⟩:=hg
  obtain ⟨its,rv,p,hz⟩:=I.list hq
  obtain ⟨f0,f1,f2,f3,f4,f5⟩:=hf it (by simp)
  have hl:=rv.length
  exact wpAny_pyNext_list_end (I.ok.hd hc) st p.isList (by simp;omega) fun h' eb=>⟨rfl,I.turned (t':=s.toks) (fun b o hb e=>eb b o hb e) f0 f1 f3 f4 f5⟩
 self:=fun _ _ _ _ _ st h=>wpAny_pyIter_listiter st h
theorem zhD {P:Program} {w:World} {K:PySem.W.Frag} {tg:Expr} (it:Addr) (lo:Int) (n:Nat):Turn P w K tg (Itr lo n) [it] it (fun i h=>IsRangeIter h it (lo+(i:Nat) * 1) ((n:Int)-(i:Nat)) 1) where
 mem:=by simp
 obj:=fun i h st b hb=>by
  have e:b=it:=by simpa using hb
  subst e
  exact ⟨_,st,fun v z=>by
   have z':Data.fields _=Data.cell v:=z
   cases z'⟩
 keep:=fun i h h' st k=>k it (by simp) _ st
 item:=by
  intro X hP hw hK hc i pins s σ H E I hf st hg
  subst hP hw hK
  obtain ⟨f0,f1,f2,f3,f4,f5⟩:=hf it (by simp)
  have W:=Walks.range (prog:=X.prog) (w:=X.w) (I.ok.hd hc) it lo 1 n
  refine W.item i s _ _ hg st fun v h' tk hv st' kk=>?_
  obtain ⟨t,rfl⟩:=hv
  have I1:Inv X pins σ H { s with heap:=h',toks:=tk }:=I.turned (fun b o hb e=>kk b o (by simpa using hb) e) f0 f1 f3 f4 f5
  refine ⟨_,rfl,zma (s:={ s with heap:=h',toks:=tk }) (n:="range_iterator") st' rfl rfl (by decide) ⟨.int (lo+i),H,I1,⟨t,?_⟩,⟨rfl,rfl⟩,st',fun b hb=>(hf b hb).1⟩⟩
  rw [Int.mul_one]
 done:=by
  intro X hP hw hK hc i pins s σ H E I hf st hg
  subst hP hw hK
  obtain ⟨f0,f1,f2,f3,f4,f5⟩:=hf it (by simp)
  exact wpAny_pyNext_range_end (I.ok.hd hc) st (by have:n≤i:=hg;omega) fun h' eb=>⟨rfl,I.turned (t':=s.toks) (fun b o hb e=>eb b o hb e) f0 f1 f3 f4 f5⟩
 self:=fun _ _ _ _ _ st h=>wpAny_pyIter_rangeiter st h
end L2
namespace L2
open PySem PySem.Spec PyProof.Rows
section
variable {X:Cx} {tg:Expr}
def zjN (K:PySem.W.Frag) (tl:TE):TI:=fun σ H R=>tl σ H fun x H1=>∃ a,x=.ref a∧(∃ xs,SqL K H1 a xs)∧R (Itl K a) H1
theorem zlf {l:Expr} {tl:TE} (hl:PE X l tl):PI X tg l (zjN X.K tl):=by
 intro pins s σ H R I h
 refine thn (hl pins s σ H _ I h) fun v s1 ⟨x,H1,I1,r1,q1⟩=>?_
 obtain ⟨a,e,⟨xs,hq⟩,q⟩:=q1
 subst e
 cases r1
 obtain ⟨its,rv,p,hz⟩:=I1.list hq
 refine wpAny_pyIter_list p.isList ?_
 refine ⟨s1.heap.objs.size,[s1.heap.objs.size],_,_,H1,rfl,I1.kept (t':=s1.toks) fun b o e=>Heap.get?_push_of_some _ e,zis a _,⟨_,Heap.get?_push_size _ rfl,rfl,rfl⟩,fun b hb=>?_,q⟩
 have e:b=s1.heap.objs.size:=by simpa using hb
 subst e
 exact I1.fpOk (Nat.le_refl _) (I1.hok.fresh (Nat.le_refl _))
theorem zhc {pins:List (Addr×Obj)} {σ:St} {H:Hp} {s:Shared} {R:It→Hp→Prop} {E:Value→Shared→Prop} {lo hi:Int} {t u v:Tok} {tk:Nat} (I:Inv X pins σ H s) (h1 : -(2 ^ 62)≤lo) (h2:lo < 2 ^ 62) (h3 : -(2 ^ 62)≤hi) (h4:hi < 2 ^ 62)
  (q:R (Itr lo (hi-lo).toNat) H):wpAny (model X.prog X.w) X.A (pyIter (.ref s.heap.objs.size)) (PIE X pins σ tg R) E { s with heap:=s.heap.push { cls:=.type "range",data:=.fields #[.int lo t,.int hi u,.int 1 v] },toks:=tk }:=by
 refine wpAny_pyIter_range (IsRange.new ..) (small_one h1 h2 h3 h4) ?_
 have I1:Inv X pins σ H { s with heap:=s.heap.push { cls:=.type "range",data:=.fields #[.int lo t,.int hi u,.int 1 v] },toks:=tk }:=I.kept fun b o e=>Heap.get?_push_of_some _ e
 refine ⟨(s.heap.push { cls:=.type "range",data:=.fields #[.int lo t,.int hi u,.int 1 v] }).objs.size,[(s.heap.push { cls:=.type "range",data:=.fields #[.int lo t,.int hi u,.int 1 v] }).objs.size],_,_,H,rfl,
  I1.kept (t':=tk) fun b o e=>Heap.get?_push_of_some _ e,zhD _ lo (hi-lo).toNat,?_,fun b hb=>?_,q⟩
 ·have e1:lo+((0:Nat):Int) * 1=lo:=by simp
  have e2:(((hi-lo).toNat:Nat):Int)-((0:Nat):Int)=Builtin.Range.rangeSize lo hi 1:=by rw [rangeSize_one];split <;> omega
  show IsRangeIter _ _ (lo+((0:Nat):Int) * 1) ((((hi-lo).toNat:Nat):Int)-((0:Nat):Int)) 1
  rw [e1,e2]
  exact Heap.get?_push_size _ rfl
 ·have e:b=(s.heap.push { cls:=.type "range",data:=.fields #[.int lo t,.int hi u,.int 1 v] }).objs.size:=by simpa using hb
  subst e
  exact I1.fpOk (Nat.le_refl _) (I1.hok.fresh (Nat.le_refl _))
def zlg (ta:TA):TI:=fun σ H R=>ta σ H fun vs H1=>∃ j:Int,vs=[.int j]∧-(2 ^ 62)≤j∧j < 2 ^ 62∧R (Itr 0 j.toNat) H1
def zlh (ta:TA):TI:=fun σ H R=>ta σ H fun vs H1=>∃ i j:Int,vs=[.int i,.int j]∧(-(2 ^ 62)≤i∧i < 2 ^ 62∧-(2 ^ 62)≤j∧j < 2 ^ 62)∧R (Itr i (j-i).toNat) H1
theorem za5 {a:Expr} {ta:TA} {p pos:Pos} (hg:Gl X "range") (hm:X.mg "range" = none) (ha:PA X [a] ta) (hs:starEach [a] X.env=[(false,eval a X.env)]:=by rfl):PI X tg (.Call (.Name "range" p) [a] [] pos) (zlg ta):=by
 intro pins s σ H R I h
 refine Call_ (zda I hg hm boot_range (PyProof.Rows.callWith_type1 (thn (ha pos pins s σ H _ I h) fun us s1 ⟨vs,H1,I1,r1,q1⟩=>?_) hs rfl))
 obtain ⟨j,e,q1,q2,q⟩:=q1
 subst e
 cases r1 with
 | cons r rr =>
   cases rr
   obtain ⟨t,rfl⟩:=r
   exact call_range_1 (zhc I1 (by omega) (by omega) q1 q2 (by simpa using q))
theorem zbl {a b:Expr} {ta:TA} {p pos:Pos} (hg:Gl X "range") (hm:X.mg "range" = none) (ha:PA X [a,b] ta) (hs:starEach [a,b] X.env=[(false,eval a X.env),(false,eval b X.env)]:=by rfl) (hs2:starEach [b] X.env=[(false,eval b X.env)]:=by rfl) :
  PI X tg (.Call (.Name "range" p) [a,b] [] pos) (zlh ta):=by
 intro pins s σ H R I h
 refine Call_ (zda I hg hm boot_range (PyProof.Rows.callWith_type1 (thn (ha pos pins s σ H _ I h) fun us s1 ⟨vs,H1,I1,r1,q1⟩=>?_) (by rw [hs,hs2]) (by rw [hs2];rfl)))
 obtain ⟨i,j,e,⟨q1,q2,q3,q4⟩,q⟩:=q1
 subst e
 cases r1 with
 | cons r rr =>
   cases rr with
   | cons r' rr =>
     cases rr
     obtain ⟨t,rfl⟩:=r
     obtain ⟨t',rfl⟩:=r'
     exact call_range_2 (zhc I1 q1 q2 q3 q4 q)
def tFor (wi:TI) (g:TG) (tb:TS):TS:=fun D σ H=>wi σ H fun J H1=>∃ W:Nat→Nat→St→Hp→Prop,(∃ m,W 0 m σ H1)∧∀ i m σ H,W i m σ H →
 (J.stop i H∧D.nx σ H)∨(J.go i H∧∃ N:St→Hp→Prop,(∀ σ' H',N σ' H'→∃ m',m' < m∧W (i+1) m' σ' H')∧∀ x H',J.yld i H x H'→g x σ H' fun σ2 H2=>tb { D with nx:=N,ct:=N,bk:=D.nx } σ2 H2)
def zfH (fp:List Addr) (h:Heap):List (Addr×Obj):=fp.filterMap fun b=>(h.get? b).map fun o=>(b,o)
theorem zcL {fp:List Addr} {h:Heap} {b:Addr} {o:Obj} (hb:b∈fp) (e:h.get? b=some o):(b,o)∈zfH fp h:=List.mem_filterMap.mpr ⟨b,hb,by rw [e];rfl⟩
theorem zit {fp:List Addr} {h:Heap} {p:Addr×Obj} (hp:p∈zfH fp h):p.1∈fp∧h.get? p.1=some p.2:=by
 obtain ⟨b,hb,e⟩:=List.mem_filterMap.mp hp
 cases q:h.get? b with
 | none=>rw [q] at e;cases e
 | some o =>
   rw [q] at e
   have e':(b,o)=p:=Option.some.inj e
   subst e'
   exact ⟨hb,q⟩
theorem Inv.pinned {pins:List (Addr×Obj)} {σ:St} {H:Hp} {s:Shared} {fp:List Addr} (I:Inv X pins σ H s) (hf:∀ b∈fp,FpOk X pins H b) (ho:∀ b∈fp,∃ o,s.heap.get? b=some o∧∀ v,o.data≠.cell v):Inv X (pins++zfH fp s.heap) σ H s :=
 I.pins_of fun p hp=>(List.mem_append.mp hp).elim (fun z=>I.pin p (List.mem_append_right _ z)) fun z=>by
  obtain ⟨hb,e⟩:=zit z
  obtain ⟨f0,f1,f2,_⟩:=hf p.1 hb
  obtain ⟨o,e',d⟩:=ho p.1 hb
  rw [e] at e';cases e'
  exact ⟨e,f0,f1,f2,d⟩
theorem Inv.unpinned {pins pl:List (Addr×Obj)} {σ:St} {H:Hp} {s:Shared} (I:Inv X (pins++pl) σ H s):Inv X pins σ H s:=I.pins_of fun p hp=>I.pin p (List.mem_append_right _ (List.mem_append_left _ hp))
theorem za2 {iter:Expr} {body:List Stmt} {wi:TI} {g:TG} {tb:TS} {pos:Pos} (hp:PassesOwn (model X.prog X.w) X.A X.env X.xe) (hc:X.calm=true) (hi:PI X tg iter wi) (hg:PG X tg g) (hb:PSs X body tb)
  (hs:∀ x,foldedSetIterable iter X.env x=pure x:=by intro _;rfl):PS X (.For tg iter body [] pos) (tFor wi g tb):=by
 intro pins s σ H D I h
 refine wpAny_For (thn (hi pins s σ H _ I h) fun v s1 h1=>thn h1 fun itv s2 h2=>?_) hs
 obtain ⟨it,fp,tn,J,H2,e,I2,T,st2,f2,W,⟨m0,w0⟩,turn⟩:=h2
 subst e
 have stat:∀ {H':Hp},(∀ b∈fp,H' b=none)→∀ b∈fp,FpOk X pins H' b:=fun hn b hb=>⟨hn b hb,(f2 b hb).2⟩
 refine codeAny_forLoop_any (fun n s'=>∃ i σ' H',Inv X pins σ' H' s'∧tn i s'.heap∧(∀ b∈fp,H' b=none)∧W i n σ' H') ?_ m0 ⟨0,σ,H2,I2,st2,fun b hb=>(f2 b hb).1,w0⟩
 rintro n s3 ⟨i,σ3,H3,I3,st3,fr3,w3⟩
 rcases turn i n σ3 H3 w3 with ⟨stop,qn⟩ | ⟨go,N,hN,step⟩
 ·refine wpAny_passesOwn hp (thn (T.done X rfl rfl rfl hc i pins s3 σ3 H3 X.xe I3 (stat fr3) st3 stop) fun r s4 ⟨hr,I4⟩=>?_)
  subst hr
  exact wpAny_execs_nil ⟨σ3,H3,I4,qn⟩
 ·refine wpAny_passesOwn hp (thn (T.item X rfl rfl rfl hc i pins s3 σ3 H3 X.xe I3 (stat fr3) st3 go) fun r s4 ⟨u,hr,h4⟩=>?_)
  subst hr
  refine wpAny_passesOwn hp (thn h4 fun _ s5 ⟨x,H5,I5,r5,y5,st5,fr5⟩=>?_)
  have I5':=I5.pinned (stat fr5) (T.obj _ _ st5)
  refine wpAny_passesOwn hp (thn (hg _ s5 σ3 H5 x u _ I5' r5 (step x H5 y5)) fun _ s6 ⟨σ6,H6,I6,q6⟩=>?_)
  refine wpAny_passesOwn hp (thn (hb _ s6 σ6 H6 _ I6 q6) fun f s7 q7=>?_)
  have again:∀ {σ7:St} {H7:Hp},Inv X (pins++zfH fp s5.heap) σ7 H7 s7→N σ7 H7→∃ m,m < n∧∃ i σ' H',Inv X pins σ' H' s7∧tn i s7.heap∧(∀ b∈fp,H' b=none)∧W i m σ' H':=fun {σ7 H7} I7 n7=>by
   obtain ⟨m',hm,w7⟩:=hN σ7 H7 n7
   refine ⟨m',hm,i+1,σ7,H7,I7.unpinned,T.keep _ _ _ st5 fun b hb o e=>(I7.pin (b,o) (List.mem_append_right _ (List.mem_append_right _ (zcL hb e)))).1,fun b hb=>?_,w7⟩
   obtain ⟨o,e,d⟩:=T.obj _ _ st5 b hb
   exact (I7.pin (b,o) (List.mem_append_right _ (List.mem_append_right _ (zcL hb e)))).2.1
  cases f with
  | next=>obtain ⟨σ7,H7,I7,n7⟩:=q7;exact again I7 n7
  | cont=>obtain ⟨σ7,H7,I7,n7⟩:=q7;exact again I7 n7
  | brk=>obtain ⟨σ7,H7,I7,q7⟩:=q7;exact ⟨σ7,H7,I7.unpinned,q7⟩
  | ret v=>obtain ⟨x7,σ7,H7,I7,r7,q7⟩:=q7;exact ⟨x7,σ7,H7,I7.unpinned,r7,q7⟩
end
theorem zjO {K:PySem.W.Frag} {a:Addr} {xs:List V} {g:TG} {tb:TS} {D:Ends} {σ:St} {H:Hp} (Pv:Nat→St→Hp→Prop) (h0:Pv 0 σ H) (hl:∀ i σ H,i≤xs.length→Pv i σ H→SqL K H a xs)
  (hs:∀ i x σ H,xs[i]? = some x→Pv i σ H→g x σ H fun σ2 H2=>tb { D with nx:=Pv (i+1),ct:=Pv (i+1),bk:=D.nx } σ2 H2) (hd:∀ σ H,Pv xs.length σ H→D.nx σ H) :
  ∃ W:Nat→Nat→St→Hp→Prop,(∃ m,W 0 m σ H)∧∀ i m σ H,W i m σ H →
   ((Itl K a).stop i H∧D.nx σ H)∨((Itl K a).go i H∧∃ N:St→Hp→Prop,(∀ σ' H',N σ' H'→∃ m',m' < m∧W (i+1) m' σ' H')∧∀ x H',(Itl K a).yld i H x H'→g x σ H' fun σ2 H2=>tb { D with nx:=N,ct:=N,bk:=D.nx } σ2 H2):=by
 refine ⟨fun i m σ H=>m=xs.length-i∧i≤xs.length∧Pv i σ H,⟨xs.length,by simp,Nat.zero_le _,h0⟩,?_⟩
 rintro i m σ H ⟨rfl,hi,p⟩
 have q:=hl i σ H hi p
 by_cases hlt:i < xs.length
 ·refine .inr ⟨⟨xs,xs[i],q,by simp [hlt]⟩,Pv (i+1),fun σ' H' p'=>⟨xs.length-(i+1),by omega,rfl,hlt,p'⟩,fun x H' y=>?_⟩
  obtain ⟨e,y⟩:=y
  subst e
  exact hs i x σ _ (y xs q) p
 ·have e:i=xs.length:=by omega
  subst e
  exact .inl ⟨⟨xs,q,Nat.le_refl _⟩,hd σ H p⟩
theorem ziu {lo:Int} {n:Nat} {g:TG} {tb:TS} {D:Ends} {σ:St} {H:Hp} (Pv:Nat→St→Hp→Prop) (h0:Pv 0 σ H)
  (hs:∀ i σ H,i < n→Pv i σ H→g (.int (lo+i)) σ H fun σ2 H2=>tb { D with nx:=Pv (i+1),ct:=Pv (i+1),bk:=D.nx } σ2 H2) (hd:∀ σ H,Pv n σ H→D.nx σ H) :
  ∃ W:Nat→Nat→St→Hp→Prop,(∃ m,W 0 m σ H)∧∀ i m σ H,W i m σ H →
   ((Itr lo n).stop i H∧D.nx σ H)∨((Itr lo n).go i H∧∃ N:St→Hp→Prop,(∀ σ' H',N σ' H'→∃ m',m' < m∧W (i+1) m' σ' H')∧∀ x H',(Itr lo n).yld i H x H'→g x σ H' fun σ2 H2=>tb { D with nx:=N,ct:=N,bk:=D.nx } σ2 H2):=by
 refine ⟨fun i m σ H=>m=n-i∧i≤n∧Pv i σ H,⟨n,by simp,Nat.zero_le _,h0⟩,?_⟩
 rintro i m σ H ⟨rfl,hi,p⟩
 by_cases hlt:i < n
 ·refine .inr ⟨hlt,Pv (i+1),fun σ' H' p'=>⟨n-(i+1),by omega,rfl,hlt,p'⟩,fun x H' y=>?_⟩
  obtain ⟨e,y⟩:=y
  subst e y
  exact hs i σ _ hlt p
 ·have e:i=n:=by omega
  subst e
  exact .inl ⟨Nat.le_refl _,hd σ H p⟩
end L2
namespace L2
open PySem PySem.Spec PyProof.Rows
abbrev R2:=V→V→Hp→VK→Prop
def OpR (X:Cx) (f:Value→Value→Sem Value) (r:R2):Prop :=
 ∀ (pins:List (Addr×Obj)) (s:Shared) (σ:St) (H:Hp) (x y:V) (v u:Value) (Q:VK),Inv X pins σ H s→RelV x v→RelV y u→r x y H Q →
  wpAny (model X.prog X.w) X.A (f v u) (EP X pins σ Q) X.xe s
def zcs (X:Cx) (f:Value) (r:List V→Hp→VK→Prop):Prop :=
 ∀ (pins:List (Addr×Obj)) (s:Shared) (σ:St) (H:Hp) (xs:List V) (us:List Value) (Q:VK),Inv X pins σ H s→Vals xs us→r xs H Q →
  wpAny (model X.prog X.w) X.A (call f us) (EP X pins σ Q) X.xe s
def TruR (X:Cx) (r:V→Hp→(Bool→Hp→Prop)→Prop):Prop :=
 ∀ (pins:List (Addr×Obj)) (s:Shared) (σ:St) (H:Hp) (x:V) (v:Value) (Q:Bool→Hp→Prop),Inv X pins σ H s→RelV x v→r x H Q →
  wpAny (model X.prog X.w) X.A (truthy v) (TP X pins σ Q) X.xe s
def tOp (r:R2) (ta tb:TE):TE:=fun σ H Q=>ta σ H fun x H1=>tb σ H1 fun y H2=>r x y H2 Q
def rI (C:Int→Int→Prop) (g:Int→Int→V):R2:=fun x y H Q=>∃ i j,x=.int i∧y=.int j∧C i j∧Q (g i j) H
def rI0 (g:Int→Int→V):R2:=fun x y H Q=>∃ i j,x=.int i∧y=.int j∧Q (g i j) H
section
variable {X:Cx} {a b c:Expr} {ta tb tc:TE} {pos:Pos}
theorem binT (ha:PE X a ta) (hb:PE X b tb) {pins:List (Addr×Obj)} {s:Shared} {σ:St} {H:Hp} {R:V→V→Hp→Prop} (I:Inv X pins σ H s)
  (h:ta σ H fun x H1=>tb σ H1 fun y H2=>R x y H2) {Q:Value→Shared→Prop} {f:Value→Value→Sem Value}
  (hf:∀ v u s2 x y H2,Inv X pins σ H2 s2→RelV x v→RelV y u→R x y H2→wpAny (model X.prog X.w) X.A (f v u) Q X.xe s2) :
  wpAny (model X.prog X.w) X.A (eval a X.env) (fun v s₁=>wpAny (model X.prog X.w) X.A (eval b X.env) (fun u s₂=>wpAny (model X.prog X.w) X.A (f v u) Q X.xe s₂) X.xe s₁) X.xe s:=by
 refine thn (ha pins s σ H _ I h) fun v s1 ⟨x,H1,I1,r1,q1⟩=>?_
 refine thn (hb pins s1 σ H1 _ I1 q1) fun u s2 ⟨y,H2,I2,r2,q2⟩=>?_
 exact hf v u s2 x y H2 I2 r1 r2 q2
theorem zaw {op:Operator} {r:R2} (ho:OpR X (binaryOp op) r) (ha:PE X a ta) (hb:PE X b tb):PE X (.BinOp a op b pos) (tOp r ta tb):=by
 intro pins s σ H Q I h
 exact wpAny_BinOp (binT ha hb I h fun v u s2 x y H2 I2 rx ry q=>ho pins s2 σ H2 x y v u Q I2 rx ry q)
theorem opI {f:Value→Value→Sem Value} {C:Int→Int→Prop} {g:Int→Int→Int}
  (rule:∀ (i j:Int) (t u:Tok) (s:Shared) (Q:Value→Shared→Prop) (E:Value→Shared→Prop),C i j→Q (.int (g i j) s.toks) { s with toks:=s.toks+1 }→wpAny (model X.prog X.w) X.A (f (.int i t) (.int j u)) Q E s) :
  OpR X f (rI C fun i j=>.int (g i j)):=by
 intro pins s σ H x y v u Q I rx ry h
 obtain ⟨i,j,rfl,rfl,hc,q⟩:=h
 obtain ⟨t,rfl⟩:=rx
 obtain ⟨t',rfl⟩:=ry
 exact rule i j t t' s _ _ hc ⟨.int (g i j),H,I.tok _,⟨_,rfl⟩,q⟩
theorem opI0 {f:Value→Value→Sem Value} {g:Int→Int→Int}
  (rule:∀ (i j:Int) (t u:Tok) (s:Shared) (Q:Value→Shared→Prop) (E:Value→Shared→Prop),Q (.int (g i j) s.toks) { s with toks:=s.toks+1 }→wpAny (model X.prog X.w) X.A (f (.int i t) (.int j u)) Q E s) :
  OpR X f (rI0 fun i j=>.int (g i j)):=by
 intro pins s σ H x y v u Q I rx ry h
 obtain ⟨i,j,rfl,rfl,q⟩:=h
 obtain ⟨t,rfl⟩:=rx
 obtain ⟨t',rfl⟩:=ry
 exact rule i j t t' s _ _ ⟨.int (g i j),H,I.tok _,⟨_,rfl⟩,q⟩
theorem opB0 {f:Value→Value→Sem Value} {g:Int→Int→Bool}
  (rule:∀ (i j:Int) (t u:Tok) (s:Shared) (Q:Value→Shared→Prop) (E:Value→Shared→Prop),Q (.bool (g i j)) s→wpAny (model X.prog X.w) X.A (f (.int i t) (.int j u)) Q E s) :
  OpR X f (rI0 fun i j=>.bl (g i j)):=by
 intro pins s σ H x y v u Q I rx ry h
 obtain ⟨i,j,rfl,rfl,q⟩:=h
 obtain ⟨t,rfl⟩:=rx
 obtain ⟨t',rfl⟩:=ry
 exact rule i j t t' s _ _ ⟨.bl (g i j),H,I,rfl,q⟩
def CMul (i j:Int):Prop:=(-(2 ^ 64) < i∧i < 2 ^ 64)∨(-(2 ^ 64) < j∧j < 2 ^ 64)
theorem CMul.ok {i j:Int} (h:CMul i j):IntMulOk i j:=by
 rcases h with ⟨h1,h2⟩ | ⟨h1,h2⟩
 ·exact .of_left (intBits_le_64 h1 h2)
 ·exact .of_right (intBits_le_64 h1 h2)
theorem op_add:OpR X (binaryOp .Add) (rI0 fun i j=>.int (i+j)):=opI0 fun _ _ _ _ _ _ _ q=>add_int q
theorem op_sub:OpR X (binaryOp .Sub) (rI0 fun i j=>.int (i-j)):=opI0 fun _ _ _ _ _ _ _ q=>sub_int q
theorem op_mod:OpR X (binaryOp .Mod) (rI (fun _ j=>0 < j) fun i j=>.int (i % j)):=opI fun i j _ _ _ _ _ hc q=>by
 have h1:(0:Int) < j:=hc
 exact mod_int' (by omega) (by rw [Int.fmod_eq_emod_of_nonneg i (by omega)];exact q)
end
def scal:V→V→Bool
 | .non,.non=>true | .non,.int _=>true | .int _,.non=>true | .non,.bl _=>true | .bl _,.non=>true | .non,.str _=>true | .str _,.non=>true
 | .int _,.int _=>true | .bl _,.bl _=>true | .str _,.str _=>true | .byt _,.byt _=>true
 | .int _,.str _=>true | .str _,.int _=>true | .bl _,.str _=>true | .str _,.bl _=>true
 | _,_=>false
def rEq:R2:=fun x y H Q=>scal x y=true∧Q (.bl (decide (x=y))) H
def rNe:R2:=fun x y H Q=>scal x y=true∧Q (.bl (!decide (x=y))) H
theorem ziv {i j:Int}:decide (V.int i=V.int j)=(i == j):=by
 rw [Bool.eq_iff_iff]
 simp
theorem zkx {i j:Bool}:decide (V.bl i=V.bl j)=(i == j):=by
 rw [Bool.eq_iff_iff]
 simp
theorem ziw {i j:Str}:decide (V.str i=V.str j)=(i == j):=by
 rw [Bool.eq_iff_iff]
 simp
theorem zix {i j:Array UInt8}:decide (V.byt i=V.byt j)=(i.toList == j.toList):=by
 rw [Bool.eq_iff_iff]
 cases i
 cases j
 simp
section
variable {X:Cx} {a b c:Expr} {ta tb tc:TE} {pos:Pos}
theorem zaR {pins:List (Addr×Obj)} {σ:St} {H:Hp} {s:Shared} {Q:VK} {k k':Bool} (I:Inv X pins σ H s) (q:Q (.bl k) H) (e:k=k'):EP X pins σ Q (.bool k') s:=by
 subst e
 exact ⟨.bl k,H,I,rfl,q⟩
theorem op_eq:OpR X (compareOp .Eq) rEq:=by
 intro pins s σ H x y v u Q I rx ry h
 obtain ⟨hs,q⟩:=h
 cases x with
 | non =>
   cases rx
   cases y with
   | non=>cases ry;exact PySem.EqNone.eq_none_none (zaR I q (by simp))
   | bl j=>cases ry;exact PySem.EqNone.eq_none_bool (zaR I q (by simp))
   | int j=>obtain ⟨t',rfl⟩:=ry;exact PySem.EqNone.eq_none_int (zaR I q (by simp))
   | str j=>obtain ⟨t',rfl⟩:=ry;exact PySem.EqNone.eq_none_str (zaR I q (by simp))
   | _=>exact absurd (show false=true from hs) Bool.false_ne_true
 | bl i =>
   cases rx
   cases y with
   | non=>cases ry;exact PySem.EqNone.eq_bool_none (zaR I q (by simp))
   | bl j=>cases ry;exact eq_bool (zaR I q zkx)
   | str j=>obtain ⟨t',rfl⟩:=ry;exact PySem.EqMixed.eq_bool_str (zaR I q (by simp))
   | _=>exact absurd (show false=true from hs) Bool.false_ne_true
 | int i =>
   obtain ⟨t,rfl⟩:=rx
   cases y with
   | non=>cases ry;exact PySem.EqNone.eq_int_none (zaR I q (by simp))
   | int j=>obtain ⟨t',rfl⟩:=ry;exact eq_int (zaR I q ziv)
   | str j=>obtain ⟨t',rfl⟩:=ry;exact PySem.EqMixed.eq_int_str (zaR I q (by simp))
   | _=>exact absurd (show false=true from hs) Bool.false_ne_true
 | str i =>
   obtain ⟨t,rfl⟩:=rx
   cases y with
   | non=>cases ry;exact PySem.EqNone.eq_str_none (zaR I q (by simp))
   | bl j=>cases ry;exact PySem.EqMixed.eq_str_bool (zaR I q (by simp))
   | int j=>obtain ⟨t',rfl⟩:=ry;exact PySem.EqMixed.eq_str_int (zaR I q (by simp))
   | str j=>obtain ⟨t',rfl⟩:=ry;exact eq_str (zaR I q ziw)
   | _=>exact absurd (show false=true from hs) Bool.false_ne_true
 | byt i =>
   obtain ⟨t,rfl⟩:=rx
   cases y with
   | byt j=>obtain ⟨t',rfl⟩:=ry;exact PySem.W.eq_bytes (zaR I q zix)
   | _=>exact absurd (show false=true from hs) Bool.false_ne_true
 | _=>cases y <;> exact absurd (show false=true from hs) Bool.false_ne_true
theorem op_ne:OpR X (compareOp .NotEq) rNe:=by
 intro pins s σ H x y v u Q I rx ry h
 obtain ⟨hs,q⟩:=h
 cases x with
 | non =>
   cases rx
   cases y with
   | non=>cases ry;exact PySem.EqNone.ne_none_none (zaR I q (by simp))
   | bl j=>cases ry;exact PySem.EqNone.ne_none_bool (zaR I q (by simp))
   | int j=>obtain ⟨t',rfl⟩:=ry;exact PySem.EqNone.ne_none_int (zaR I q (by simp))
   | str j=>obtain ⟨t',rfl⟩:=ry;exact PySem.EqNone.ne_none_str (zaR I q (by simp))
   | _=>exact absurd (show false=true from hs) Bool.false_ne_true
 | bl i =>
   cases rx
   cases y with
   | non=>cases ry;exact PySem.EqNone.ne_bool_none (zaR I q (by simp))
   | bl j=>cases ry;exact ne_bool (zaR I q (congrArg not zkx))
   | str j=>obtain ⟨t',rfl⟩:=ry;exact PySem.EqMixed.ne_bool_str (zaR I q (by simp))
   | _=>exact absurd (show false=true from hs) Bool.false_ne_true
 | int i =>
   obtain ⟨t,rfl⟩:=rx
   cases y with
   | non=>cases ry;exact PySem.EqNone.ne_int_none (zaR I q (by simp))
   | int j=>obtain ⟨t',rfl⟩:=ry;exact ne_int (zaR I q (congrArg not ziv))
   | str j=>obtain ⟨t',rfl⟩:=ry;exact PySem.EqMixed.ne_int_str (zaR I q (by simp))
   | _=>exact absurd (show false=true from hs) Bool.false_ne_true
 | str i =>
   obtain ⟨t,rfl⟩:=rx
   cases y with
   | non=>cases ry;exact PySem.EqNone.ne_str_none (zaR I q (by simp))
   | bl j=>cases ry;exact PySem.EqMixed.ne_str_bool (zaR I q (by simp))
   | int j=>obtain ⟨t',rfl⟩:=ry;exact PySem.EqMixed.ne_str_int (zaR I q (by simp))
   | str j=>obtain ⟨t',rfl⟩:=ry;exact ne_str (zaR I q (congrArg not ziw))
   | _=>exact absurd (show false=true from hs) Bool.false_ne_true
 | byt i =>
   obtain ⟨t,rfl⟩:=rx
   cases y with
   | byt j=>obtain ⟨t',rfl⟩:=ry;exact PySem.W.ne_bytes (zaR I q (congrArg not zix))
   | _=>exact absurd (show false=true from hs) Bool.false_ne_true
 | _=>cases y <;> exact absurd (show false=true from hs) Bool.false_ne_true
theorem op_lt:OpR X (compareOp .Lt) (rI0 fun i j=>.bl (decide (i < j))):=opB0 fun _ _ _ _ _ _ _ q=>lt_int q
theorem op_le:OpR X (compareOp .LtE) (rI0 fun i j=>.bl (decide (i≤j))):=opB0 fun _ _ _ _ _ _ _ q=>le_int q
theorem op_gt:OpR X (compareOp .Gt) (rI0 fun i j=>.bl (decide (j < i))):=opB0 fun _ _ _ _ _ _ _ q=>gt_int q
theorem op_ge:OpR X (compareOp .GtE) (rI0 fun i j=>.bl (decide (j≤i))):=opB0 fun _ _ _ _ _ _ _ q=>ge_int q
theorem op_isN:OpR X (compareOp .Is) (fun x y H Q=>y=.non∧Q (.bl (decide (x=.non))) H):=by
 intro pins s σ H x y v u Q I rx ry h
 obtain ⟨rfl,q⟩:=h
 cases ry
 refine is_none_gen (zaR I q ?_)
 cases x <;> first
  | (cases rx;rfl)
  | (obtain ⟨t,rfl⟩:=rx;rfl)
theorem op_notN:OpR X (compareOp .IsNot) (fun x y H Q=>y=.non∧Q (.bl (!decide (x=.non))) H):=by
 intro pins s σ H x y v u Q I rx ry h
 obtain ⟨rfl,q⟩:=h
 cases ry
 refine isnot_none_gen (zaR I q ?_)
 cases x <;> first
  | (cases rx;rfl)
  | (obtain ⟨t,rfl⟩:=rx;rfl)
theorem OpR.or {f:Value→Value→Sem Value} {r r':R2} (h:OpR X f r) (h':OpR X f r'):OpR X f (fun x y H Q=>r x y H Q∨r' x y H Q):=by
 intro pins s σ H x y v u Q I rx ry q
 rcases q with q | q
 ·exact h pins s σ H x y v u Q I rx ry q
 ·exact h' pins s σ H x y v u Q I rx ry q
theorem zaJ (b:Expr) {op:CmpOp} (h:op≠.In:=by decide) (h2:op≠.NotIn:=by decide):behindInMarks op b=false:=by
 have e1:(op == CmpOp.In)=false:=by cases op <;> first | rfl | exact absurd rfl h
 have e2:(op == CmpOp.NotIn)=false:=by cases op <;> first | rfl | exact absurd rfl h2
 cases b <;> simp [behindInMarks,e1,e2]
theorem zcx {op:CmpOp} {r:R2} (ho:OpR X (compareOp op) r) (ha:PE X a ta) (hb:PE X b tb) (hm:behindInMarks op b=false):PE X (.Compare a [op] [b] pos) (tOp r ta tb):=by
 intro pins s σ H Q I h
 exact wpAny_Compare1 (binT ha hb I h fun v u s2 x y H2 I2 rx ry q=>ho pins s2 σ H2 x y v u Q I2 rx ry q) hm
def zmb (t:TE):TT:=fun σ H Q=>t σ H fun x H'=>∃ k,x=.bl k∧Q k H'
theorem zay {op:CmpOp} {r:R2} (ho:OpR X (compareOp op) r) (ha:PE X a ta) (hb:PE X b tb) (hm:behindInMarks op b=false):PT X (.Compare a [op] [b] pos) (zmb (tOp r ta tb)):=by
 intro pins s σ H Q I h
 refine wpAny_isTrue_Compare1 (thn (ha pins s σ H _ I h) fun v s1 ⟨x,H1,I1,r1,q1⟩=>thn (hb pins s1 σ H1 _ I1 q1) fun u s2 ⟨y,H2,I2,r2,q2⟩ =>
  thn (ho pins s2 σ H2 x y v u _ I2 r1 r2 q2) fun c s3 ⟨z,H3,I3,r3,k,e,q3⟩=>?_) hm
 subst e
 cases r3
 exact wpAny_truthy_bool ⟨H3,I3,q3⟩
def TruV (K:PySem.W.Frag) (x:V) (H:Hp) (k:Bool):Prop :=
 match x with
 | .non=>k=false
 | .bl b=>k=b
 | .int i=>k=(i != 0)
 | .str y=>y.length≤sizeLine∧k=((y.length:Int) != 0)
 | .byt y=>y.size≤sizeLine∧k=((y.size:Int) != 0)
 | .ref p=>(∃ xs,SqL K H p xs∧k = !xs.isEmpty)∨(∃ xs,SqT K H p xs∧k = !xs.isEmpty)∨∃ kvs,H p=some (.dK kvs)∧k = !kvs.isEmpty
 | _=>False
theorem zhE {κ:Type} {kvs:List (κ×V)} {vs:List (κ×Value)} (r:KV kvs vs):(!vs.isEmpty) = !kvs.isEmpty:=by
 cases r <;> rfl
theorem zeY {xs:List V} {its:List Value} (r:Vals xs its):(!its.toArray.isEmpty) = !xs.isEmpty:=by
 cases r <;> simp
theorem line63:(sizeLine:Nat) < 2 ^ 63:=by rw [sizeLine_eq];decide
theorem tru_ok:TruR X (fun x H Q=>∃ k,TruV X.K x H k∧Q k H):=by
 intro pins s σ H x v Q I rx h
 obtain ⟨k,e,q⟩:=h
 have hl:=line63
 have hs:sizeLine=16777216:=sizeLine_eq
 cases x with
 | non =>
   cases rx
   have e':k=false:=e
   subst e'
   exact truthy_none ⟨H,I,q⟩
 | bl b =>
   cases rx
   have e':k=b:=e
   subst e'
   exact wpAny_truthy_bool ⟨H,I,q⟩
 | int i =>
   obtain ⟨t,rfl⟩:=rx
   have e':k=(i != 0):=e
   subst e'
   exact PySem.P.truthy_int ⟨H,I,q⟩
 | str y =>
   obtain ⟨t,rfl⟩:=rx
   obtain ⟨hy,e'⟩:y.length≤sizeLine∧k=((y.length:Int) != 0):=e
   subst e'
   exact PySem.P.truthy_str (by omega) ⟨H,I.tok _,q⟩
 | byt y =>
   obtain ⟨t,rfl⟩:=rx
   obtain ⟨hy,e'⟩:y.size≤sizeLine∧k=((y.size:Int) != 0):=e
   subst e'
   exact PySem.W.truthy_bytes (by omega) ⟨H,I.tok _,q⟩
 | ref p =>
   cases rx
   have e':(∃ xs,SqL X.K H p xs∧k = !xs.isEmpty)∨(∃ xs,SqT X.K H p xs∧k = !xs.isEmpty)∨∃ kvs,H p=some (.dK kvs)∧k = !kvs.isEmpty:=e
   rcases e' with ⟨xs,hx,e'⟩ | ⟨xs,hx,e'⟩ | ⟨kvs,hx,e'⟩
   ·subst e'
    obtain ⟨its,r,pl,hz⟩:=I.list hx
    have hlen:=r.length
    exact wpAny_truthy_list pl.isList (by simp only [List.size_toArray];omega) ⟨H,I.tok _,by rw [zeY r];exact q⟩
   ·subst e'
    obtain ⟨its,r,pl,hz⟩:=I.tuple hx
    have hlen:=r.length
    exact truthy_tuple pl (by simp only [List.size_toArray];omega) ⟨H,I.tok _,by rw [zeY r];exact q⟩
   ·subst e'
    obtain ⟨hz,hS,vs,r,m⟩:kvs.length≤sizeLine∧(p == sysModules)=false∧∃ vs,KV kvs vs∧s.heap.DictOf (zbk X.prog X.w) p vs:=I.hok p _ hx
    have hlen:kvs.length=vs.length:=Paired.length r
    exact wpAny_truthy_dict hS m (by omega) ⟨H,I.tok _,by rw [zhE r];exact q⟩
 | _=>exact (show False from e).elim
theorem zjP (ha:PE X a ta) (he:∀ whole,isTrue a X.env whole=(do let v ← whole;standAt a.pos;holding [v] (truthy v))) :
  PT X a (fun σ H Q=>ta σ H fun x H'=>∃ k,TruV X.K x H' k∧Q k H'):=by
 intro pins s σ H Q I h
 exact isTrue_plain (thn (ha pins s σ H _ I h) fun v s1 ⟨x,H1,I1,r1,q1⟩=>tru_ok pins s1 σ H1 x v Q I1 r1 q1) (he _)
theorem op_add_str:OpR X (binaryOp .Add) (fun x y H Q=>∃ i j,x=.str i∧y=.str j∧i.length+j.length≤sizeLine∧Q (.str (i++j)) H):=by
 intro pins s σ H x y v u Q I rx ry h
 obtain ⟨i,j,rfl,rfl,hz,q⟩:=h
 obtain ⟨t,rfl⟩:=rx
 obtain ⟨t',rfl⟩:=ry
 exact add_str (fun t' tk=>⟨.str (i++j),H,I.tok _,⟨_,rfl⟩,q⟩) hz
theorem vals1 {x:V} {us:List Value} (r:Vals [x] us):∃ u,us=[u]∧RelV x u:=by
 cases r with
 | cons r1 r2=>cases r2;exact ⟨_,rfl,r1⟩
theorem vals2 {x y:V} {us:List Value} (r:Vals [x,y] us):∃ u w',us=[u,w']∧RelV x u∧RelV y w':=by
 cases r with
 | cons r1 r2 =>
   cases r2 with
   | cons r3 r4=>cases r4;exact ⟨_,_,rfl,r1,r3⟩
theorem call_abs:zcs X (.builtin "abs") (fun xs H Q=>∃ i,xs=[.int i]∧Q (.int (if i < 0 then -i else i)) H):=by
 intro pins s σ H xs us Q I r h
 obtain ⟨i,rfl,q⟩:=h
 obtain ⟨u,rfl,t,rfl⟩:=vals1 r
 exact call_abs_int fun u tk=>⟨.int (if i < 0 then -i else i),H,I.tok _,⟨_,rfl⟩,q⟩
theorem ziy (hc:X.calm=true):zcs X (.builtin "max") (fun xs H Q=>∃ i j,xs=[.int i,.int j]∧Q (.int (if j > i then j else i)) H):=by
 intro pins s σ H xs us Q I r h
 obtain ⟨i,j,rfl,q⟩:=h
 obtain ⟨u,w',rfl,⟨t,rfl⟩,⟨t',rfl⟩⟩:=vals2 r
 refine max_two_ints (I.ok.hd hc) fun h' tk k=>⟨_,H,I.kept k,?_,q⟩
 by_cases hj:j > i
 ·rw [if_pos hj,if_pos hj];exact ⟨_,rfl⟩
 ·rw [if_neg hj,if_neg hj];exact ⟨_,rfl⟩
theorem ziz (hc:X.calm=true):zcs X (.builtin "min") (fun xs H Q=>∃ i j,xs=[.int i,.int j]∧Q (.int (if j < i then j else i)) H):=by
 intro pins s σ H xs us Q I r h
 obtain ⟨i,j,rfl,q⟩:=h
 obtain ⟨u,w',rfl,⟨t,rfl⟩,⟨t',rfl⟩⟩:=vals2 r
 refine min_two_ints (I.ok.hd hc) fun h' tk k=>⟨_,H,I.kept k,?_,q⟩
 by_cases hj:j < i
 ·rw [if_pos hj,if_pos hj];exact ⟨_,rfl⟩
 ·rw [if_neg hj,if_neg hj];exact ⟨_,rfl⟩
theorem call_int1:zcs X (.type "int") (fun xs H Q=>(∃ i,xs=[.int i]∧Q (.int i) H)∨∃ k,xs=[.bl k]∧Q (.int (if k then 1 else 0)) H):=by
 intro pins s σ H xs us Q I r h
 rcases h with ⟨i,rfl,q⟩ | ⟨k,rfl,q⟩
 ·obtain ⟨u,rfl,t,rfl⟩:=vals1 r
  exact call_int_int ⟨.int i,H,I,⟨_,rfl⟩,q⟩
 ·obtain ⟨u,rfl,r1⟩:=vals1 r
  cases r1
  exact call_int_bool ⟨.int (if k then 1 else 0),H,I.tok _,⟨_,rfl⟩,q⟩
end
end L2
namespace L2
open PySem PySem.Spec PyProof.Rows
structure ObjM (h:Heap) (x dx C:Addr) (mA:Str→Option Value):Prop where
 obj:h.get? x=some (PySem.W.instObj C dx)
 ns:h.Ns1 dx mA
 ne:dx≠x
theorem ziA {h:Heap} {dx:Addr} {mA:Str→Option Value} (n:h.Ns1 dx mA):∃ od,h.get? dx=some od∧∀ name,PySem.W.lookIn name od=some (mA name):=by
 obtain ⟨o,es,ep,ho,hd,hk,_,hm⟩:=n
 refine ⟨o,ho,fun name=>?_⟩
 have e:=hm name
 unfold nsFind findBy at e
 rw [← Array.find?_toList] at e
 unfold PySem.W.lookIn
 rw [hd]
 dsimp only
 split
 ·rename_i y q
  rw [q] at e
  exact congrArg some e
 ·rename_i q
  rw [q] at e
  have a:es.toList.any (·.refKey)=false:=by
   rw [List.any_eq_false]
   intro y hy
   obtain ⟨z,t,hkey⟩:=hk y (Array.mem_toList_iff.mp hy)
   simp [DictEntry.refKey,hkey]
  have a':¬es.toList.any (·.refKey)=true:=by rw [a];exact Bool.false_ne_true
  rw [if_neg a']
  exact congrArg some e
theorem ObjM.look {h:Heap} {x dx C:Addr} {mA:Str→Option Value} (I:ObjM h x dx C mA):∃ od,PySem.W.InstAt h x (PySem.W.instObj C dx) C (some od)∧∀ name,PySem.W.lookIn name od=some (mA name) :=
 let ⟨od,ho,hl⟩:=ziA I.ns
 ⟨od,⟨I.obj,rfl,rfl,ho⟩,hl⟩
section
variable {prog:Program} {w:World} {A:Around} {E:Value→Shared→Prop} {s:Shared} {K:PySem.W.Frag} {x dx C f:Addr} {mA:Str→Option Value} {name:Str} {v:Value}
theorem zli {expr:Bool} {Q:Value→Shared→Prop} (X:K.In s.heap) (I:ObjM s.heap x dx C mA) (hg:PySem.W.plainGet K C name=true) (hh:PySem.W.hasDictIn K C=true)
  (ha:PySem.W.findIn K (.ref C) name=some none) (hv:mA name=some v) (hv':PySem.W.handedIn v=true) (h:Q v { s with toks:=s.toks+1 }) :
  wpAny (model prog w) A (getAttr (.ref x) name expr) Q E s:=by
 obtain ⟨od,J,hl⟩:=I.look
 exact PySem.W.get_value X J (PySem.W.plainGet_of hg).1 (PySem.W.findObj_own hh ha rfl (by rw [hl,hv])) hv' h
theorem zjQ {pl:Sem Bool} {Q:Value×List Value→Shared→Prop} (X:K.In s.heap) (I:ObjM s.heap x dx C mA) (hg:PySem.W.plainGet K C name=true)
  (hf:PySem.W.findIn K (.ref C) name=some (some (.ref f))) (ht:PySem.W.isFn K (.ref f)=true) (hv:mA name=none) (h:Q (.ref f,[.ref x]) s) :
  wpAny (model prog w) A (getMethod (.ref x) name pl) Q E s:=by
 obtain ⟨od,J,hl⟩:=I.look
 exact PySem.W.method_fn X J (PySem.W.plainGet_of hg).1 (PySem.W.plainGet_of hg).2 hf (beq_iff_eq.mp ht) (by show (PySem.W.lookIn name od).map (·.isSome)=some false;rw [hl,hv];rfl) h
theorem zlj {ns:List Str} {Q:Unit→Shared→Prop} (X:K.In s.heap) (I:ObjM s.heap x dx C mA)
  (hs:PySem.W.findIn K (.ref C) "__setattr__" = some (some (.builtin "object.__setattr__"))) (hp:PySem.W.plainOver K C=true) (ht:PySem.W.takerIn K C name=some none) (hh:PySem.W.hasDictIn K C=true)
  (hw:PySem.Within mA ns) (hsz:ns.length≤sizeLine)
  (h:∀ h',ObjM h' x dx C (fun y=>if y=name then some v else mA y)→Heap.SameBut dx s.heap h'→Q () { s with heap:=h',toks:=s.toks+2 }) :
  wpAny (model prog w) A (setAttr (.ref x) name v) Q E s:=by
 obtain ⟨od,J,hl⟩:=I.look
 refine PySem.W.set_plain X J hs (PySem.W.osa_open (s:={ s with toks:=s.toks+1 }) (r:=none) X J hp ht fun b=>?_)
 obtain ⟨cd,hc,hd'⟩:=PySem.W.any_some hh
 have hx:s.heap.get? x=some ⟨.ref C,some dx,.plain,#[]⟩:=I.obj
 refine wpAny_bind (wpAny_pure (wpAny_bind (wpAny_bind (wpAny_loadPart hx (wpAny_bind (PySem.W.Looks.here (s:={ s with toks:=s.toks+1 }) (PySem.W.looks_clsIn X hc) ?_))))))
 rw [hd']
 refine wpAny_pure (a:=some dx) (wpAny_bind (wpAny_pure (wpAny_bind ?_)))
 refine wpAny_nsSet1 (s:={ s with toks:=s.toks+1 }) I.ns fun h' hn2 hs2=>?_
 obtain ⟨oD,esD,epD,hoD,hdD,hcD⟩:=hn2.count (PySem.Within.cons name v hw)
 refine wpAny_bind (wpAny_lookBehind hoD (by rw [hdD];exact pastItsLine_dict (Nat.le_trans hcD (by rw [List.length_cons];omega))) ?_)
 exact wpAny_pure (h _ ⟨(hs2.2 _ (Ne.symm I.ne)).trans I.obj,hn2,I.ne⟩ hs2)
theorem zjR {R:Result→Shared→Prop} {vs:List Value} {kw:List (Str×Value)} (X:K.In s.heap) (hm:PySem.W.makesIn K C=true)
  (hi:PySem.W.findIn K (.ref C) "__init__" = some (some (.ref f))) (hf:PySem.W.typeIn K (.ref f)=some (.type "function"))
  (h:codeAny (model prog w) (A.under (.builtin "type.__call__" ⟨.ref C::vs,kw⟩)) (.call (.ref f) ⟨.ref (s.heap.objs.size+1)::vs,kw⟩) (PySem.W.InitBack (s.heap.objs.size+1) R)
   { s with heap:=(s.heap.push PySem.W.emptyDict).push (PySem.W.instObj C s.heap.objs.size) }) :
  codeAny (model prog w) A (.call (.ref C) ⟨vs,kw⟩) R s:=by
 obtain ⟨hh,g,d,t,os⟩:=s
 exact PySem.W.make_core (PySem.W.makes_of X hm) (PySem.W.looks_findIn X hi) (fun self=>PySem.W.bind_fn X self hf) (.inl rfl) h
end
def putF (f:Str) (v:V):List (Str×V)→List (Str×V)
 | []=>[(f,v)]
 | (g,x)::r=>if g=f then (g,v)::r else (g,x)::putF f v r
theorem zaA (f g:Str) (v:V):∀ fs:List (Str×V),(putF f v fs).lookup g=if g=f then some v else fs.lookup g
 | []=>by
   show List.lookup g [(f,v)]=_
   by_cases h:g=f
   ·have hb:(g == f)=true:=beq_iff_eq.mpr h
    simp only [List.lookup,hb,if_pos h]
   ·have hb:(g == f)=false:=beq_eq_false_iff_ne.mpr h
    simp only [List.lookup,hb,if_neg h]
 | (k,x)::r=>by
  have ih:=zaA f g v r
  rw [show putF f v ((k,x)::r)=(if k=f then (k,v)::r else (k,x)::putF f v r) from rfl]
  by_cases hk:k=f
  ·rw [if_pos hk]
   by_cases h:g=k
   ·have hb:(g == k)=true:=beq_iff_eq.mpr h
    simp only [List.lookup,hb,if_pos (h.trans hk)]
   ·have hb:(g == k)=false:=beq_eq_false_iff_ne.mpr h
    simp only [List.lookup,hb,if_neg (fun e:g=f=>h (e.trans hk.symm))]
  ·rw [if_neg hk]
   by_cases h:g=k
   ·have hb:(g == k)=true:=beq_iff_eq.mpr h
    simp only [List.lookup,hb,if_neg (fun e:g=f=>hk (h.symm.trans e))]
   ·have hb:(g == k)=false:=beq_eq_false_iff_ne.mpr h
    simp only [List.lookup,hb]
    exact ih
theorem zd8 (f:Str) (v:V):∀ fs:List (Str×V),f∈(putF f v fs).map (·.1)∧∀ g,g∈fs.map (·.1)→g∈(putF f v fs).map (·.1)
 | []=>⟨by simp [putF],fun g h=>by simp at h⟩
 | (k,x)::r=>by
  obtain ⟨i1,i2⟩:=zd8 f v r
  rw [show putF f v ((k,x)::r)=(if k=f then (k,v)::r else (k,x)::putF f v r) from rfl]
  by_cases hk:k=f
  ·rw [if_pos hk]
   subst hk
   exact ⟨by simp,fun g h=>by simpa using h⟩
  ·rw [if_neg hk]
   refine ⟨?_,fun g h=>?_⟩
   ·rw [List.map_cons]
    exact List.mem_cons_of_mem _ i1
   ·rw [List.map_cons] at h ⊢
    rcases List.mem_cons.mp h with e | e
    ·exact List.mem_cons.mpr (.inl e)
    ·exact List.mem_cons_of_mem _ (i2 g e)
theorem zd9 (f:Str) (v:V):∀ fs:List (Str×V),(putF f v fs).length≤fs.length+1
 | []=>by simp [putF]
 | (k,x)::r=>by
  have ih:=zd9 f v r
  rw [show putF f v ((k,x)::r)=(if k=f then (k,v)::r else (k,x)::putF f v r) from rfl]
  by_cases hk:k=f
  ·rw [if_pos hk,List.length_cons,List.length_cons];omega
  ·rw [if_neg hk,List.length_cons,List.length_cons];omega
theorem RelO.some_of {v:V} {o:Option Value} (r:RelO (some v) o):∃ u,o=some u∧RelV v u:=by
 cases o with
 | none=>exact (show False from r).elim
 | some u=>exact ⟨u,rfl,r⟩
theorem RelO.none_of {o:Option Value} (r:RelO none o):o=none:=by
 cases o with
 | none=>rfl
 | some u=>exact (show False from r).elim
theorem ziB {v:V} {u:Value} (r:RelV v u):PySem.W.handedIn u=true:=by
 cases v with
 | non=>cases (show u=Value.none from r);rfl
 | bl b=>cases (show u=Value.bool b from r);rfl
 | int i=>obtain ⟨t,e⟩:=(show ∃ t,u=Value.int i t from r);cases e;rfl
 | str x=>obtain ⟨t,e⟩:=(show ∃ t,u=Value.str x t from r);cases e;rfl
 | byt b=>obtain ⟨t,e⟩:=(show ∃ t,u=Value.bytes b t from r);cases e;rfl
 | flt b=>obtain ⟨t,e⟩:=(show ∃ t,u=Value.float b t from r);cases e;rfl
 | ref a=>cases (show u=Value.ref a from r);rfl
 | ty n=>cases (show u=Value.type n from r);rfl
section
variable {P:Program} {w:World} {H H':Hp} {h h':Heap} {a C dx:Addr} {fs fs':List (Str×V)}
theorem zfg (hok:HOk P w H h) (e:H a=some (.ins C dx fs)):∃ mA,ObjM h a dx C mA∧(∀ f,RelO (fs.lookup f) (mA f))∧PySem.Within mA (fs.map (·.1))∧fs.length≤1000∧H dx=some (.own a):=by
 obtain ⟨d,z,ne,ob,mA,n,r,q⟩:=(show zbs P w H h a (.ins C dx fs) from hok a _ e)
 exact ⟨mA,⟨ob,n,ne⟩,r,q,z,d⟩
end
structure Cls (K:PySem.W.Frag) (C:Addr):Prop where
 pg:PySem.W.plainGet K C Str.empty=true
 hd:PySem.W.hasDictIn K C=true
 po:PySem.W.plainOver K C=true
 sa:PySem.W.findIn K (.ref C) "__setattr__" = some (some (.builtin "object.__setattr__"))
theorem Cls.get {K:PySem.W.Frag} {C:Addr} (c:Cls K C) (f:Str):PySem.W.plainGet K C f=true:=c.pg
def zbm (K:PySem.W.Frag) (C:Addr) (f:Str):Prop:=PySem.W.findIn K (.ref C) f=some none
theorem zbm.taker {K:PySem.W.Frag} {C:Addr} {f:Str} (n:zbm K C f):PySem.W.takerIn K C f=some none:=by
 unfold PySem.W.takerIn
 rw [show PySem.W.findIn K (.ref C) f=some none from n]
 rfl
structure Meth (K:PySem.W.Frag) (C:Addr) (m:Str) (f:Addr):Prop where
 at_:PySem.W.findIn K (.ref C) m=some (some (.ref f))
 fn:PySem.W.isFn K (.ref f)=true
 kp:PySem.W.keepIn K (.ref f)=true
section
variable {X:Cx} {pins:List (Addr×Obj)} {σ:St} {H:Hp} {s:Shared} {a C dx:Addr} {fs:List (Str×V)} {f:Str} {v:V} {A:Around} {E:Value→Shared→Prop}
theorem zhF {b:Bool} {Q:Value→Shared→Prop} (I:Inv X pins σ H s) (e:H a=some (.ins C dx fs)) (c:Cls X.K C) (n:zbm X.K C f) (l:fs.lookup f=some v)
  (h:∀ u s',Inv X pins σ H s'→RelV v u→Q u s'):wpAny (model X.prog X.w) A (getAttr (.ref a) f b) Q E s:=by
 obtain ⟨mA,O,r,_,_,_⟩:=zfg I.hok e
 obtain ⟨u,hu,ru⟩:=RelO.some_of (v:=v) (o:=mA f) (by rw [← l];exact r f)
 exact zli I.kIn O (c.get f) c.hd n hu (ziB ru) (h u _ (I.tok _) ru)
theorem zdv {m:Str} {g:Addr} {pl:Sem Bool} {Q:Value×List Value→Shared→Prop} (I:Inv X pins σ H s) (e:H a=some (.ins C dx fs)) (c:Cls X.K C) (k:Meth X.K C m g) (l:fs.lookup m=none)
  (h:Q (.ref g,[.ref a]) s):wpAny (model X.prog X.w) A (getMethod (.ref a) m pl) Q E s:=by
 obtain ⟨mA,O,r,_,_,_⟩:=zfg I.hok e
 have hn:mA m=none:=RelO.none_of (by rw [← l];exact r m)
 exact zjQ I.kIn O (c.get m) k.at_ k.fn hn h
theorem zhG {y:V} {u:Value} {Q:Unit→Shared→Prop} (I:Inv X pins σ H s) (e:H a=some (.ins C dx fs)) (c:Cls X.K C) (n:zbm X.K C f) (hl:fs.length < 1000) (ry:RelV y u)
  (h:∀ s',Inv X pins σ (upd H a (.ins C dx (putF f y fs))) s'→Q () s'):wpAny (model X.prog X.w) A (setAttr (.ref a) f u) Q E s:=by
 obtain ⟨mA,O,r,wi,_,ho⟩:=zfg I.hok e
 have hz:(fs.map (·.1)).length≤sizeLine:=by rw [List.length_map,sizeLine_eq];omega
 refine zlj I.kIn O c.sa c.po n.taker c.hd wi hz fun h' O' sb=>h _ ?_
 have hd:∃ o,h'.get? dx=some o:=let ⟨o,_,_,e',_⟩:=O'.ns;⟨o,e'⟩
 refine I.write (x:=a) (e:=dx) (by rw [e];exact True.intro) (.inr ho) (fun b q hb z=>(sb.2 b hb).trans z) hd ?_
 refine ⟨by rw [zaD O.ne];exact ho,?_,O.ne,O'.obj,_,O'.ns,fun g=>?_,fun g hg=>?_⟩
 ·have:=zd9 f y fs;omega
 ·show RelO ((putF f y fs).lookup g) (if g=f then some u else mA g)
  rw [zaA]
  by_cases q:g=f
  ·rw [if_pos q,if_pos q];exact ry
  ·rw [if_neg q,if_neg q];exact r g
 ·by_cases q:g=f
  ·rw [q];exact (zd8 f y fs).1
  ·refine (zd8 f y fs).2 g (wi g fun z=>hg ?_)
   show (if g=f then some u else mA g)=none
   rw [if_neg q];exact z
theorem Inv.made (I:Inv X pins σ H s):Inv X pins σ (upd (upd H s.heap.objs.size (.own (s.heap.objs.size+1))) (s.heap.objs.size+1) (.ins C s.heap.objs.size []))
  { s with heap:=(s.heap.push PySem.W.emptyDict).push (PySem.W.instObj C s.heap.objs.size) }:=by
 have e1:(s.heap.push PySem.W.emptyDict).get? s.heap.objs.size=some PySem.W.emptyDict:=Heap.get?_push_size s.heap rfl
 have e2:((s.heap.push PySem.W.emptyDict).push (PySem.W.instObj C s.heap.objs.size)).get? (s.heap.objs.size+1)=some (PySem.W.instObj C s.heap.objs.size):=by
  have:=Heap.get?_push_size (s.heap.push PySem.W.emptyDict) (o:=PySem.W.instObj C s.heap.objs.size) rfl
  rwa [Heap.size_push] at this
 have e3:(s.heap.push PySem.W.emptyDict).Ns s.heap.objs.size (fun _=>none):=⟨PySem.W.emptyDict,#[],_,e1,rfl,(fun e he=>absurd he (by simp)),fun _=>rfl⟩
 have I1:=I.laid (a:=s.heap.objs.size) (o:=.own (s.heap.objs.size+1)) (h':=s.heap.push PySem.W.emptyDict) (t':=s.toks) (fun b u q=>Heap.get?_push_of_some _ q) (Nat.le_refl _) ⟨_,e1⟩
 refine I1.laid (a:=s.heap.objs.size+1) (o:=.ins C s.heap.objs.size []) (t':=s.toks) (fun b u q=>Heap.get?_push_of_some _ q) (Nat.le_of_eq (Heap.size_push _ _)) ?_
 have ne:s.heap.objs.size≠s.heap.objs.size+1:=Nat.ne_of_lt (Nat.lt_succ_self _)
 refine ⟨by rw [zaD ne,zar],Nat.zero_le _,ne,e2,fun _=>none,(Heap.Ns1.of_empty e3).at fun o q=>Heap.get?_push_of_some _ q,fun _=>True.intro,fun y hy=>absurd rfl hy⟩
theorem zlk {prog:Program} {w:World} {env:Env} {e:Expr} {f:Str} {pos:Pos} {s:Shared} {Q:Value→Shared→Prop} (hb:attributeBase e f env (eval e env)=eval e env)
  (h:wpAny (model prog w) A (eval e env) (fun o s₁=>wpAny (model prog w) A (getAttr o f true) Q E s₁) E s):wpAny (model prog w) A (eval (.Attribute e f pos) env) Q E s :=
 Attribute_any_ h (by rw [arm_eval_Attribute,hb])
end
def tFld (K:PySem.W.Frag) (ta:TE) (f:Str):TE:=fun σ H Q=>ta σ H fun x H1=>∃ a C dx fs v,x=.ref a∧H1 a=some (.ins C dx fs)∧Cls K C∧zbm K C f∧fs.lookup f=some v∧Q v H1
def sFld (K:PySem.W.Frag) (ta tv:TE) (f:Str):TS:=fun D σ H=>tv σ H fun y H1=>ta σ H1 fun x H2=>∃ a C dx fs,x=.ref a∧H2 a=some (.ins C dx fs)∧Cls K C∧zbm K C f∧fs.length < 1000 ∧
 D.nx σ (upd H2 a (.ins C dx (putF f y fs)))
section
variable {X:Cx} {o e value:Expr} {f:Str} {pos pos' tpos:Pos} {ta tv:TE}
theorem zmc (he:PE X e ta) (hb:attributeBase e f X.env (eval e X.env)=eval e X.env):PE X (.Attribute e f pos) (tFld X.K ta f):=by
 intro pins s σ H Q I h
 refine zlk hb (thn (he pins s σ H _ I h) fun u s1 ⟨x,H1,I1,rx,a,C,dx,fs,v,ex,ea,c,n,l,q⟩=>?_)
 subst ex
 obtain rfl:u=Value.ref a:=rx
 exact zhF I1 ea c n l fun u' s2 I2 ru=>⟨v,H1,I2,ru,q⟩
theorem zmd (ha:PE X o ta) (hv:PE X value tv) (hs:swapsWith value (some (.Attribute o f pos')) pos.line X.env=pure false):PS X (.Assign [.Attribute o f pos'] value pos) (sFld X.K ta tv f):=by
 intro pins s σ H D I h
 refine plainObj_wpAny_Assign_Attribute (thn (hv pins s σ H _ I h) fun u s1 ⟨y,H1,I1,ry,q⟩=>thn (ha pins s1 σ H1 _ I1 q) fun ov s2 ⟨x,H2,I2,rx,a,C,dx,fs,ex,ea,c,n,l,q2⟩=>?_) hs
 subst ex
 obtain rfl:ov=Value.ref a:=rx
 exact zhG I2 ea c n l ry fun s3 I3=>⟨σ,_,I3,q2⟩
theorem zll {pl:Sem Bool} {m:Str} {apos:Pos} {args:List Expr} {pins:List (Addr×Obj)} {s:Shared} {σ:St} {H:Hp} {Q:Value→Shared→Prop} {te:TE} (he:PE X e te) (I:Inv X pins σ H s)
  (h:te σ H fun x H1=>∃ a C dx fs g,x=.ref a∧H1 a=some (.ins C dx fs)∧Cls X.K C∧Meth X.K C m g∧fs.lookup m=none ∧
   ∀ s1,Inv X pins σ H1 s1→wpAny (model X.prog X.w) X.A (callWith pos (.ref g) [.ref a] (backTo pos (starEach args X.env)) (backToKw pos (keywordEach [] X.env))) Q X.xe s1)
  (ht:eval (.Call (.Attribute e m apos) args [] pos) X.env=(do
   let ov ← eval e X.env
   standAt apos.atName
   let (f,first) ← holding [ov] (getMethod ov m pl)
   callWith pos f first (backTo pos (starEach args X.env)) (backToKw pos (keywordEach [] X.env)))) :
  wpAny (model X.prog X.w) X.A (eval (.Call (.Attribute e m apos) args [] pos) X.env) Q X.xe s:=by
 refine PySem.W.methodCall_KW (pl:=pl) (thn (he pins s σ H _ I h) fun u s1 ⟨x,H1,I1,rx,a,C,dx,fs,g,ex,ea,c,k,l,q⟩=>?_) ht
 subst ex
 obtain rfl:u=Value.ref a:=rx
 exact zdv I1 ea c k l (q s1 I1)
end
section
variable {X:Cx} {pins:List (Addr×Obj)} {σ:St} {H:Hp} {s:Shared} {A:Around} {E:Value→Shared→Prop} {Q:Value→Shared→Prop} {c:Value} {b:Bool}
inductive TyOf (K:PySem.W.Frag) (H:Hp):V→Value→Prop where
 | non:TyOf K H .non (.type "NoneType")
 | bl (x:Bool):TyOf K H (.bl x) (.type "bool")
 | int (i:Int):TyOf K H (.int i) (.type "int")
 | str (x:Str):TyOf K H (.str x) (.type "str")
 | flt (x:UInt64):TyOf K H (.flt x) (.type "float")
 | lst {a:Addr} {xs:List V} (e:H a=some (.lst xs)):TyOf K H (.ref a) (.type "list")
 | frz {a:Addr} {o:Obj} {xs:List V} (e:H a=some (.frz o (.lst xs))):TyOf K H (.ref a) (.type "list")
 | tup {a:Addr} {xs:List V} (e:H a=some (.tup xs)):TyOf K H (.ref a) (.type "tuple")
 | dK {a:Addr} {kvs:List (Key×V)} (e:H a=some (.dK kvs)):TyOf K H (.ref a) (.type "dict")
 | dT {a:Addr} {kvs:List (List Key×V)} (e:H a=some (.dT kvs)):TyOf K H (.ref a) (.type "dict")
 | ins {a C dx:Addr} {fs:List (Str×V)} (e:H a=some (.ins C dx fs)) (cl:Cls K C) (ha:PySem.W.findIn K (.ref C) "__class__" = some (some (.builtin "object.__class__")))
    (hn:PySem.W.specialIn K (.builtin "object.__class__") "__get__" = some (some (.builtin "getset_descriptor.__get__"))) (htk:PySem.W.takesIn K (.builtin "object.__class__")=some true)
    (hm:PySem.W.mroIn K C (.type "object")=some true):TyOf K H (.ref a) (.ref C)
theorem ziC {x:V} {u t:Value} (I:Inv X pins σ H s) (rx:RelV x u) (ty:TyOf X.K H x t) (e:PySem.W.kitOne X.K t c=some b) (h:∀ tk,Q (.bool b) { s with toks:=tk }) :
  wpAny (model X.prog X.w) A (call (.builtin "isinstance") [u,c]) Q E s:=by
 cases ty with
 | non=>cases (show u=Value.none from rx);exact PySem.W.kia_one PySem.W.kitx_none I.kIn True.intro e (fun z=>nomatch z) h
 | bl y=>cases (show u=Value.bool y from rx);exact PySem.W.kia_one PySem.W.kitx_bool I.kIn True.intro e (fun z=>nomatch z) h
 | int i=>obtain ⟨t,q⟩:=(show ∃ t,u=Value.int i t from rx);cases q;exact PySem.W.kia_one PySem.W.kitx_int I.kIn True.intro e (fun z=>nomatch z) h
 | str y=>obtain ⟨t,q⟩:=(show ∃ t,u=Value.str y t from rx);cases q;exact PySem.W.kia_one PySem.W.kitx_str I.kIn True.intro e (fun z=>nomatch z) h
 | flt y=>obtain ⟨t,q⟩:=(show ∃ t,u=Value.float y t from rx);cases q;exact PySem.W.kia_one PySem.W.kitx_float I.kIn True.intro e (fun z=>nomatch z) h
 | @lst a xs ea =>
   cases (show u=Value.ref a from rx)
   obtain ⟨_,_,n,_,h1⟩:=(show zbs X.prog X.w H s.heap a (.lst xs) from I.hok a _ ea)
   exact PySem.W.kia_one PySem.W.kitx_list I.kIn ⟨_,h1,rfl⟩ e (fun z=>nomatch z) h
 | @frz a ob xs ea =>
   cases (show u=Value.ref a from rx)
   obtain ⟨_,_,_,n,_,h1⟩:=(show zbs X.prog X.w H s.heap a (.frz ob (.lst xs)) from I.hok a _ ea)
   exact PySem.W.kia_one PySem.W.kitx_list I.kIn ⟨_,h1,rfl⟩ e (fun z=>nomatch z) h
 | @tup a xs ea =>
   cases (show u=Value.ref a from rx)
   obtain ⟨_,_,_,p⟩:=(show zbs X.prog X.w H s.heap a (.tup xs) from I.hok a _ ea)
   obtain ⟨o,h1,h2,_⟩:=p
   exact PySem.W.kia_one PySem.W.kitx_tuple I.kIn ⟨o,h1,h2⟩ e (fun z=>nomatch z) h
 | @dK a kvs ea =>
   cases (show u=Value.ref a from rx)
   obtain ⟨_,_,vs,_,p⟩:=(show zbs X.prog X.w H s.heap a (.dK kvs) from I.hok a _ ea)
   obtain ⟨o,es,ep,h1,h2,_⟩:=p
   exact PySem.W.kia_one PySem.W.kitx_dict I.kIn ⟨o,h1,h2.1⟩ e (fun z=>nomatch z) h
 | @dT a kvs ea =>
   cases (show u=Value.ref a from rx)
   obtain ⟨_,_,xs,_,o,es,ep,h1,h2,_⟩:=(show zbs X.prog X.w H s.heap a (.dT kvs) from I.hok a _ ea)
   exact PySem.W.kia_one PySem.W.kitx_dict I.kIn ⟨o,h1,h2.1⟩ e (fun z=>nomatch z) h
 | @ins a C dx fs ea cl ha hn htk hm =>
   cases (show u=Value.ref a from rx)
   obtain ⟨mA,O,_⟩:=zfg I.hok ea
   obtain ⟨od,J,_⟩:=O.look
   exact PySem.W.kia_one (PySem.W.kitx_own (cl.get _) cl.hd ha hn htk hm) I.kIn J e (fun z=>nomatch z) h
end
end L2
namespace L2
open PySem PySem.Spec PyProof.Rows
structure Room (k:Nat) (A:Around):Prop where
 hd:A.handled=none
 dp:A.depth+3 * k+5 < recursionLimit
 un:A.units+16 * k+200 < cLine
theorem Room.mono {j k:Nat} {A:Around} (r:Room k A) (h:j≤k):Room j A:=⟨r.hd,by have:=r.dp;omega,by have:=r.un;omega⟩
theorem Room.deeper {k:Nat} {A:Around} (r:Room (k+1) A) (env:Env):Room k (A.deeper env) :=
 ⟨r.hd,by have:=r.dp;show A.depth+1+3 * k+5 < _;omega,by have:=r.un;show A.units+3+16 * k+200 < _;omega⟩
theorem zhH {A:Around} {C:Addr} {us:List Value} {kw:List (Str×Value)}:(A.under (.builtin "type.__call__" ⟨.ref C::us,kw⟩)).depth=A.depth+1:=by
 first | rfl | simp [Around.under,Code.weight,Code.isCreation,Code.isGuard,Code.isCaller,Code.frames,Code.isFrame,guardIds]
theorem zhI {A:Around} {C:Addr} {us:List Value} {kw:List (Str×Value)}:(A.under (.builtin "type.__call__" ⟨.ref C::us,kw⟩)).units=A.units+1:=by
 first | rfl | simp [Around.under,Code.cUnits,Code.frames,Code.isFrame]
theorem Room.make {k:Nat} {A:Around} (r:Room (k+1) A) (C:Addr) (us:List Value) (kw:List (Str×Value)):Room k (A.under (.builtin "type.__call__" ⟨.ref C::us,kw⟩)) :=
 ⟨r.hd,by have:=r.dp;rw [zhH];omega,by have:=r.un;rw [zhI];omega⟩
theorem Room.depth {k:Nat} {A:Around} (r:Room k A):A.depth < recursionLimit:=by have:=r.dp;omega
theorem Room.units {k:Nat} {A:Around} (r:Room k A):A.units+64 < cLine:=by have:=r.un;omega
theorem Room.units0 {k:Nat} {A:Around} (r:Room k A):A.units < cLine:=by have:=r.un;omega
def tNil:TA:=fun _ H Q=>Q [] H
def zfh (ta:TE) (tr:TA):TA:=fun σ H Q=>ta σ H fun x H1=>tr σ H1 fun xs H2=>Q (x::xs) H2
section
variable {X:Cx} {e:Expr} {es:List Expr} {te:TE} {t:TA} {pos:Pos}
theorem pa_nil:PA X [] tNil:=fun _ _ _ _ H Q I h=>Calls.spliced_nil ⟨[],H,I,.nil,h⟩
theorem zaa (ha:PE X e te) (hr:PA X es t) (hs:starEach (e::es) X.env=(false,eval e X.env)::starEach es X.env:=by rfl):PA X (e::es) (zfh te t):=by
 intro pos pins s σ H Q I h
 rw [hs]
 show wpAny _ _ (spliced ((false,eval e X.env)::backTo pos (starEach es X.env))) _ _ s
 refine Calls.spliced_cons (thn (ha pins s σ H _ I h) fun u s1 ⟨x,H1,I1,r1,q1⟩=>?_)
 exact thn (hr pos pins s1 σ H1 _ I1 q1) fun us s2 ⟨xs,H2,I2,r2,q2⟩=>⟨x::xs,H2,I2,.cons r1 r2,q2⟩
def tLst (t:TA):TE:=fun σ H Q=>t σ H fun xs H1=>xs.length≤sizeLine∧∀ p,H1 p=none→Q (.ref p) (upd H1 p (.lst xs))
theorem zaP (h:PA X es t):PE X (.List es pos) (tLst t):=by
 intro pins s σ H Q I hq
 refine wpAny_List_spliced (thn (h pos pins s σ H _ I hq) fun us s1 ⟨xs,H1,I1,r,z,q⟩=>⟨by rw [← r.length];exact z,?_⟩)
 have hf:H1 s1.heap.objs.size=none:=I1.hok.fresh (Nat.le_refl _)
 refine ⟨.ref s1.heap.objs.size,upd H1 s1.heap.objs.size (.lst xs),I1.laid (t':=s1.toks) (fun b u e=>Heap.get?_push_of_some _ e) (Nat.le_refl _) ?_,rfl,q _ hf⟩
 exact ⟨z,us,0,r,Heap.get?_push_size _ rfl⟩
end
abbrev Sp:=List V→Hp→VK→XK→Prop
abbrev CXT:=List Env→Hp→Shared→XK→Value→Shared→Prop
structure Env0 (P:Program) (w:World) (K:PySem.W.Frag) (mg:Str→Option Value) (base:Heap) (A:Around) (outer:List Env) (s:Shared) (H:Hp):Prop where
 frames:A.frames=some outer
 mod:Mod K mg base
 bs:∀ b o,base.get? b=some o→s.heap.get? b=some o∧H b=none
 bsz:base.objs.size≤s.heap.objs.size
 funs:s.heap.FunFrames base outer
 frf:∀ b∈frs outer,H b=none
 hok:HOk P w H s.heap
 bare:AllBare s.gens
def CE (outer:List Env) (P:Program) (w:World) (H:Hp) (s:Shared) (Q:VK) (u:Value) (s':Shared):Prop :=
 ∃ v H',s'.os=s.os∧AllBare s'.gens∧Un (frs outer) [] H H' s.heap s'.heap∧HOk P w H' s'.heap∧RelV v u∧Q v H'
def CR (CX:CXT) (outer:List Env) (P:Program) (w:World) (H:Hp) (s:Shared) (Q:VK) (E:XK) (r:Result) (s':Shared):Prop :=
 match r with
 | .ok (.ret u)=>CE outer P w H s Q u s'
 | .ok _=>False
 | .error e=>CX outer H s E e s'
structure FnOk (P:Program) (w:World) (K:PySem.W.Frag) (mg:Str→Option Value) (base:Heap) (CX:CXT) (k:Nat) (f:Addr) (fd:FuncData) (ps:List Str) (sp:Sp):Prop where
 len:∀ vs H Q E,sp vs H Q E→vs.length=ps.length
 run:∀ (A:Around) (outer:List Env) (s:Shared) (H:Hp) (args:Args) (us:List Value) (vs:List V) (Q:VK) (E:XK),Room k A→Env0 P w K mg base A outer s H→BindsTo s fd args (ps.zip us)→Vals vs us→sp vs H Q E →
  codeAny (model P w) A (.call (.ref f) args) (CR CX outer P w H s Q E) s
theorem Env0.make {P:Program} {w:World} {K:PySem.W.Frag} {mg:Str→Option Value} {base:Heap} {A:Around} {outer:List Env} {s:Shared} {H:Hp} (e:Env0 P w K mg base A outer s H) (C:Addr) (us:List Value) (kw:List (Str×Value)) :
  Env0 P w K mg base (A.under (.builtin "type.__call__" ⟨.ref C::us,kw⟩)) outer s H:=⟨by first | exact e.frames | (simpa [Around.under,Code.envs,Code.isFrame,pushEnvs] using e.frames),e.mod,e.bs,e.bsz,e.funs,e.frf,e.hok,e.bare⟩
section
variable {X:Cx} {pins:List (Addr×Obj)} {σ:St} {H:Hp} {s s':Shared}
theorem Inv.env0 (I:Inv X pins σ H s):Env0 X.prog X.w X.K X.mg X.base X.A X.stack s H :=
 ⟨I.ok.frames,I.ok.mod,I.bs,Nat.le_trans I.ok.bsz I.sz,I.stack,I.stkFree,I.hok,I.bare⟩
theorem Inv.after {Q:VK} {u:Value} (I:Inv X pins σ H s) (h:CE X.stack X.prog X.w H s Q u s'):EP X pins σ Q u s':=by
 obtain ⟨v,H',os,bare,un,hok,r,q⟩:=h
 obtain ⟨hh,g,d,t,os'⟩:=s'
 obtain rfl:os'=s.os:=os
 exact ⟨v,H',I.call (h':=hh) (g':=g) (d':=d) (t':=t) (ch:=[]) un hok bare (fun b z=>absurd z (by simp)),r,q⟩
end
def zlm (sp:Sp) (dvs:List V) (E:XK) (t:TA):TE:=fun σ H Q=>t σ H fun vs H1=>sp (vs++dvs) H1 Q E
def zln (C:Addr) (m:Str) (sp:Sp) (dvs:List V) (E:XK) (ta:TE) (t:TA):TE:=fun σ H Q=>ta σ H fun x H1=>∃ a dx fs,x=.ref a∧H1 a=some (.ins C dx fs)∧fs.lookup m=none ∧
 t σ H1 fun vs H2=>sp (x::(vs++dvs)) H2 Q E
def zlo (C:Addr) (sp:Sp) (dvs:List V) (E:XK) (t:TA):TE:=fun σ H Q=>t σ H fun vs H1=>∀ x dx,H1 x=none→H1 dx=none→dx≠x →
 sp (.ref x::(vs++dvs)) (upd (upd H1 dx (.own x)) x (.ins C dx [])) (fun v H2=>v=.non∧Q (.ref x) H2) E
def Binds (K:PySem.W.Frag) (fd:FuncData) (ps:List Str) (ds:List Value):Prop :=
 ∀ (s:Shared) (us:List Value),K.In s.heap→(us++ds).length=ps.length→BindsTo s fd ⟨us,[]⟩ (ps.zip (us++ds))
theorem Binds.all {K:PySem.W.Frag} {fd:FuncData} {ps:List Str} (h:∀ us:List Value,us.length=ps.length→bindArgs fd ⟨us,[]⟩=pure (ps.zip us)):Binds K fd ps []:=fun s us _ hl=>by
 rw [List.append_nil] at hl ⊢
 exact .of_eq (h us hl)
def zdK (CX:CXT) (X:Cx) (E:XK):Prop:=∀ (pins:List (Addr×Obj)) (σ:St) (H:Hp) (s:Shared) (e:Value) (s':Shared),Inv X pins σ H s→CX X.stack H s E e s'→X.xe e s'
section
variable {X:Cx} {CX:CXT} {k:Nat} {f C:Addr} {fd:FuncData} {ps:List Str} {sp:Sp} {dvs:List V} {ds:List Value} {E:XK} {x m:Str} {p pos apos:Pos} {e o:Expr} {es:List Expr} {ta:TE} {t:TA}
theorem ziD {pins:List (Addr×Obj)} {σ:St} {H:Hp} {s:Shared} {Q:VK} {us:List Value} {vs:List V} (F:FnOk X.prog X.w X.K X.mg X.base CX k f fd ps sp) (hr:Room k X.A) (hb:Binds X.K fd ps ds) (hd:Vals dvs ds) (hx:zdK CX X E)
  (I:Inv X pins σ H s) (r:Vals vs us) (h:sp (vs++dvs) H Q E):wpAny (model X.prog X.w) X.A (call (.ref f) us) (EP X pins σ Q) X.xe s:=by
 have r2:Vals (vs++dvs) (us++ds):=r.append hd
 have hl:(us++ds).length=ps.length:=by rw [← r2.length];exact F.len _ _ _ _ h
 refine wpAny_call (codeAny_mono (F.run X.A X.stack s H ⟨us,[]⟩ (us++ds) (vs++dvs) Q E hr I.env0 (hb s us I.kIn hl) r2 h) fun r s' hq=>?_)
 cases r with
 | error e=>exact hx pins σ H s e s' I hq
 | ok fl =>
   cases fl with
   | ret u=>exact I.after hq
   | next=>exact False.elim hq
   | brk=>exact False.elim hq
   | cont=>exact False.elim hq
theorem zao (F:FnOk X.prog X.w X.K X.mg X.base CX k f fd ps sp) (hr:Room k X.A) (hg:Gl X x) (hm:X.mg x=some (.ref f)) (hk:PySem.W.keepIn X.K (.ref f)=true) (hb:Binds X.K fd ps ds) (hd:Vals dvs ds) (hx:zdK CX X E)
  (ha:PA X (e::es) t) (hdb:(x == ("__debug__" : Str))=false:=by decide) (he:starEach (e::es) X.env=(false,eval e X.env)::starEach es X.env:=by rfl) (hpl:(backTo pos (starEach es X.env)).any (·.1)=false:=by rfl) :
  PE X (.Call (.Name x p) (e::es) [] pos) (zlm sp dvs E t):=by
 intro pins s σ H Q I h
 refine wpAny_Call_Name_kw (zfe I hg hm ?_ hdb)
 refine PySem.W.callWith_K (h₀:=X.base) I.ok.mod.kin hk (thn (ha pos pins s σ H _ I h) fun us s1 ⟨vs,H1,I1,r,q⟩=>⟨I1.kIn,?_⟩) he hpl
 exact ziD F hr hb hd hx I1 r q
theorem zbH {pl:Sem Bool} (he:PE X o ta) (c:Cls X.K C) (hm:Meth X.K C m f) (F:FnOk X.prog X.w X.K X.mg X.base CX k f fd ps sp) (hr:Room k X.A) (hb:Binds X.K fd ps ds) (hd:Vals dvs ds) (hx:zdK CX X E) (ha:PA X (e::es) t)
  (hst:starEach (e::es) X.env=(false,eval e X.env)::starEach es X.env:=by rfl) (hpl:(backTo pos (starEach es X.env)).any (·.1)=false:=by rfl)
  (ht:eval (.Call (.Attribute o m apos) (e::es) [] pos) X.env=(do
   let ov ← eval o X.env
   standAt apos.atName
   let (f,first) ← holding [ov] (getMethod ov m pl)
   callWith pos f first (backTo pos (starEach (e::es) X.env)) (backToKw pos (keywordEach [] X.env))):=by rfl) :
  PE X (.Call (.Attribute o m apos) (e::es) [] pos) (zln C m sp dvs E ta t):=by
 intro pins s σ H Q I h
 refine PySem.W.methodCall_KW (pl:=pl) (thn (he pins s σ H _ I h) fun u s1 ⟨x,H1,I1,rx,a,dx,fs,ex,ea,l,q⟩=>?_) ht
 subst ex
 obtain rfl:u=Value.ref a:=rx
 refine zdv I1 ea c hm l ?_
 refine PySem.W.callWith_K (first:=[.ref a]) (h₀:=X.base) I.ok.mod.kin hm.kp (thn (ha pos pins s1 σ H1 _ I1 q) fun us s2 ⟨vs,H2,I2,r,q2⟩=>⟨I2.kIn,?_⟩) hst hpl
 exact ziD (us:=.ref a::us) (vs:=.ref a::vs) F hr hb hd hx I2 (.cons rfl r) q2
theorem zaY {pl:Sem Bool} (he:PE X o ta) (c:Cls X.K C) (hm:Meth X.K C m f) (F:FnOk X.prog X.w X.K X.mg X.base CX k f fd ps sp) (hr:Room k X.A) (hb:Binds X.K fd ps ds) (hd:Vals dvs ds) (hx:zdK CX X E)
  (ht:eval (.Call (.Attribute o m apos) [] [] pos) X.env=(do
   let ov ← eval o X.env
   standAt apos.atName
   let (f,first) ← holding [ov] (getMethod ov m pl)
   callWith pos f first (backTo pos (starEach [] X.env)) (backToKw pos (keywordEach [] X.env))):=by rfl) :
  PE X (.Call (.Attribute o m apos) [] [] pos) (zln C m sp dvs E ta tNil):=by
 intro pins s σ H Q I h
 refine PySem.W.methodCall_KW (pl:=pl) (thn (he pins s σ H _ I h) fun u s1 ⟨x,H1,I1,rx,a,dx,fs,ex,ea,l,q⟩=>?_) ht
 subst ex
 obtain rfl:u=Value.ref a:=rx
 refine zdv I1 ea c hm l ?_
 exact PySem.W.callWith_K0 (first:=[.ref a]) I1.kIn hm.kp (ziD (us:=[.ref a]) (vs:=[.ref a]) F hr hb hd hx I1 (.cons rfl .nil) q)
structure Mk (K:PySem.W.Frag) (C f:Addr):Prop where
 makes:PySem.W.makesIn K C=true
 init:PySem.W.findIn K (.ref C) "__init__" = some (some (.ref f))
 fn:PySem.W.isFn K (.ref f)=true
 kp:PySem.W.keepIn K (.ref C)=true
theorem zhd {pins:List (Addr×Obj)} {σ:St} {H:Hp} {s:Shared} {Q:VK} {us:List Value} {vs:List V} (M:Mk X.K C f) (F:FnOk X.prog X.w X.K X.mg X.base CX k f fd ps sp) (hr:Room (k+1) X.A) (hb:Binds X.K fd ps ds) (hd:Vals dvs ds)
  (hx:zdK CX X E) (I:Inv X pins σ H s) (r:Vals vs us)
  (h:∀ x dx,H x=none→H dx=none→dx≠x→sp (.ref x::(vs++dvs)) (upd (upd H dx (.own x)) x (.ins C dx [])) (fun v H2=>v=.non∧Q (.ref x) H2) E) :
  wpAny (model X.prog X.w) X.A (call (.ref C) us) (EP X pins σ Q) X.xe s:=by
 have hq:=h (s.heap.objs.size+1) s.heap.objs.size (I.hok.fresh (Nat.le_succ _)) (I.hok.fresh (Nat.le_refl _)) (Nat.ne_of_lt (Nat.lt_succ_self _))
 have I2:=Inv.made (C:=C) I
 have r2:Vals (V.ref (s.heap.objs.size+1)::(vs++dvs)) (Value.ref (s.heap.objs.size+1)::(us++ds)):=.cons rfl (r.append hd)
 have hl:(Value.ref (s.heap.objs.size+1)::us++ds).length=ps.length:=by
  have e:=r2.length
  rw [F.len _ _ _ _ hq] at e
  exact e.symm
 refine wpAny_call (zjR (f:=f) I.kIn M.makes M.init (beq_iff_eq.mp M.fn) (codeAny_mono (F.run _ X.stack _ _ ⟨Value.ref (s.heap.objs.size+1)::us,[]⟩ (Value.ref (s.heap.objs.size+1)::(us++ds)) _ _ E (hr.make C us [])
  (I2.env0.make C us []) (hb _ (Value.ref (s.heap.objs.size+1)::us) I2.kIn hl) r2 hq) fun r s' hq'=>?_))
 cases r with
 | error e=>exact hx pins σ _ _ e s' I2 hq'
 | ok fl =>
   cases fl with
   | ret u =>
     obtain ⟨v,H',I3,rv,ev,q3⟩:=I2.after hq'
     subst ev
     exact ⟨rv,⟨V.ref (s.heap.objs.size+1),H',I3,rfl,q3⟩⟩
   | next=>exact False.elim hq'
   | brk=>exact False.elim hq'
   | cont=>exact False.elim hq'
theorem zlp (M:Mk X.K C f) (F:FnOk X.prog X.w X.K X.mg X.base CX k f fd ps sp) (hr:Room (k+1) X.A) (hg:Gl X x) (hm:X.mg x=some (.ref C)) (hb:Binds X.K fd ps ds) (hd:Vals dvs ds) (hx:zdK CX X E)
  (ha:PA X (e::es) t) (hdb:(x == ("__debug__" : Str))=false:=by decide) (he:starEach (e::es) X.env=(false,eval e X.env)::starEach es X.env:=by rfl) (hpl:(backTo pos (starEach es X.env)).any (·.1)=false:=by rfl) :
  PE X (.Call (.Name x p) (e::es) [] pos) (zlo C sp dvs E t):=by
 intro pins s σ H Q I h
 refine wpAny_Call_Name_kw (zfe I hg hm ?_ hdb)
 refine PySem.W.callWith_K (h₀:=X.base) I.ok.mod.kin M.kp (thn (ha pos pins s σ H _ I h) fun us s1 ⟨vs,H1,I1,r,q⟩=>⟨I1.kIn,?_⟩) he hpl
 exact zhd M F hr hb hd hx I1 r q
theorem zjS (M:Mk X.K C f) (F:FnOk X.prog X.w X.K X.mg X.base CX k f fd ps sp) (hr:Room (k+1) X.A) (hg:Gl X x) (hm:X.mg x=some (.ref C)) (hb:Binds X.K fd ps ds) (hd:Vals dvs ds) (hx:zdK CX X E)
  (hdb:(x == ("__debug__" : Str))=false:=by decide):PE X (.Call (.Name x p) [] [] pos) (zlo C sp dvs E tNil):=by
 intro pins s σ H Q I h
 refine wpAny_Call_Name_kw (zfe I hg hm ?_ hdb)
 exact PySem.W.callWith_K0 I.kIn M.kp (zhd (us:=[]) M F hr hb hd hx I .nil h)
end
def PK (X:Cx) (kws:List Keyword) (t:TA):Prop :=
 ∀ (pos:Pos) (pins:List (Addr×Obj)) (s:Shared) (σ:St) (H:Hp) (Q:List V→Hp→Prop),Inv X pins σ H s→t σ H Q→wpAny (model X.prog X.w) X.A (evalAll ((backToKw pos (keywordEach kws X.env)).map (·.2))) (AP X pins σ Q) X.xe s
section
variable {X:Cx} {CX:CXT} {k:Nat} {f C:Addr} {fd:FuncData} {ps ks:List Str} {sp:Sp} {E:XK} {x m:Str} {p pos apos kpos:Pos} {e o:Expr} {es:List Expr} {kws:List Keyword} {te ta:TE} {t tk:TA} {nm:Option Str}
theorem pk_nil:PK X [] tNil:=fun _ _ _ _ H Q I h=>wpAny_evalAll_nil ⟨[],H,I,.nil,h⟩
theorem ziE (ha:PE X e te) (hr:PK X kws t):PK X (⟨nm,e,kpos⟩::kws) (zfh te t):=by
 intro pos pins s σ H Q I h
 show wpAny _ _ (evalAll ((do let v ← eval e X.env;standAt pos;pure v)::(backToKw pos (keywordEach kws X.env)).map (·.2))) _ _ s
 refine wpAny_evalAll_cons (wpAny_bind (thn (ha pins s σ H _ I h) fun u s1 ⟨x,H1,I1,r1,q1⟩=>wpAny_bind (wpAny_standAt (wpAny_pure ?_))))
 exact thn (hr pos pins s1 σ H1 _ I1 q1) fun us s2 ⟨xs,H2,I2,r2,q2⟩=>⟨x::xs,H2,I2,.cons r1 r2,q2⟩
variable {g:List Value→List Value→List Value} {gV:List V→List V→List V}
end
structure zan (N P:List Str) (sc:Scope):Prop where
 kind:sc.kind=.function
 co:sc.isCoroutine=false
 gen:sc.isGenerator=false
 nd:N.Nodup
 pre:N.take P.length=P
 par:∀ x∈P,sc.names.lookup x=some .local∨sc.names.lookup x=some .cell
 nofree:∀ y∈sc.names,y.2≠.free
theorem zfI {kindOf:Str→Option NameKind} {x:Str}:∀ {binds:List (Str×Value)} {m:Str→Option Value},(∀ v,(x,v)∉binds)→bindL kindOf binds m x=m x
 | [],_,_=>rfl
 | (n,v)::r,m,h=>by
  unfold bindL
  rw [zfI fun w hw=>h w (List.mem_cons_of_mem _ hw)]
  split
  ·have:x≠n:=by rintro rfl;exact h v List.mem_cons_self
   simp [this]
  ·rfl
theorem zfJ {kindOf:Str→Option NameKind} {x:Str}:∀ {binds:List (Str×Value)} {m:Str→Option Value},(∀ v,(x,v)∉binds)→bindC kindOf binds m x=m x
 | [],_,_=>rfl
 | (n,v)::r,m,h=>by
  unfold bindC
  rw [zfJ fun w hw=>h w (List.mem_cons_of_mem _ hw)]
  split
  ·rfl
  ·have:x≠n:=by rintro rfl;exact h v List.mem_cons_self
   simp [this]
theorem zfK {kindOf:Str→Option NameKind} {x:Str} {v:Value}:∀ {P:List Str} {vs:List Value} {i:Nat} {m:Str→Option Value},P.Nodup→P[i]? = some x→vs[i]? = some v→kindOf x=some .local →
  bindL kindOf (P.zip vs) m x=some v
 | [],_,_,_,_,h,_,_=>by simp at h
 | _::_,[],_,_,_,_,h,_=>by simp at h
 | p::P,w::vs,0,m,nd,h1,h2,hk=>by
   simp at h1 h2;subst h1;subst h2
   show bindL kindOf ((p,w)::P.zip vs) m p=_
   unfold bindL
   rw [zfI fun v hv=>(List.nodup_cons.mp nd).1 (List.of_mem_zip hv).1,if_pos hk]
   simp
 | p::P,w::vs,i+1,m,nd,h1,h2,hk=>by
   show bindL kindOf ((p,w)::P.zip vs) m x=_
   unfold bindL
   exact zfK (i:=i) (List.nodup_cons.mp nd).2 (by simpa using h1) (by simpa using h2) hk
theorem zfL {kindOf:Str→Option NameKind} {x:Str} {v:Value}:∀ {P:List Str} {vs:List Value} {i:Nat} {m:Str→Option Value},P.Nodup→P[i]? = some x→vs[i]? = some v→kindOf x≠some .local →
  bindC kindOf (P.zip vs) m x=some v
 | [],_,_,_,_,h,_,_=>by simp at h
 | _::_,[],_,_,_,_,h,_=>by simp at h
 | p::P,w::vs,0,m,nd,h1,h2,hk=>by
   simp at h1 h2;subst h1;subst h2
   show bindC kindOf ((p,w)::P.zip vs) m p=_
   unfold bindC
   rw [zfJ fun v hv=>(List.nodup_cons.mp nd).1 (List.of_mem_zip hv).1,if_neg hk]
   simp
 | p::P,w::vs,i+1,m,nd,h1,h2,hk=>by
   show bindC kindOf ((p,w)::P.zip vs) m x=_
   unfold bindC
   exact zfL (i:=i) (List.nodup_cons.mp nd).2 (by simpa using h1) (by simpa using h2) hk
def start (N:List Str) (vs:List V):St:=vs.map some++List.replicate (N.length-vs.length) none
def cxOf (CX:CXT) (P:Program) (w:World) (K:PySem.W.Frag) (mg:Str→Option Value) (base:Heap) (N:List Str) (qual:Str) (scope:Scope) (f:Addr) (cd:Value) (A:Around) (outer:List Env) (s:Shared) (H:Hp) (E:XK):Cx where
 prog:=P
 w:=w
 K:=K
 mg:=mg
 base:=base
 A:=A.deeper (envOfC qual scope s.heap.objs.size f cd)
 N:=N
 s₀:=s
 H₀:=H
 env:=envOfC qual scope s.heap.objs.size f cd
 outer:=outer
 stack:=envOfC qual scope s.heap.objs.size f cd::outer
 ex:=[]
 calm:=true
 fn:=fun _=>true
 pn:=[]
 xe:=fun e s'=>wpAny (model P w) (A.deeper (envOfC qual scope s.heap.objs.size f cd)) (leaving (envOfC qual scope s.heap.objs.size f cd) e) (fun _ s''=>CX outer H s E e s'') (fun e' s''=>CX outer H s E e' s'') s'
theorem zhe {sc:Scope} {n:Nat} {x:Str} (h:sc.names.lookup x=some .cell):∃ c,(cellsFrom n sc.names []).lookup x=some c:=by
 have q:=PySem.W.cellsFrom_some sc.names n [] (.inl h)
 exact Option.isSome_iff_exists.mp q
theorem ziF {CX:CXT} {P:Program} {w:World} {K:PySem.W.Frag} {mg:Str→Option Value} {base:Heap} {N ps:List Str} {qual:Str} {scope:Scope} {f:Addr} {cd:Value} {A:Around} {outer:List Env} {s s1:Shared} {H:Hp} {E:XK} {us:List Value} {vs:List V}
  (S:zan N ps scope) (hd:A.handled=none) (e0:Env0 P w K mg base A outer s H) (hl:vs.length=ps.length) (r:Vals vs us)
  (x:InCallC s s.heap.objs.size (bindL (envOfC qual scope s.heap.objs.size f cd).kindOf (ps.zip us) fun _=>none) (cellsFrom (s.heap.objs.size+1) scope.names []) (bindC (envOfC qual scope s.heap.objs.size f cd).kindOf (ps.zip us) fun _=>none) s1) :
  Inv (cxOf CX P w K mg base N qual scope f cd A outer s H E) [] (start N vs) H s1:=by
 have hpl:ps.length≤N.length:=by have:=congrArg List.length S.pre;rw [List.length_take] at this;omega
 obtain ⟨h1,tk,rfl,hk⟩:=x.done
 have noA:∀ b:Addr,b∉(cxOf CX P w K mg base N qual scope f cd A outer s H E).ex:=fun b z=>absurd (show b∈([]:List Addr) from z) (by simp)
 refine ⟨⟨e0.mod,S.kind,rfl,rfl,Nat.le_refl _,fun y z c h1 h2=>?_,fun y hy=>?_,fun y c _ h=>?_,fun _=>hd,Around.frames_deeper e0.frames,.inr ⟨rfl,rfl⟩,fun b z=>absurd z (noA b),e0.bs,e0.bsz,fun b _ _=>noA b,fun b z=>absurd z (noA b),e0.funs,e0.frf⟩,
  rfl,e0.bare,Un.kept hk,⟨_,x.toInCall.ns,fun i y v h1 h2 h3=>?_⟩,fun y c h=>⟨_,x.cell y c h⟩,e0.hok.fresh (Nat.le_refl _),fun y c h=>?_,fun p hp=>absurd (show p∈([]:List (Addr×Obj)) from hp) (by simp),e0.hok.kept hk,?_⟩
 ·exact name_of_addr x.apart (PySem.mem_of_lookup h1) (PySem.mem_of_lookup h2)
 ·have hy:scope.names.lookup y=some .cell∨scope.names.lookup y=some .free:=hy
  rcases hy with hy | hy
  ·exact zhe hy
  ·exact absurd rfl (S.nofree _ (PySem.mem_of_lookup hy))
 ·exact Nat.le_of_lt (x.above y c (PySem.mem_of_lookup h))
 ·have hi:i < vs.length:=by
   unfold start at h2
   by_cases hi:i < vs.length
   ·exact hi
   ·rw [List.getElem?_append_right (by simpa using hi)] at h2
    rw [List.getElem?_replicate] at h2
    split at h2 <;> cases h2
  have ha:vs[i]? = some v:=by
   unfold start at h2
   rw [List.getElem?_append_left (by simpa using hi),List.getElem?_map] at h2
   cases e:vs[i]? with
   | none=>rw [e] at h2;cases h2
   | some a=>rw [e] at h2;cases h2;rfl
  obtain ⟨u,hu,rv⟩:=r.get ha
  have hp:ps[i]? = some y:=by
   rw [← S.pre,List.getElem?_take_of_lt (by omega)];exact h1
  have ndP:ps.Nodup:=by rw [← S.pre];exact S.nd.sublist (List.take_sublist _ _)
  refine ⟨u,rv,?_⟩
  rcases S.par y (List.mem_of_getElem? hp) with k | k
  ·exact .inl ⟨k,zfK ndP hp hu k⟩
  ·obtain ⟨c,e⟩:=zhe (n:=s.heap.objs.size+1) k
   refine .inr ⟨.inl k,c,e,?_⟩
   have q:=x.cell y c e
   rw [zfL ndP hp hu (by show scope.names.lookup y≠_;rw [k];decide)] at q
   exact q
 ·exact e0.hok.fresh (Nat.le_of_lt (x.above y c (PySem.mem_of_lookup h)))
 ·unfold start
  show _=N.length
  rw [List.length_append,List.length_map,List.length_replicate]
  omega
theorem zm9 {CX:CXT} {P:Program} {w:World} {K:PySem.W.Frag} {mg:Str→Option Value} {base:Heap} {k:Nat} {f:Addr} {name qual:Str} {params:Arguments} {body:List Stmt} {scope:Scope} {dV kV doc pm cdv ct oc:Value} {an od:Option Addr}
  {osl:Array (Option Value)} {N ps:List Str} {sp:Sp} (lk:K.lookup f=some ⟨oc,od,.func (PySem.W.fnOf name qual params body scope dV kV doc pm an cdv ct),osl⟩) (hcd:PySem.W.codeIn K cdv qual=true) (S:zan N ps scope)
  (len:∀ vs H Q E,sp vs H Q E→vs.length=ps.length)
  (hbody:∀ (A:Around) (outer:List Env) (s:Shared) (H:Hp) (vs:List V) (Q:VK) (E:XK),Room k (A.deeper (envOfC qual scope s.heap.objs.size f cdv))→sp vs H Q E →
   ∃ t,PSs (cxOf CX P w K mg base N qual scope f cdv A outer s H E) body t∧t { nx:=fun _ H'=>Q .non H',rt:=Q } (start N vs) H) :
  FnOk P w K mg base CX (k+1) f (PySem.W.fnOf name qual params body scope dV kV doc pm an cdv ct) ps sp:=by
 refine ⟨len,fun A outer s H args us vs Q E hr e0 hb r hsp=>?_⟩
 have hl:=len _ _ _ _ hsp
 have KX:K.In s.heap:=e0.mod.kin.keeps fun b o e=>(e0.bs b o e).1
 have lim:s.heap.NoLimit:=e0.mod.nolimit.keeps fun b o e=>(e0.bs b o e).1
 have hkind:∀ y∈ps.zip us,scope.names.lookup y.1=some .local∨(scope.names.lookup y.1=some .cell∧((cellsFrom (s.heap.objs.size+1) scope.names []).lookup y.1).isSome=true):=fun ⟨n,v⟩ hy=>by
  rcases S.par n (List.of_mem_zip hy).1 with q | q
  ·exact .inl q
  ·exact .inr ⟨q,PySem.W.cellsFrom_some _ _ _ (.inl q)⟩
 refine codeAny_call_function hr.depth (KX _ _ lk) rfl S.co S.gen rfl (PySem.W.codeRec_of KX hcd) (hb _ _ _ _ ?_)
 refine wpAny_newFunctionEnv_cells S.kind hkind fun env he s1 x=>?_
 subst he
 refine ⟨lim.keeps x.toInCall.keep,codeAny_func ?_⟩
 obtain ⟨t,ht,hq⟩:=hbody A outer s H vs Q E (hr.deeper _) hsp
 have I:Inv (cxOf CX P w K mg base N qual scope f cdv A outer s H E) [] (start N vs) H s1:=ziF S hr.hd e0 hl r x
 refine wpAny_mono (ht [] s1 (start N vs) H _ I hq) (fun fl s' hs=>?_) fun e s' hs=>hs
 have fin:∀ {σ':St} {H':Hp} {v:V} {u:Value},Inv (cxOf CX P w K mg base N qual scope f cdv A outer s H E) [] σ' H' s'→RelV v u→Q v H'→CE outer P w H s Q u s' :=
  fun {σ' H' v u} J rv q=>⟨v,H',J.os,J.bare,J.base,J.hok,rv,q⟩
 cases fl with
 | ret u =>
   obtain ⟨v,σ',H',J,rv,q⟩:=hs
   exact fin J rv q
 | next =>
   obtain ⟨σ',H',J,q⟩:=hs
   exact fin (v:=V.non) (u:=Value.none) J rfl q
 | brk =>
   obtain ⟨_,_,_,q⟩:=hs
   exact False.elim q
 | cont =>
   obtain ⟨_,_,_,q⟩:=hs
   exact False.elim q
end L2
namespace L2
open PySem PySem.Spec PyProof.Rows
section
variable {X:Cx} {x:Str} {p pos:Pos} {e:Expr} {es:List Expr} {t:TA} {id T:String} {r:List V→Hp→VK→Prop}
def tCB (r:List V→Hp→VK→Prop) (t:TA):TE:=fun σ H Q=>t σ H fun vs H1=>r vs H1 Q
theorem zah (hc:zcs X (.builtin id) r) (hg:Gl X x) (hm:X.mg x=none) (hv:bootBuiltins x=some (.builtin id)) (ha:PA X (e::es) t) (hn:x≠"__name__":=by decide) (hdb:(x == ("__debug__" : Str))=false:=by decide)
  (he:starEach (e::es) X.env=(false,eval e X.env)::starEach es X.env:=by rfl) (hpl:(backTo pos (starEach es X.env)).any (·.1)=false:=by rfl):PE X (.Call (.Name x p) (e::es) [] pos) (tCB r t):=by
 intro pins s σ H Q I h
 refine wpAny_Call_Name_kw (zda I hg hm hv ?_ hn hdb)
 exact PyProof.Rows.callWith_builtin1 (thn (ha pos pins s σ H _ I h) fun us s1 ⟨vs,H1,I1,r1,q1⟩=>hc pins s1 σ H1 vs us Q I1 r1 q1) he hpl
theorem zfM (hc:zcs X (.type T) r) (hg:Gl X x) (hm:X.mg x=none) (hv:bootBuiltins x=some (.type T)) (ha:PA X (e::es) t) (hn:x≠"__name__":=by decide) (hdb:(x == ("__debug__" : Str))=false:=by decide)
  (he:starEach (e::es) X.env=(false,eval e X.env)::starEach es X.env:=by rfl) (hpl:(backTo pos (starEach es X.env)).any (·.1)=false:=by rfl):PE X (.Call (.Name x p) (e::es) [] pos) (tCB r t):=by
 intro pins s σ H Q I h
 refine wpAny_Call_Name_kw (zda I hg hm hv ?_ hn hdb)
 exact PyProof.Rows.callWith_type1 (thn (ha pos pins s σ H _ I h) fun us s1 ⟨vs,H1,I1,r1,q1⟩=>hc pins s1 σ H1 vs us Q I1 r1 q1) he hpl
end
end L2
namespace HT
open PySem PyProof.Rows
section
open PySem.SeqAt
open PySem.AutoSeq1 (wpAny_loadPart')
open PySem.MeetsSeq PySem.MeetsSeq2 PySem.MeetsSeq3
end
section
variable {prog:Program} {w:World} {A:Around} {E:Value→Shared→Prop} {s:Shared}
def sIx (n d:Nat):Option Int→Nat
 | none=>d
 | some v=>if v < 0 then (v+(n:Int)).toNat else min v.toNat n
theorem sIx_none (n d:Nat):sIx n d none=d:=rfl
theorem sIx_nat (n d k:Nat):sIx n d (some (k:Int))=min k n:=by
 show (if (k:Int) < 0 then ((k:Int)+(n:Int)).toNat else min (k:Int).toNat n)=min k n
 rw [if_neg (by omega),Int.toNat_natCast]
end
end HT
namespace L2
open PySem PySem.Spec PyProof.Rows
abbrev TO:=St→Hp→(Option Int→Hp→Prop)→Prop
def PO (X:Cx) (e:Option Expr) (t:TO):Prop :=
 ∀ (pins:List (Addr×Obj)) (s:Shared) (σ:St) (H:Hp) (Q:Option Int→Hp→Prop),Inv X pins σ H s→t σ H Q →
  wpAny (model X.prog X.w) X.A (evalPart e X.env) (fun u s'=>∃ o H',Inv X pins σ H' s'∧IsPart u o∧Q o H') X.xe s
def tNoPart:TO:=fun _ H Q=>Q none H
def zme (t:TE):TO:=fun σ H Q=>t σ H fun x H1=>∃ i,x=.int i∧Q (some i) H1
theorem intsAre_of {ns:List Int}:∀ {us:List Value},Vals (ns.map V.int) us→IntsAre us ns:=by
 induction ns with
 | nil=>intro us r;rw [List.map_nil] at r;cases r;exact .nil
 | cons n ns ih =>
   intro us r
   rw [List.map_cons] at r
   cases r with
   | cons r1 r2 =>
     obtain ⟨t,e⟩:=r1
     subst e
     exact .cons n t (ih r2)
section
variable {X:Cx} {e:Expr} {te:TE} {lo hi:Option Expr} {tl th:TO} {pos p2:Pos}
theorem po_none:PO X none tNoPart:=by
 intro pins s σ H Q I h
 rw [evalPart_none]
 exact wpAny_pure ⟨none,H,I,.none,h⟩
theorem zea (h:PE X e te):PO X (some e) (zme te):=by
 intro pins s σ H Q I hw
 rw [evalPart_some]
 refine thn (h pins s σ H _ I hw) fun u s1 ⟨x,H1,I1,r1,q1⟩=>?_
 obtain ⟨i,rfl,q⟩:=q1
 obtain ⟨t,rfl⟩:=r1
 exact ⟨some i,H1,I1,.int i t,q⟩
def SlR (X:Cx) (r:V→Option Int→Option Int→Hp→VK→Prop):Prop :=
 ∀ (pins:List (Addr×Obj)) (s:Shared) (σ:St) (H:Hp) (x:V) (v vl vu:Value) (lo hi:Option Int) (sl:Addr) (Q:VK),Inv X pins σ H s→RelV x v→s.heap.IsSliceOf sl vl vu .none→IsPart vl lo→IsPart vu hi→r x lo hi H Q →
  ∃ T id,typeLookup (.type T) "__getitem__" = pure (some (.builtin id))∧s.TypeIs v T∧wpAny (model X.prog X.w) X.A (getItem v (.ref sl)) (EP X pins σ Q) X.xe s
def tSl (r:V→Option Int→Option Int→Hp→VK→Prop) (te:TE) (tl th:TO):TE:=fun σ H Q=>te σ H fun x H1=>tl σ H1 fun l H2=>th σ H2 fun u H3=>r x l u H3 Q
theorem zdb {r:V→Option Int→Option Int→Hp→VK→Prop} (hr:SlR X r) (he:PE X e te) (hl:PO X lo tl) (hu:PO X hi th):PE X (.Subscript e (.Slice lo hi none p2) pos) (tSl r te tl th):=by
 intro pins s σ H Q I h
 refine Subscript_ (thn (he pins s σ H _ I h) fun v s1 ⟨x,H1,I1,r1,q1⟩=>?_)
 refine wpAny_Slice (thn (hl pins s1 σ H1 _ I1 q1) fun vl s2 ⟨l,H2,I2,pl,q2⟩=>thn (hu pins s2 σ H2 _ I2 q2) fun vu s3 ⟨u,H3,I3,pu,q3⟩=>?_)
 rw [evalPart_none]
 refine wpAny_pure ?_
 have I4:Inv X pins σ H3 { s3 with heap:=s3.heap.push { cls:=.type "slice",data:=.fields #[vl,vu,.none] } }:=I3.kept (t':=s3.toks) fun b ob q=>Heap.get?_push_of_some _ q
 obtain ⟨T,id,hT,ht,hg⟩:=hr pins { s3 with heap:=s3.heap.push { cls:=.type "slice",data:=.fields #[vl,vu,.none] } } σ H3 x v vl vu l u s3.heap.objs.size Q I4 r1 (Heap.IsSliceOf.new ..) pl pu q3
 show wpAny (model X.prog X.w) X.A (subscriptTail e (.Slice lo hi none p2) v (.ref s3.heap.objs.size)) (EP X pins σ Q) X.xe { s3 with heap:=s3.heap.push { cls:=.type "slice",data:=.fields #[vl,vu,.none] } }
 exact tail_any (ops:=[.ref s3.heap.objs.size,v]) ht hT hg (by with_unfolding_all rfl)
def cutV (xs:List V) (lo hi:Option Int):List V:=(xs.drop (HT.sIx xs.length 0 lo)).take (HT.sIx xs.length xs.length hi-HT.sIx xs.length 0 lo)
theorem zgw (xs:List V) (lo hi:Option Int):(cutV xs lo hi).length≤xs.length:=by
 unfold cutV
 rw [List.length_take,List.length_drop]
 omega
end
end L2
namespace L2
open PySem PySem.Spec PyProof.Rows
def ixN (n:Nat) (i:Int):Option Nat:=if 0≤i then (if i < n then some i.toNat else none) else if -(n:Int)≤i then some (i+n).toNat else none
def atI {α:Type} (xs:List α) (i:Int):Option α:=(ixN xs.length i).bind fun j=>xs[j]?
theorem ziG {n:Nat} {i:Int} {j:Nat} (h:ixN n i=some j):seqIndex? i n=some j∧j < n∧-(n:Int)≤i∧i < n:=by
 unfold ixN at h
 by_cases h0:0≤i
 ·rw [if_pos h0] at h
  by_cases h1:i < n
  ·rw [if_pos h1] at h
   have e:i.toNat=j:=Option.some.inj h
   exact ⟨by rw [seqIndex_of h0 h1,e],by omega,by omega,h1⟩
  ·rw [if_neg h1] at h;cases h
 ·rw [if_neg h0] at h
  by_cases h1 : -(n:Int)≤i
  ·rw [if_pos h1] at h
   have e:(i+n).toNat=j:=Option.some.inj h
   exact ⟨by rw [seqIndex_neg (by omega) h1,e],by omega,h1,by omega⟩
  ·rw [if_neg h1] at h;cases h
theorem zlq {α:Type} {xs:List α} {i:Int} {v:α} (h:atI xs i=some v):∃ j,seqIndex? i xs.length=some j∧xs[j]? = some v∧j < xs.length∧-(xs.length:Int)≤i∧i < xs.length:=by
 unfold atI at h
 cases e:ixN xs.length i with
 | none=>rw [e] at h;cases h
 | some j =>
   rw [e] at h
   obtain ⟨h1,h2,h3,h4⟩:=ziG e
   exact ⟨j,h1,h,h2,h3,h4⟩
theorem ziH {α:Type} {xs:List α} {j:Nat} {v:α} (h:xs[j]? = some v):atI xs (j:Int)=some v:=by
 have hj:j < xs.length:=(List.getElem?_eq_some_iff.mp h).1
 have e:ixN xs.length (j:Int)=some j:=by
  unfold ixN
  rw [if_pos (by omega),if_pos (by omega)];simp
 unfold atI;rw [e];exact h
def zlr (b:Expr):Prop:=∀ o i,subscripted b false o i=operate [o,i] (getItem o i)
def IxR (X:Cx) (r:R2):Prop :=
 ∀ (value slice:Expr) (pins:List (Addr×Obj)) (s:Shared) (σ:St) (H:Hp) (x y:V) (v u:Value) (Q:VK),Inv X pins σ H s→RelV x v→RelV y u→r x y H Q →
  subscripted slice false v u=operate [v,u] (getItem v u)→wpAny (model X.prog X.w) X.A (subscriptTail value slice v u) (EP X pins σ Q) X.xe s
def MtR (X:Cx) (id:String) (r:V→List V→Hp→VK→Prop):Prop :=
 ∀ (pins:List (Addr×Obj)) (s:Shared) (σ:St) (H:Hp) (x:V) (xs:List V) (v:Value) (us:List Value) (Q:VK),Inv X pins σ H s→RelV x v→Vals xs us→r x xs H Q →
  wpAny (model X.prog X.w) X.A (call (.builtin id) (v::us)) (EP X pins σ Q) X.xe s
section
variable {X:Cx} {a b:Expr} {ta tb:TE} {pos:Pos}
theorem zaH {r:R2} (hr:IxR X r) (ha:PE X a ta) (hb:PE X b tb) (hs:zlr b):PE X (.Subscript a b pos) (tOp r ta tb):=by
 intro pins s σ H Q I h
 exact Subscript_ (binT ha hb I h fun v u s2 x y H2 I2 rx ry q=>hr a b pins s2 σ H2 x y v u Q I2 rx ry q (hs _ _))
def rIxL (K:PySem.W.Frag):R2:=fun x y H Q=>∃ p xs i v,x=.ref p∧y=.int i∧SqL K H p xs∧atI xs i=some v∧Q v H
theorem ix_list:IxR X (rIxL X.K):=by
 intro value slice pins s σ H x y v u Q I rx ry h hs
 obtain ⟨p,xs,i,z,rfl,rfl,hq,he,q⟩:=h
 cases rx
 obtain ⟨t,rfl⟩:=ry
 obtain ⟨its,r,pl,hz⟩:=I.list hq
 obtain ⟨j,h1,h2,h3,h4,h5⟩:=zlq he
 obtain ⟨w,ew,rw'⟩:=r.get h2
 have hl:=r.length
 have hn:=line63
 have fin:EP X pins σ Q w s:=⟨z,H,I,rw',q⟩
 by_cases h0:0≤i
 ·have hj:i.toNat=j:=by
   rw [seqIndex_of h0 h5] at h1
   exact Option.some.inj h1
  exact item_listR pl.isList h0 (by omega) (by rw [hj];simpa using ew) fin hs
 ·have hj:(i+(its.toArray.size:Int)).toNat=j:=by
   rw [seqIndex_neg (by omega) h4] at h1
   rw [List.size_toArray,← hl]
   exact Option.some.inj h1
  exact subscriptTail_builtinR (x:=w) pl.isList.typeIs slot_list_getitem.lookup
   (wpAny_getItem_list_neg (Q:=fun r s'=>r=w∧EP X pins σ Q r s') pl.isList (by omega) (by rw [List.size_toArray] <;> omega) (by omega) (by rw [hj];simpa using ew) ⟨rfl,fin⟩) hs
theorem zhJ (its:List Value) (n j:Nat) (u:Value):Obj.mapSeq (·.setIfInBounds j u) { cls:=.type "list",data:=.seq its.toArray n }={ cls:=.type "list",data:=.seq (its.set j u).toArray n }:=by
 simp [Obj.mapSeq]
theorem Inv.lst {pins:List (Addr×Obj)} {σ:St} {H:Hp} {s:Shared} {p:Addr} {xs:List V} (I:Inv X pins σ H s) (h:H p=some (.lst xs)) :
  ∃ (its:List Value) (n:Nat),Vals xs its∧s.heap.get? p=some { cls:=.type "list",data:=.seq its.toArray n }∧xs.length≤sizeLine:=by
 obtain ⟨z,its,n,r,e⟩:=I.hok p _ h
 exact ⟨its,n,r,e,z⟩
theorem Inv.lstUpd {pins:List (Addr×Obj)} {σ:St} {H:Hp} {s:Shared} {p:Addr} {xs ys:List V} {its its':List Value} {n n':Nat} {f:Obj→Obj} (I:Inv X pins σ H s) (h:H p=some (.lst xs))
  (ho:s.heap.get? p=some { cls:=.type "list",data:=.seq its.toArray n }) (hf:f { cls:=.type "list",data:=.seq its.toArray n }={ cls:=.type "list",data:=.seq its'.toArray n' }) (r:Vals ys its') (hz:ys.length≤sizeLine) (t:Nat) :
  Inv X pins σ (upd H p (.lst ys)) { s with heap:=s.heap.update p f,toks:=t }:=by
 have e:(s.heap.update p f).get? p=some { cls:=.type "list",data:=.seq its'.toArray n' }:=by
  rw [Heap.get?_update_self f ho (by rw [hf] <;> rfl),hf]
 refine I.write (x:=p) (e:=p) (by rw [h];trivial) (.inl rfl) (fun b u hb q=>(Heap.get?_update_other _ _ (Ne.symm hb)).trans q) ⟨_,e⟩ ?_
 exact ⟨hz,its',n',r,e⟩
def rSetL:V→V→V→Hp→(Hp→Prop)→Prop:=fun o i v H Q=>∃ p xs k j,o=.ref p∧i=.int k∧H p=some (.lst xs)∧ixN xs.length k=some j∧Q (upd H p (.lst (xs.set j v)))
theorem set_list:PSet X rSetL:=by
 intro pins s σ H o i v ov iv u Q I ro ri rv h
 obtain ⟨p,xs,k,j,rfl,rfl,hp,hj,q⟩:=h
 cases ro
 obtain ⟨t,rfl⟩:=ri
 obtain ⟨its,n,r,ho,hz⟩:=I.lst hp
 obtain ⟨h1,h2,h3,h4⟩:=ziG hj
 have hl:=r.length
 have hn:=line63
 have I':Inv X pins σ (upd H p (.lst (xs.set j v))) { s with heap:=s.heap.update p (Obj.mapSeq (·.setIfInBounds j u)) } :=
  I.lstUpd hp ho (zhJ its n j u) (r.set rv j) (by rw [List.length_set];exact hz) s.toks
 by_cases h0:0≤k
 ·have hk:k.toNat=j:=by
   rw [seqIndex_of h0 h4] at h1
   exact Option.some.inj h1
  exact PySem.W.ki_setAt ho h0 (by omega) (by rw [List.size_toArray,← hl];exact h4) (by rw [hk];exact ⟨_,I',q⟩)
 ·have hk:(k+(its.toArray.size:Int)).toNat=j:=by
   rw [seqIndex_neg (by omega) h3] at h1
   rw [List.size_toArray,← hl]
   exact Option.some.inj h1
  exact PySem.W.ki_setBack ho (by omega) (by rw [List.size_toArray,← hl];exact h3) (by omega) (by rw [hk];exact ⟨_,I',q⟩)
theorem zfN (lo hi:Option Int) (n:Nat):(sliceBounds lo hi none n).1=((HT.sIx n 0 lo:Nat):Int)∧(sliceBounds lo hi none n).2.1=((HT.sIx n n hi:Nat):Int)∧(sliceBounds lo hi none n).2.2=1:=by
 refine ⟨?_,?_,rfl⟩
 ·cases lo with
  | none=>simp [sliceBounds,HT.sIx]
  | some i =>
    simp only [sliceBounds,HT.sIx,Option.getD_none,show (1:Int) > 0 by decide,if_true]
    by_cases h:i < 0
    ·simp only [h,if_true] <;> omega
    ·simp only [h,if_false] <;> omega
 ·cases hi with
  | none=>simp [sliceBounds,HT.sIx]
  | some i =>
    simp only [sliceBounds,HT.sIx,Option.getD_none,show (1:Int) > 0 by decide,if_true]
    by_cases h:i < 0
    ·simp only [h,if_true] <;> omega
    ·simp only [h,if_false] <;> omega
theorem zfi (its:List Value) (lo hi:Option Int):slicePick its.toArray lo hi none=((its.drop (HT.sIx its.length 0 lo)).take (HT.sIx its.length its.length hi-HT.sIx its.length 0 lo)).toArray:=by
 obtain ⟨h1,h2,h3⟩:=zfN lo hi its.toArray.size
 unfold slicePick
 rw [h1,h2,h3]
 simp only [sliceRange_one,pick_run,List.size_toArray] <;> rfl
def rSlL (K:PySem.W.Frag):V→Option Int→Option Int→Hp→VK→Prop:=fun x lo hi H Q=>∃ a xs,x=.ref a∧SqL K H a xs∧∀ p,H p=none→Q (.ref p) (upd H p (.lst (cutV xs lo hi)))
theorem sl_list:SlR X (rSlL X.K):=by
 intro pins s σ H x v vl vu lo hi sl Q I rx hs pl pu h
 obtain ⟨a,xs,rfl,hx,q⟩:=h
 cases rx
 obtain ⟨its,r,ht,hz⟩:=I.list hx
 have hlen:=r.length
 refine ⟨"list",_,slot_list_getitem.lookup,ht.isList.typeIs,?_⟩
 refine wpAny_getItem_list_slice ht.isList hs pl pu .none (by simp) ?_ (by rw [List.size_toArray] <;> omega)
 rw [zfi,← hlen]
 refine ⟨.ref s.heap.objs.size,_,I.laid (t':=s.toks) (o:=.lst (cutV xs lo hi)) (fun b ob q=>Heap.get?_push_of_some _ q) (Nat.le_refl _) ?_,rfl,q _ (I.hok.fresh (Nat.le_refl _))⟩
 exact ⟨Nat.le_trans (zgw xs lo hi) hz,_,0,(r.drop (HT.sIx xs.length 0 lo)).take (HT.sIx xs.length xs.length hi-HT.sIx xs.length 0 lo),Heap.get?_push_size _ rfl⟩
def flatV:V→Bool
 | .non=>true
 | .bl _=>true
 | .int _=>true
 | .str _=>true
 | _=>false
def eqV:V→V→Bool
 | .non,.non=>true
 | .bl a,.bl b=>a == b
 | .bl a,.int b=>(if a then 1 else 0) == b
 | .int a,.bl b=>a == (if b then 1 else 0)
 | .int a,.int b=>a == b
 | .str a,.str b=>a == b
 | _,_=>false
theorem ziI {A:Around} {s:Shared} {y x:V} {u v:Value} (ry:RelV y u) (rx:RelV x v) (fy:flatV y=true) (fx:flatV x=true):SeqAt.EqAt A s u v (eqV y x):=by
 cases y with
 | non =>
   cases ry
   cases x with
   | non=>cases rx;exact SeqAt.EqAt.same _
   | bl b=>cases rx;exact SeqAt.EqAt.none_bool b
   | int b=>obtain ⟨t,rfl⟩:=rx;exact SeqAt.EqAt.none_int b t
   | str b=>obtain ⟨t,rfl⟩:=rx;exact SeqAt.EqAt.none_str b t
   | _=>exact absurd (show false=true from fx) Bool.false_ne_true
 | bl a =>
   cases ry
   cases x with
   | non=>cases rx;exact SeqAt.EqAt.bool_none a
   | bl b=>cases rx;exact SeqAt.EqAt.bool_bool a b
   | int b=>obtain ⟨t,rfl⟩:=rx;exact SeqAt.EqAt.bool_int a b t
   | str b=>obtain ⟨t,rfl⟩:=rx;exact SeqAt.EqAt.bool_str a b t
   | _=>exact absurd (show false=true from fx) Bool.false_ne_true
 | int a =>
   obtain ⟨t',rfl⟩:=ry
   cases x with
   | non=>cases rx;exact SeqAt.EqAt.int_none a t'
   | bl b=>cases rx;exact SeqAt.EqAt.int_bool a t' b
   | int b=>obtain ⟨t,rfl⟩:=rx;exact SeqAt.EqAt.int_int a t' b t
   | str b=>obtain ⟨t,rfl⟩:=rx;exact SeqAt.EqAt.int_str a t' b t
   | _=>exact absurd (show false=true from fx) Bool.false_ne_true
 | str a =>
   obtain ⟨t',rfl⟩:=ry
   cases x with
   | non=>cases rx;exact SeqAt.EqAt.str_none a t'
   | bl b=>cases rx;exact SeqAt.EqAt.str_bool a t' b
   | int b=>obtain ⟨t,rfl⟩:=rx;exact SeqAt.EqAt.str_int a t' b t
   | str b=>obtain ⟨t,rfl⟩:=rx;exact SeqAt.EqAt.str_str a t' b t
   | _=>exact absurd (show false=true from fx) Bool.false_ne_true
 | _=>exact absurd (show false=true from fy) Bool.false_ne_true
def eqU (x:V) (u:Value):Bool:=match u with
 | .none=>eqV .non x
 | .bool b=>eqV (.bl b) x
 | .int i _=>eqV (.int i) x
 | .str z _=>eqV (.str z) x
 | _=>false
theorem zky {x y:V} {u:Value} (r:RelV y u) (f:flatV y=true):eqU x u=eqV y x:=by
 cases y with
 | non=>cases r;rfl
 | bl b=>cases r;rfl
 | int i=>obtain ⟨t,rfl⟩:=r;rfl
 | str z=>obtain ⟨t,rfl⟩:=r;rfl
 | _=>exact absurd (show false=true from f) Bool.false_ne_true
theorem zgx {x:V}:∀ {xs:List V} {us:List Value},Vals xs us→xs.all flatV=true→us.any (eqU x)=xs.any fun y=>eqV y x
 | _,_,.nil,_=>rfl
 | y::xs,u::us,.cons r t,f=>by
   rw [List.all_cons,Bool.and_eq_true] at f
   rw [List.any_cons,List.any_cons,zky r f.1,zgx t f.2]
theorem zfj {A:Around} {s:Shared} {x:V} {v:Value} (rx:RelV x v) (fx:flatV x=true):∀ {xs:List V} {us:List Value},Vals xs us→xs.all flatV=true→∀ u∈us,SeqAt.EqAt A s u v (eqU x u)
 | _,_,.nil,_=>fun u hu=>by cases hu
 | y::xs,u::us,.cons r t,f=>fun u' hu=>by
   rw [List.all_cons,Bool.and_eq_true] at f
   rcases List.mem_cons.mp hu with rfl | hu
   ·rw [zky r f.1];exact ziI r rx f.1 fx
   ·exact zfj rx fx t f.2 u' hu
def inV (x:V) (xs:List V):Bool:=xs.any fun y=>eqV y x
def rIn (K:PySem.W.Frag) (neg:Bool):R2:=fun x y H Q=>∃ p xs,y=.ref p∧(SqL K H p xs∨SqT K H p xs)∧flatV x=true∧xs.all flatV=true∧Q (.bl (if neg then !inV x xs else inV x xs)) H
theorem op_in_seq:OpR X (compareOp .In) (rIn X.K false):=by
 intro pins s σ H x y v u Q I rx ry h
 obtain ⟨p,xs,rfl,hq,fx,fs,q⟩:=h
 cases ry
 rcases hq with hq | hq
 ·obtain ⟨its,r,pl,hz⟩:=I.list hq
  refine SeqAt.in_listAt (eqU x) pl.isList (fun w hw=>zfj rx fx r fs w (by simpa using hw)) ⟨.bl _,H,I,rfl,?_⟩
  rw [show its.toArray.any (eqU x)=its.any (eqU x) by simp,zgx r fs]
  exact q
 ·obtain ⟨its,r,pl,hz⟩:=I.tuple hq
  refine SeqAt.in_tupleAt (eqU x) pl (fun w hw=>zfj rx fx r fs w (by simpa using hw)) ⟨.bl _,H,I,rfl,?_⟩
  rw [show its.toArray.any (eqU x)=its.any (eqU x) by simp,zgx r fs]
  exact q
theorem call_len_seq:zcs X (.builtin "len") (fun xs H Q=>∃ p ys,xs=[.ref p]∧(SqL X.K H p ys∨SqT X.K H p ys)∧Q (.int ys.length) H):=by
 intro pins s σ H xs us Q I r h
 obtain ⟨p,ys,rfl,hq,q⟩:=h
 obtain ⟨u,rfl,rx⟩:=vals1 r
 cases rx
 have hn:=line63
 rcases hq with hq | hq
 ·obtain ⟨its,r',pl,hz⟩:=I.list hq
  have hlen:=r'.length
  exact Calls.call_len_list pl.isList (by simp only [List.size_toArray] <;> omega) ⟨.int ys.length,H,I.tok _,⟨s.toks+1,by rw [List.size_toArray,hlen]⟩,q⟩
 ·obtain ⟨its,r',pl,hz⟩:=I.tuple hq
  have hlen:=r'.length
  exact len_tuple pl (by simp only [List.size_toArray] <;> omega) ⟨.int ys.length,H,I.tok _,⟨s.toks+1,by rw [List.size_toArray,hlen]⟩,q⟩
theorem call_list_of:zcs X (.type "list") (fun xs H Q=>∃ p ys,xs=[.ref p]∧(SqL X.K H p ys∨SqT X.K H p ys)∧∀ l,H l=none→Q (.ref l) (upd H l (.lst ys))):=by
 intro pins s σ H xs us Q I r h
 obtain ⟨p,ys,rfl,hq,q⟩:=h
 obtain ⟨u,rfl,rx⟩:=vals1 r
 cases rx
 have fin:∀ (its:List Value),Vals ys its→ys.length≤sizeLine→∀ (h':Heap) (c':Nat),(∀ b o',s.heap.get? b=some o'→h'.get? b=some o') →
   h'.get? s.heap.objs.size=some { cls:=.type "list",dict:=none,data:=.seq its.toArray c',slots:=#[] }→EP X pins σ Q (.ref s.heap.objs.size) { s with heap:=h' }:=fun its r' hz h' c' kp e =>
  ⟨.ref s.heap.objs.size,_,I.laid (t':=s.toks) kp (Nat.le_refl _) (show zbs X.prog X.w _ h' _ (.lst ys) from ⟨hz,its,c',r',e⟩),rfl,q _ (I.hok.fresh (Nat.le_refl _))⟩
 rcases hq with hq | hq
 ·obtain ⟨its,r',pl,hz⟩:=I.list hq
  have hlen:=r'.length
  obtain ⟨o,ho,hc,n,hd⟩:=pl.isList
  exact call_list_seq p (.inl rfl) ho hc hd (fun h' c' kp e=>fin its r' hz h' c' kp e) (by simp only [List.size_toArray] <;> omega)
 ·obtain ⟨its,r',pl,hz⟩:=I.tuple hq
  have hlen:=r'.length
  obtain ⟨o,ho,hc,n,hd⟩:=pl
  exact call_list_seq p (.inr rfl) ho hc hd (fun h' c' kp e=>fin its r' hz h' c' kp e) (by simp only [List.size_toArray] <;> omega)
def tyV (K:PySem.W.Frag) (T:String) (x:V) (H:Hp):Prop:=match x with
 | .str _=>T = "str"
 | .int _=>T = "int"
 | .ref p=>(T = "list"∧∃ xs,SqL K H p xs)∨(T = "tuple"∧∃ o,K.lookup p=some o∧o.cls=.type "tuple"∧o.dict=none) ∨
    (T = "dict"∧((∃ kvs,H p=some (.dK kvs))∨∃ kvs,H p=some (.dT kvs)))∨(T = "set"∧∃ S n,H p=some (.set S n))
 | _=>False
theorem zmf {pins:List (Addr×Obj)} {σ:St} {H:Hp} {s:Shared} {T:String} {x:V} {v:Value} (I:Inv X pins σ H s) (r:RelV x v) (ty:tyV X.K T x H) :
  s.TypeIs v T∧∀ a,v=.ref a→∃ ob,s.heap.get? a=some ob∧ob.dict=none:=by
 cases x with
 | str z =>
   obtain ⟨t,rfl⟩:=r
   cases (show T = "str" from ty)
   exact ⟨typeIs_str s z t,fun _ e=>nomatch e⟩
 | int i =>
   obtain ⟨t,rfl⟩:=r
   cases (show T = "int" from ty)
   exact ⟨typeIs_int s i t,fun _ e=>nomatch e⟩
 | ref p =>
   cases r
   rcases ty with ⟨rfl,xs,hq⟩ | ⟨rfl,o,hk,hc,hd⟩ | ⟨rfl,hk⟩ | ⟨rfl,S,n,hk⟩
   ·obtain ⟨its,_,pl,_⟩:=I.list hq
    refine ⟨pl.isList.typeIs,fun a e=>?_⟩
    cases e
    obtain ⟨o,n,e,c,hd,_⟩:=pl
    exact ⟨o,e,hd⟩
   ·refine ⟨⟨o,I.kIn p o hk,hc⟩,fun a e=>?_⟩
    cases e
    exact ⟨o,I.kIn _ o hk,hd⟩
   ·have z:∃ o,s.heap.get? p=some o∧o.ExactDict:=by
     rcases hk with ⟨kvs,hk⟩ | ⟨kvs,hk⟩
     ·obtain ⟨_,_,_,_,o,_,_,e,ex,_⟩:=I.hok p _ hk
      exact ⟨o,e,ex⟩
     ·obtain ⟨_,_,_,_,o,_,_,e,ex,_⟩:=I.hok p _ hk
      exact ⟨o,e,ex⟩
    obtain ⟨o,e,ex⟩:=z
    refine ⟨⟨o,e,ex.1⟩,fun a e2=>?_⟩
    cases e2
    exact ⟨o,e,ex.2.1⟩
   ·obtain ⟨o,_,_,_,e,ex,_⟩:=I.hok p _ hk
    refine ⟨⟨o,e,ex.1⟩,fun a e2=>?_⟩
    cases e2
    exact ⟨o,e,ex.2.1⟩
 | _=>exact False.elim ty
def tBM (K:PySem.W.Frag) (T:String) (r:V→List V→Hp→VK→Prop) (to:TE) (t:TA):TE:=fun σ H Q=>to σ H fun x H1=>tyV K T x H1∧t σ H1 fun xs H2=>r x xs H2 Q
variable {o e:Expr} {es:List Expr} {to:TE} {t:TA} {name:Str} {apos cpos:Pos} {T id:String} {r:V→List V→Hp→VK→Prop}
theorem zna (pa:PlainAttrs T) (slot:Slot T name id) (hty:typeOf (.builtin id)=pure (.type "method_descriptor")) (hm:MtR X id r) (ho:PE X o to) (ha:PA X (e::es) t)
  (hbase:attributeBase o name X.env (eval o X.env)=eval o X.env:=by rfl)
  (hfew:((backTo cpos (starEach (e::es) X.env)).all (fun x=>!x.1) && (backToKw cpos (keywordEach [] X.env)).all (fun x=>x.1.isSome)
   && decide ((e::es).length+([]:List Keyword).length+(if ([]:List Keyword).isEmpty then 0 else 1) < 30))=true:=by rfl)
  (hline:(apos.endLine == cpos.line)=true:=by rfl) (hs:starEach (e::es) X.env=(false,eval e X.env)::starEach es X.env:=by rfl) (hplain:(backTo cpos (starEach es X.env)).any (·.1)=false:=by rfl) :
  PE X (.Call (.Attribute o name apos) (e::es) [] cpos) (tBM X.K T r to t):=by
 intro pins s σ H Q I h
 refine wpAny_Call_method_late hbase hfew hline rfl (thn (ho pins s σ H _ I h) fun v s1 ⟨x,H1,I1,r1,ty,q1⟩=>?_)
 obtain ⟨h1,h2⟩:=zmf I1 r1 ty
 refine ⟨T,id,pa,slot,hty,h1,h2,?_⟩
 have hA:=ha cpos pins s1 σ H1 _ I1 q1
 rw [hs] at hA ⊢
 refine Calls.callWith_builtin (by show (false || (backTo cpos (starEach es X.env)).any (·.1))=false;rw [hplain] <;> rfl) (Calls.evalArgs_plain ?_)
 exact thn hA fun us s2 ⟨vs,H2,I2,r2,q2⟩=>hm pins s2 σ H2 x vs v us Q I2 r1 r2 q2
end
end L2
namespace L2
open PySem PySem.Spec PyProof.Rows
def MtM (X:Cx) (id:String) (r:V→List V→Hp→VK→Prop):Prop :=
 ∀ (pins:List (Addr×Obj)) (s:Shared) (σ:St) (H:Hp) (x:V) (xs:List V) (v:Value) (us:List Value) (Q:VK),Inv X pins σ H s→RelV x v→Vals xs us→r x xs H Q →
  wpAny (model X.prog X.w) X.A (call (.builtin id) (v::us)) (EP X pins σ Q) X.xe s
theorem Vals.one:∀ {x:V} {us:List Value},Vals [x] us→∃ u,us=[u]∧RelV x u
 | _,_,.cons r .nil=>⟨_,rfl,r⟩
theorem Vals.two:∀ {x y:V} {us:List Value},Vals [x,y] us→∃ u v,us=[u,v]∧RelV x u∧RelV y v
 | _,_,_,.cons r (.cons q .nil)=>⟨_,_,rfl,r,q⟩
section
variable {X:Cx} {pins:List (Addr×Obj)} {σ:St} {H:Hp} {s:Shared} {l b:Addr} {xs ys zs:List V}
theorem Inv.lset {its its':List Value} {n:Nat} {f:Array Value→Array Value} {t':Nat} (I:Inv X pins σ H s) (hH:H l=some (.lst xs))
  (e:s.heap.get? l=some { cls:=.type "list",data:=.seq its.toArray n }) (hf:f its.toArray=its'.toArray) (hv:Vals ys its') (hz:ys.length≤sizeLine) :
  Inv X pins σ (upd H l (.lst ys)) { s with heap:=s.heap.update l (Obj.mapSeq f),toks:=t' }:=by
 have q:=PySem.IsL.update e f
 rw [hf] at q
 refine I.write (x:=l) (e:=l) (by rw [hH];exact trivial) (.inl rfl) (fun b' u hb hu=>(Heap.get?_update_other s.heap (Obj.mapSeq f) (Ne.symm hb)).trans hu) ⟨_,q⟩ ?_
 exact ⟨hz,its',_,hv,q⟩
theorem Inv.lnew {its:List Value} {t':Nat} (I:Inv X pins σ H s) (hv:Vals ys its) (hz:ys.length≤sizeLine) :
  Inv X pins σ (upd H s.heap.objs.size (.lst ys)) { s with heap:=s.heap.push { cls:=.type "list",data:=.seq its.toArray },toks:=t' } :=
 I.laid (fun _ _ q=>Heap.get?_push_of_some _ q) (Nat.le_refl _) ⟨hz,its,0,hv,Heap.get?_push_size _ rfl⟩
theorem Inv.fresh (I:Inv X pins σ H s):H s.heap.objs.size=none:=I.hok.fresh (Nat.le_refl _)
theorem Inv.lstM (I:Inv X pins σ H s) (hH:H l=some (.lst xs)):xs.length≤sizeLine∧∃ (its:List Value) (n:Nat),Vals xs its∧xs.length=its.length∧s.heap.get? l=some { cls:=.type "list",data:=.seq its.toArray n }:=by
 obtain ⟨z,its,n,r,e⟩:=I.hok l _ hH
 exact ⟨z,its,n,r,r.length,e⟩
theorem zfk {n:Nat} (h:n≤sizeLine):Builtin.List.listTooLong n=false:=by
 unfold Builtin.List.listTooLong
 exact decide_eq_false (by omega)
end
section
variable {X:Cx}
def rAppend:V→List V→Hp→VK→Prop:=fun x vs H Q=>∃ l xs y,x=.ref l∧vs=[y]∧H l=some (.lst xs)∧xs.length < sizeLine∧Q .non (upd H l (.lst (xs++[y])))
theorem mt_append:MtM X "list.append" rAppend:=by
 intro pins s σ H x vs v us Q I rx rv h
 obtain ⟨l,xs,y,rfl,rfl,hH,hz,q⟩:=h
 cases rx
 obtain ⟨u,rfl,ru⟩:=rv.one
 obtain ⟨z,its,n,r,hl,e⟩:=I.lstM hH
 refine call_meets F.slot_list_append ⟨_,e,rfl⟩ F.entry_list_append (F.args_list_append_2 _ _) (PySem.list_append l its.toArray n u (by rw [List.size_toArray];omega)) ⟨e,?_⟩
 refine ⟨.non,_,I.lset (its':=its++[u]) hH e (by simp) (r.append (.cons ru .nil)) ?_,rfl,q⟩
 rw [List.length_append,List.length_singleton]
 omega
def rExtend:V→List V→Hp→VK→Prop:=fun x vs H Q=>∃ l b xs zs,x=.ref l∧vs=[.ref b]∧H l=some (.lst xs)∧H b=some (.lst zs)∧xs.length+zs.length≤sizeLine∧Q .non (upd H l (.lst (xs++zs)))
theorem mt_extend:MtM X "list.extend" rExtend:=by
 intro pins s σ H x vs v us Q I rx rv h
 obtain ⟨l,b,xs,zs,rfl,rfl,hH,hB,hz,q⟩:=h
 cases rx
 obtain ⟨u,rfl,ru⟩:=rv.one
 cases ru
 obtain ⟨z,its,n,r,hl,e⟩:=I.lstM hH
 obtain ⟨z2,its2,n2,r2,hl2,e2⟩:=I.lstM hB
 have hsz:its.toArray.size+its2.toArray.size≤sizeLine:=by rw [List.size_toArray,List.size_toArray];omega
 have hlong:¬(!its.toArray.isEmpty && Builtin.List.listTooLong (its.toArray.size+its2.toArray.size))=true:=by
  rw [zfk hsz,Bool.and_false]
  exact Bool.false_ne_true
 refine call_meets F.slot_list_extend ⟨_,e,rfl⟩ F.entry_list_extend (F.args_list_extend_2 _ _)
  (AutoSeq1.list_extend_list_list_0 l its.toArray n b its2.toArray n2 hlong (by rw [List.size_toArray];omega) (by omega)) ⟨e,e2,?_⟩
 refine ⟨.non,_,I.lset (its':=its++its2) hH e (by simp) (r.append r2) ?_,rfl,q⟩
 rw [List.length_append]
 omega
def rCat:R2:=fun x y H Q=>∃ l b xs zs,x=.ref l∧y=.ref b∧H l=some (.lst xs)∧H b=some (.lst zs)∧xs.length+zs.length≤sizeLine∧∀ p,H p=none→Q (.ref p) (upd H p (.lst (xs++zs)))
theorem op_cat:OpR X (binaryOp .Add) rCat:=by
 intro pins s σ H x y v u Q I rx ry h
 obtain ⟨l,b,xs,zs,rfl,rfl,hH,hB,hz,q⟩:=h
 cases rx
 cases ry
 obtain ⟨z,its,n,r,hl,e⟩:=I.lstM hH
 obtain ⟨z2,its2,n2,r2,hl2,e2⟩:=I.lstM hB
 refine PySem.P.add_list e e2 ?_ (by rw [List.size_toArray,List.size_toArray];omega)
 have ea:its.toArray++its2.toArray=(its++its2).toArray:=by simp
 rw [ea]
 exact ⟨.ref _,_,I.lnew (t':=s.toks) (r.append r2) (by rw [List.length_append];omega),rfl,q _ I.fresh⟩
end
section
variable {prog:Program} {w:World} {A:Around} {E:Value→Shared→Prop} {s:Shared}
theorem zhK {a c n:Nat} (hac:a≤c) (hc:c≤n):sliceBounds (some (a:Int)) (some (c:Int)) none n=((a:Int),(c:Int),1):=by
 simp only [sliceBounds,Option.getD_none]
 have h1:¬((a:Int) < 0):=by omega
 have h2:¬((c:Int) < 0):=by omega
 simp only [h1,h2,if_false,show (1:Int) > 0 by decide,if_true]
 congr 1
 ·omega
 ·congr 1;omega
set_option maxRecDepth 100000 in
theorem zjT {l b sl:Addr} {items new:Array Value} {n n2:Nat} {vl vu:Value} {a c:Nat} {Q:Unit→Shared→Prop}
  (e:s.heap.get? l=some { cls:=.type "list",data:=.seq items n }) (e2:s.heap.get? b=some { cls:=.type "list",data:=.seq new n2 }) (hne:l≠b)
  (hs:s.heap.IsSliceOf sl vl vu .none) (pl:IsPart vl (some (a:Int))) (pu:IsPart vu (some (c:Int))) (hac:a≤c) (hc:c≤items.size)
  (hsz:items.size+new.size≤sizeLine) (h:Q () { s with heap:=s.heap.update l (Obj.mapSeq fun xs=>xs.extract 0 a++new++xs.extract c xs.size) }) :
  wpAny (model prog w) A (setItem (.ref l) (.ref sl) (.ref b)) Q E s:=by
 have hl:s.heap.IsList l items:=PySem.IsL.isList e
 have hb:s.heap.IsList b new:=PySem.IsL.isList e2
 obtain ⟨os,hos,hcs,hds⟩:=id hs
 have hTs:s.TypeIs (.ref sl) "slice":=⟨os,hos,hcs⟩
 have hstep:¬((rawPart none == rawInt 0)=true):=Bool.false_ne_true
 have hsame:Builtin.List.listSameRef (.ref l) (.ref b)=false:=by
  unfold Builtin.List.listSameRef
  exact beq_eq_false_iff_ne.mpr hne
 have hmax:(max (a:Int) (c:Int)).toNat=c:=by omega
 have hz':((fun xs:Array Value=>xs.extract 0 a++new++xs.extract c xs.size) items).size≤sizeLine+1:=by
  simp only [Array.size_append,Array.size_extract]
  omega
 unfold setItem
 try with_reducible refine wpAny_holding ?_
 first | refine wpAny_bind (wpAny_pure ?_) | skip
 refine wpAny_bind (wpAny_sequenceKey hl.typeIs (by decide) ?_)
 refine wpAny_bind (wpAny_callSpecial?_slot (name:=Str.ofString "__setitem__") hl.typeIs slot_list_setitem
  (wpAny_call_entry slot_list_setitem hl.typeIs entry_list_setitem ?_ (args_list_setitem _ _ _)))
 show wpAny _ _ (Builtin.List.listSubscript? (.ref sl) >>= _) _ _ s
 refine wpAny_bind ?_
 unfold Builtin.List.listSubscript?
 refine wpAny_bind (wpAny_specialOf hTs slice_no_index ?_)
 simp only [Option.isNone_none,if_true]
 refine wpAny_pure ?_
 show wpAny _ _ (typeOf (.ref sl) >>= _) _ _ s
 refine wpAny_bind (wpAny_typeOf hTs ?_)
 first
  | rw [if_neg (by decide)]
  | refine PySem.W.KFB.if_not (by decide) ?_
 rw [listSliceParts_eq]
 refine wpAny_bind (wpAny_bind (wpAny_field hos hds (x:=.none) rfl (wpAny_bind (wpAny_listPart .none ?_))))
 rw [if_neg hstep]
 refine wpAny_bind (wpAny_field hos hds (x:=vl) rfl (wpAny_bind (wpAny_listPart pl ?_)))
 refine wpAny_bind (wpAny_field hos hds (x:=vu) rfl (wpAny_bind (wpAny_listPart pu (wpAny_pure ?_))))
 first
  | simp only [hsame,Bool.false_eq_true,if_false]
  | refine PySem.W.KFB.if_not hsame ?_
  | (dsimp only
     rw [if_neg (by rw [hsame];exact Bool.false_ne_true)])
 refine wpAny_bind (m:=Builtin.List.listAllItems (.ref b) "must assign iterable to extended slice") ?_
 unfold Builtin.List.listAllItems
 refine wpAny_bind (wpAny_typeOf hb.typeIs ?_)
 first
  | refine PySem.W.KFB.if_so (by decide) ?_
  | rw [if_pos (by decide)]
  | simp only [beq_self_eq_true,Bool.true_or,if_true]
 unfold Builtin.List.listItems
 refine wpAny_bind (wpAny_seqItems e2 rfl (wpAny_pure ?_))
 refine wpAny_bind (wpAny_bind (wpAny_seqItems e rfl (wpAny_pure ?_)))
 refine wpAny_bind (wpAny_of_eq ((sliceIndices_raw (some (a:Int)) (some (c:Int)) none items.size (by simp)).trans (congrArg (pure:Int×Int×Int→Sem (Int×Int×Int)) (zhK hac hc))) ?_)
 show wpAny _ _ (if ((1:Int) == 1)=true then _ else _) _ _ s
 rw [if_pos (by decide)]
 refine wpAny_bind (wpAny_rule ?_)
 first
  | simp only [zfk hsz,Bool.false_eq_true,if_false]
  | refine PySem.W.KFB.if_not (zfk hsz) ?_
 first | refine wpAny_bind (wpAny_pure ?_) | skip
 show wpAny _ _ (updateSeq l (fun xs=>xs.extract 0 ((a:Int)).toNat++new++xs.extract (max (a:Int) (c:Int)).toNat xs.size) >>= _) _ _ s
 rw [hmax,Int.toNat_natCast]
 refine wpAny_bind (wpAny_updateSeq (hz:=Nat.le_trans (Nat.le_add_right _ _) hsz) (_hz':=hz') e rfl ?_)
 refine wpAny_bind (wpAny_letGo ?_)
 first
  | exact wpAny_bind (wpAny_pure (wpAny_pure ⟨.none,rfl,wpAny_pure h⟩))
  | exact wpAny_pure ⟨.none,rfl,wpAny_pure h⟩
end
section
variable {X:Cx}
end
end L2
namespace Att
open PySem PySem.W PySem.Calls PyProof.Rows
theorem zeb {P:Params} {h:Heap}:∀ (ns:List Int) (vs:List Value),WellAll P h vs (ns.map WData.int)→IntsAre vs ns:=by
 intro ns
 induction ns with
 | nil =>
   intro vs w
   rw [List.map_nil] at w
   cases w
   exact .nil
 | cons n ns ih =>
   intro vs w
   rw [List.map_cons] at w
   cases w with
   | cons a b =>
     cases a
     exact .cons _ _ (ih _ b)
theorem ziJ {l:OpenLaw} {n:Nat} (hn:l.most=some n) {P:Params} {h:Heap} {args:List WData} {vals:List Value}
  (hpre:l.row.toRowW.claim.pre args=true) (hwl:WellAll P h vals args) :
  ∃ a vs ns,vals=[Value.ref a]∧args=[WData.list (ns.map WData.int)]∧h.get? a=some { cls:=.type "list",data:=.seq vs.toArray }∧IntsAre vs ns∧ns.length≤n:=by
 have hsh:WShape.hasAll [] args [.list .int]=true:=(pre_splitW hpre).1
 have hc:l.pre.holds [] { args:=args }=true:=(pre_splitW hpre).2
 obtain ⟨d,r,rfl,h1,h2⟩:=hasAllW_cons hsh
 obtain rfl:=hasAllW_nil h2
 obtain ⟨xs,rfl,h3⟩:=hasW_list h1
 obtain ⟨ns,rfl⟩:=items_int h3
 have hlen:ns.length≤n:=by
  unfold OpenLaw.pre at hc
  have h4:(WTm.not (.lt (.lit (.int (n:Int))) (.len (.arg 0)))).holds [] { args:=[.list (ns.map .int)] }=true:=by
   have h4:=(holds_andW hc).1
   rw [hn] at h4
   exact h4
  have h5:=condW_of h4 (w_not (w_lt w_lit (w_len_list (w_arg rfl))))
  rw [List.length_map] at h5
  refine Nat.le_of_not_lt fun q=>?_
  have q':(n:Int) < ((ns.length:Nat):Int):=by omega
  first
   | (rw [decide_eq_true q'] at h5;exact absurd h5 (by decide))
   | (simp at h5;omega)
 cases hwl with
 | cons w1 w2 =>
   cases w2
   cases w1 with
   | list ho hall=>exact ⟨_,_,ns,rfl,rfl,ho,zeb ns _ hall,hlen⟩
theorem ziK (l:OpenLaw) (args:List WData):l.row.toRowW.claim.post args (.bool true) args=true :=
 postW_of (r:=l.row.toRowW) (X:=(true == true))
  (show WShape.has [] (.bool true) .bool=true by first | rfl | decide | simp [WShape.has,WShape.arms,WShape.armsAll])
  (show (WTm.eq .res (.lit (.bool true))).value [] { args:=args,res:=some (.bool true),after:=args }=some (.bool (true == true)) from w_eq_bool (w_res rfl) w_lit) rfl
theorem attach_call {l:OpenLaw} {n:Nat} {q:Program} {loose:List Str} {XP:(Str→Option Value)→Heap→Prop} {YP:World→Heap→Prop} {d:DefRec}
  (hn:l.most=some n) (hdf:d.params.defaults=[])
  (call:∀ (w:World) (s₀ s₁:Shared) (mg mb:Str→Option Value) (fa:Addr) (o:Obj) (pm cd doc:Value) (a:Addr) (vs:List Value) (ns:List Int),
   Ground q loose [] XP w s₀ mg mb s₁.heap→YP w s₁.heap →
   s₁.heap.get? fa=some o→o.data=.func (docDef d.name d.params d.body d.scope pm cd doc)→s₁.heap.CodeRec cd d.name→mg d.name=some (.ref fa) →
   s₁.heap.get? a=some { cls:=.type "list",data:=.seq vs.toArray }→IntsAre vs ns→ns.length≤n→s₁.gens=#[] →
   codeAny (model l.prog w) callerA (.call (.ref fa) ⟨[.ref a],[]⟩) (fun r s'=>r=.ok (.ret (.bool true))∧OldK s₁.heap s'.heap∧s'.os=s₁.os∧AllBare s'.gens) s₁) :
  WalkO q loose XP YP l.row.toRowW d [] (fun f vs=>PySem.call f vs):=by
 intro w s₀ s₁ mg mb G Y fa o pm cd doc dV kV ho hd hcd hD hmg hg args vals as hpre hlay hrd hwl hlo
 obtain rfl:dV=.none:=Dflts.none hD hdf
 obtain rfl:kV=.none:=Dflts.noKw hD
 obtain ⟨a,vs,ns,rfl,rfl,hobj,hints,hlen⟩:=ziJ hn hpre hwl
 refine enter_call (codeAny_mono (call w s₀ s₁ mg mb fa o pm cd doc a vs ns G Y ho (fd_plain hd) hcd hmg hobj hints hlen hg) fun r s' hq=>?_)
 obtain ⟨rfl,h2,h3,h4⟩:=hq
 exact ⟨.inl ⟨.bool true,.bool true,[],rfl,fun _=>rfl,.bool true,ziK l _,fun _=>⟨List.Pairwise.nil,fun _ hm=>(nomatch hm)⟩⟩,h2,h3,h4⟩
section
variable {prog:Program} {w:World} {A:Around} {E:Value→Shared→Prop} {s:Shared} {K:Frag}
end
end Att
namespace L2
open PySem PySem.Spec PyProof.Rows
theorem vals_ints:∀ {vs:List Value} {ns:List Int},IntsAre vs ns→Vals (ns.map V.int) vs
 | _,_,.nil=>.nil
 | _,_,.cons n t h=>.cons ⟨t,rfl⟩ (vals_ints h)
def Only (H:Hp):Prop:=∀ b,H b=none∨∃ o xs,H b=some (.frz o (.lst xs))
theorem zjU {P:Program} {w:World} {K:PySem.W.Frag} {mg mb:Str→Option Value} {CX:CXT} {k:Nat} {fa a:Addr} {fd:FuncData} {x:Str} {sp:Sp} {s₁:Shared} {vs:List Value} {ns:List Int}
  (KX:K.In s₁.heap) (hns:s₁.heap.Ns mainGlobals mg) (hb:s₁.heap.Ns builtinsNs mb) (hbb:∀ x:Str,x≠"__name__"→mb x=bootBuiltins x) (hlim:s₁.heap.NoLimit) (hg:s₁.gens=#[])
  (ha:s₁.heap.get? a=some { cls:=.type "list",data:=.seq vs.toArray }) (hi:IntsAre vs ns) (hl:ns.length≤sizeLine) (hr:Room k callerA)
  (F:∀ base:Heap,K.In base→base.Ns mainGlobals mg→FnOk P w K mg base CX k fa fd [x] sp) (hbind:∀ (s:Shared) (u:Value),BindsTo s fd ⟨[u],[]⟩ [(x,u)])
  (hsp:∀ H:Hp,Only H→SqL K H a (ns.map V.int)→sp [.ref a] H (fun v _=>v=.bl true) fun _ _ _=>False)
  (hCX:∀ H e s',CX [] H s₁ (fun _ _ _=>False) e s'→False) :
  codeAny (model P w) callerA (.call (.ref fa) ⟨[.ref a],[]⟩) (fun r s'=>r=.ok (.ret (.bool true))∧OldK s₁.heap s'.heap∧s'.os=s₁.os∧AllBare s'.gens) s₁:=by
 have rv:=vals_ints hi
 have lenV:=hi.length
 have core:∀ H:Hp,Only H→SqL K H a (ns.map V.int)→HOk P w H s₁.heap→(∀ b,H b≠none→b=a)→(H a≠none→K.lookup a=none) →
   codeAny (model P w) callerA (.call (.ref fa) ⟨[.ref a],[]⟩) (fun r s'=>r=.ok (.ret (.bool true))∧OldK s₁.heap s'.heap∧s'.os=s₁.os∧AllBare s'.gens) s₁:=by
  intro H hO hS hok hA hK
  have base_of:∀ {b:Addr} {o:Obj},s₁.heap.get? b=some o→H b=none→(hidT s₁.heap H).get? b=some o:=fun e n=>zjM e n
  have noA:∀ {b:Addr} {o:Obj} {es:Array DictEntry} {ep:Nat},s₁.heap.get? b=some o→o.data=.dict es ep→H b=none:=fun {b o es ep} e d=>by
   cases q:H b with
   | none=>rfl
   | some u =>
     have e':b=a:=hA b (by rw [q];simp)
     subst e'
     rw [ha] at e;cases e
     have d':Data.seq vs.toArray _=Data.dict es ep:=d
     cases d'
  have nsK:∀ {b:Addr} {m:Str→Option Value},s₁.heap.Ns b m→(hidT s₁.heap H).Ns b m:=fun {b m} ⟨o,es,ep,e,d,r⟩=>⟨o,es,ep,base_of e (noA e d),d,r⟩
  have hKb:K.In (hidT s₁.heap H):=fun b o e=>base_of (KX b o e) (by
   cases q:H b with
   | none=>rfl
   | some u =>
     have e':b=a:=hA b (by rw [q];simp)
     subst e'
     rw [hK (by rw [q];simp)] at e;cases e)
  have hM:Mod K mg (hidT s₁.heap H):=⟨hKb,nsK hns,⟨mb,nsK hb,hbb⟩,let ⟨mc,h1,h2⟩:=hlim;⟨mc,nsK h1,h2⟩⟩
  have e0:Env0 P w K mg (hidT s₁.heap H) callerA [] s₁ H:=⟨rfl,hM,fun b o e=>zld e,Nat.le_of_eq (zio _ _),trivial,fun b hb=>absurd (show b∈([]:List Addr) from hb) (by simp),hok,.of_eq hg⟩
  refine codeAny_mono ((F _ hKb (nsK hns)).run callerA [] s₁ H ⟨[.ref a],[]⟩ [.ref a] [.ref a] _ _ hr e0 (hbind s₁ (.ref a)) (.cons rfl .nil) (hsp H hO hS)) fun r s' h=>?_
  cases r with
  | error e=>exact (hCX H e s' h).elim
  | ok fl =>
    cases fl with
    | next=>exact False.elim h
    | brk=>exact False.elim h
    | cont=>exact False.elim h
    | ret u =>
      obtain ⟨v,H',os,bare,un,hok',r',q⟩:=h
      have q':v=.bl true:=q
      subst q'
      obtain rfl:u=Value.bool true:=r'
      refine ⟨rfl,OldK.of_keep fun b o e=>?_,os,bare⟩
      cases q:H b with
      | none=>exact un.keep b o e q (by intro z;exact absurd (show b∈([]:List Addr) from z) (by simp)) (by simp)
      | some u =>
        rcases hO b with z | ⟨ob,xs,z⟩
        ·rw [q] at z;cases z
        ·have z2:=un.frzs b ob _ z
         obtain ⟨e1,_⟩:=hok b _ z
         obtain ⟨e2,_⟩:=hok' b _ z2
         rw [e] at e1;cases e1
         exact e2
 cases hk:K.lookup a with
 | some o =>
   have e:=KX a o hk
   rw [ha] at e
   cases e
   refine core (fun _=>none) (fun _=>.inl rfl) (.inr ⟨_,vs.toArray,_,hk,rfl,rfl,rfl,by rw [List.size_toArray,lenV];exact hl,by simpa using rv⟩) (fun b u z=>by have z':(none:Option HO)=some u:=z;cases z') (fun b z=>absurd rfl z) fun z=>absurd rfl z
 | none =>
   refine core (fun b=>if b=a then some (.frz { cls:=.type "list",data:=.seq vs.toArray } (.lst (ns.map V.int))) else none) (fun b=>?_) (.inl (.inr ⟨{ cls:=.type "list",data:=.seq vs.toArray },if_pos rfl⟩)) (fun b u z=>?_) (fun b z=>?_) fun _=>hk
   ·by_cases hb:b=a
    ·exact .inr ⟨_,_,if_pos hb⟩
    ·exact .inl (if_neg hb)
   ·by_cases hb:b=a
    ·have z':=(if_pos hb).symm.trans z
     cases z'
     subst hb
     exact ⟨ha,by rw [List.length_map];exact hl,vs,_,rv,ha⟩
    ·have z':=(if_neg hb).symm.trans z
     cases z'
   ·by_cases hb:b=a
    ·exact hb
    ·exact absurd (if_neg hb) z
end L2
namespace L2
open PySem PySem.Spec PyProof.Rows
theorem zls {l:PySem.W.OpenLaw} {n k:Nat} {q:Program} {loose:List Str} {XP:(Str→Option Value)→Heap→Prop} {YP:World→Heap→Prop} {d:DefRec} {K:Params→PySem.W.Frag} {CX:World→CXT} {sp:World→Sp} {x:Str}
  (hn:l.most=some n) (hn2:n≤sizeLine) (hdf:d.params.defaults=[]) (hr:Room k callerA)
  (hY:∀ (w:World) (h:Heap),YP w h→(K w.params).In h)
  (F:∀ (w:World) (mg:Str→Option Value) (fa:Addr) (h:Heap),(K w.params).In h→h.Ns mainGlobals mg→mg d.name=some (.ref fa) →
   ∃ fd:FuncData,(∀ (s:Shared) (u:Value),BindsTo s fd ⟨[u],[]⟩ [(x,u)]) ∧
    ∀ base:Heap,(K w.params).In base→base.Ns mainGlobals mg→FnOk l.prog w (K w.params) mg base (CX w) k fa fd [x] (sp w))
  (hsp:∀ (w:World) (H:Hp) (a:Addr) (ns:List Int),ns.length≤n→Only H→SqL (K w.params) H a (ns.map V.int)→sp w [.ref a] H (fun v _=>v=.bl true) fun _ _ _=>False)
  (hCX:∀ (w:World) (H:Hp) (s:Shared) (e:Value) (s':Shared),CX w [] H s (fun _ _ _=>False) e s'→False) :
  PySem.W.WalkO q loose XP YP l.row.toRowW d [] (fun f vs=>PySem.call f vs):=by
 refine Att.attach_call hn hdf fun w s₀ s₁ mg mb fa o pm cd doc a vs ns G Y ho hd hcd hmg hobj hints hlen hg=>?_
 have KX:=hY w _ Y
 obtain ⟨fd,hb,hF⟩:=F w mg fa _ KX G.T.g hmg
 exact zjU KX G.T.g G.T.b G.T.builtins G.T.nolimit hg hobj hints (Nat.le_trans hlen hn2) hr hF hb (fun H hO hS=>hsp w H a ns hlen hO hS) fun H e s'=>hCX w H s₁ e s'
end L2
namespace L2
open PySem PySem.Spec PyProof.Rows
def zaX (s:Stmt) (j:Nat):Stmt:=match s with
 | .ClassDef _ _ _ body _ _ _ _ _ _ _=>body.getD j (.Pass ⟨0,0,0,0⟩)
 | _=>.Pass ⟨0,0,0,0⟩
def zal (s:Stmt):Arguments:=match s with
 | .FunctionDef _ a _ _ _ _ _ _ _ _=>a
 | _=>{ posonlyargs:=[],args:=[],vararg:=none,kwonlyargs:=[],kw_defaults:=[],kwarg:=none,defaults:=[] }
def zae (s:Stmt):List Stmt:=match s with
 | .FunctionDef _ _ b _ _ _ _ _ _ _=>b
 | _=>[]
def zab (s:Stmt):Scope:=match s with
 | .FunctionDef _ _ _ _ _ _ sc _ _ _=>sc
 | _=>{ kind:=.function,names:=[],isGenerator:=false,isCoroutine:=false }
abbrev CX0:CXT:=fun _ _ _ _ _ _=>False
abbrev E0:XK:=fun _ _ _=>False
theorem zav {X:Cx}:zdK CX0 X E0:=fun _ _ _ _ _ _ _ h=>h.elim
structure Fun (K:PySem.W.Frag) (x qual:Str) (st:Stmt) (f:Addr) (fd:FuncData):Prop where
 ex:∃ (oc:Value) (od:Option Addr) (kV doc pm:Value) (an:Option Addr) (cdv ct:Value) (osl:Array (Option Value)),
  fd=PySem.W.fnOf x qual (zal st) (zae st) (zab st) .none kV doc pm an cdv ct∧K.lookup f=some ⟨oc,od,.func fd,osl⟩∧PySem.W.codeIn K cdv qual=true
 kp:PySem.W.keepIn K (.ref f)=true
section
variable {P:Program} {w:World} {K:PySem.W.Frag} {mg:Str→Option Value} {base:Heap}
theorem Fun.ok {x qual:Str} {st:Stmt} {f:Addr} {fd:FuncData} {N ps:List Str} {k:Nat} {sp:Sp} (F:Fun K x qual st f fd) (S:zan N ps (zab st)) (len:∀ vs H Q E,sp vs H Q E→vs.length=ps.length)
  (hbody:∀ (cdv:Value) (A:Around) (outer:List Env) (s:Shared) (H:Hp) (vs:List V) (Q:VK) (E:XK),Room k (A.deeper (envOfC qual (zab st) s.heap.objs.size f cdv))→sp vs H Q E →
   ∃ t,PSs (cxOf CX0 P w K mg base N qual (zab st) f cdv A outer s H E).nox (zae st) t∧t { nx:=fun _ H'=>Q .non H',rt:=Q } (start N vs) H):FnOk P w K mg base CX0 (k+1) f fd ps sp:=by
 obtain ⟨oc,od,kV,doc,pm,an,cdv,ct,osl,rfl,lk,hcd⟩:=F.ex
 refine zm9 lk hcd S len fun A outer s H vs Q E hr hsp=>?_
 obtain ⟨t,h,q⟩:=hbody cdv A outer s H vs Q E hr hsp
 exact ⟨t,h.nox,q⟩
theorem Fun.binds {x qual:Str} {st:Stmt} {f:Addr} {fd:FuncData} {ps:List Str} (F:Fun K x qual st f fd)
  (h:∀ (kV doc pm:Value) (an:Option Addr) (cdv ct:Value) (us:List Value),us.length=ps.length→bindArgs (PySem.W.fnOf x qual (zal st) (zae st) (zab st) .none kV doc pm an cdv ct) ⟨us,[]⟩=pure (ps.zip us)):Binds K fd ps []:=by
 obtain ⟨oc,od,kV,doc,pm,an,cdv,ct,osl,rfl,lk,hcd⟩:=F.ex
 exact .all (h kV doc pm an cdv ct)
theorem zat {x qual:Str} {st:Stmt} {f:Addr} {oc:Value} {od an:Option Addr} {osl:Array (Option Value)} {kV doc pm cdv ct:Value} (l:K.lookup f=some ⟨oc,od,.func (PySem.W.fnOf x qual (zal st) (zae st) (zab st) .none kV doc pm an cdv ct),osl⟩)
  (c:PySem.W.codeIn K cdv qual=true) (k:PySem.W.keepIn K (.ref f)=true):Fun K x qual st f (PySem.W.fnOf x qual (zal st) (zae st) (zab st) .none kV doc pm an cdv ct):=⟨⟨oc,od,kV,doc,pm,an,cdv,ct,osl,rfl,l,c⟩,k⟩
end
theorem zeN {A:Around} {k:Nat} (hr:Room k A):A.units+1 < cLine:=Nat.lt_of_le_of_lt (Nat.add_le_add_left (by decide:1≤64) _) hr.units
theorem za0 {n:Nat} (h:n≤1000):n < sizeLine:=Nat.lt_of_le_of_lt h (by decide)
section
variable {X:Cx}
theorem pv (i:Nat) {x:Str} {pos:Pos} (hN:X.N[i]? = some x:=by rfl) (hv:Vis X.env.scope x:=by first | exact Or.inl rfl | exact Or.inr (Or.inl rfl) | exact Or.inr (Or.inr rfl)) (hd:(x == ("__debug__" : Str))=false:=by decide)
  (hcd:(x == ("__classdict__" : Str))=false:=by decide):PE X (.Name x pos) (tVar i):=zl0 hN hv hd hcd
end
theorem iteF {A B:Prop} (h:B):if false=true then A else B:=by
 rw [if_neg Bool.false_ne_true]
 exact h
theorem iteT {A B:Prop} (h:A):if true=true then A else B:=by
 rw [if_pos rfl]
 exact h
def Same (H H':Hp):Prop:=∀ b o,H b=some o→H' b=some o
theorem Same.refl (H:Hp):Same H H:=fun _ _ h=>h
theorem Same.trans {H H1 H2:Hp} (a:Same H H1) (b:Same H1 H2):Same H H2:=fun c o h=>b c o (a c o h)
theorem Same.free {H H':Hp} (e:Same H H') {l:Addr} (h:H' l=Option.none):H l=Option.none:=by
 cases q:H l with
 | none=>rfl
 | some o =>
   rw [e l o q] at h
   cases h
theorem Same.seq {K:PySem.W.Frag} {H H':Hp} {a:Addr} {xs:List V} (e:Same H H') (h:SqL K H a xs):SqL K H' a xs:=by
 rcases h with (h | ⟨o,h⟩) | h
 ·exact .inl (.inl (e _ _ h))
 ·exact .inl (.inr ⟨o,e _ _ h⟩)
 ·exact .inr h
end L2
namespace L2
open PySem PySem.Spec PyProof.Rows
section
variable {κ:Type} [DecidableEq κ]
def valV (kvs:List (κ×V)) (k:κ):Option V:=(kvs.find? fun kv=>decide (kv.1=k)).map (·.2)
def putK (kvs:List (κ×V)) (k:κ) (v:V):List (κ×V) :=
 if (kvs.any fun kv=>decide (kv.1=k))=true then kvs.map (fun kv=>if kv.1=k then (kv.1,v) else kv) else kvs++[(k,v)]
theorem zd2 {p:κ×V} {r:List (κ×V)} {k:κ} (e:p.1=k):valV (p::r) k=some p.2:=by simp [valV,List.find?_cons,e]
theorem zd3 {p:κ×V} {r:List (κ×V)} {k:κ} (e:¬p.1=k):valV (p::r) k=valV r k:=by simp [valV,List.find?_cons,e]
theorem zfl (k:κ):∀ kvs:List (κ×V),(kvs.any fun kv=>decide (kv.1=k))=(valV kvs k).isSome
 | []=>rfl
 | p::r=>by
   rw [List.any_cons]
   by_cases e:p.1=k
   ·simp only [zd2 e,decide_eq_true e,Bool.true_or,Option.isSome_some]
   ·rw [zd3 e,decide_eq_false e,Bool.false_or];exact zfl k r
theorem zec (kvs:List (κ×V)) (k:κ) (v:V):(putK kvs k v).length≤kvs.length+1:=by
 unfold putK
 split
 ·rw [List.length_map];omega
 ·rw [List.length_append,List.length_cons,List.length_nil];omega
theorem zjV {kvs:List (κ×V)} {k:κ} (v:V) (h:valV kvs k=none):putK kvs k v=kvs++[(k,v)]:=by
 unfold putK
 rw [zfl,h]
 exact if_neg (by decide)
theorem RelO.isSome_eq {o:Option V} {u:Option Value} (r:RelO o u):o.isSome=u.isSome:=by
 cases o with
 | none=>cases u with
   | none=>rfl
   | some _=>exact (show False from r).elim
 | some _=>cases u with
   | none=>exact (show False from r).elim
   | some _=>rfl
theorem KV.val {kvs:List (κ×V)} {vs:List (κ×Value)} (r:KV kvs vs) (k:κ):RelO (valV kvs k) (valueAt vs k):=by
 unfold KV at r
 induction r with
 | nil=>exact True.intro
 | @cons p q ps qs h t ih =>
   obtain ⟨h1,h2⟩:=h
   by_cases e:p.1=k
   ·have e':q.1=k:=h1.symm.trans e
    have b:valueAt (q::qs) k=some q.2:=by simp [valueAt,List.find?_cons,e']
    rw [zd2 e,b];exact h2
   ·have e':¬q.1=k:=fun z=>e (h1.trans z)
    have b:valueAt (q::qs) k=valueAt qs k:=by simp [valueAt,List.find?_cons,e']
    rw [zd3 e,b];exact ih
theorem KV.any {kvs:List (κ×V)} {vs:List (κ×Value)} (r:KV kvs vs) (k:κ):(kvs.any fun kv=>decide (kv.1=k))=vs.any fun kv=>decide (kv.1=k):=by
 unfold KV at r
 induction r with
 | nil=>rfl
 | cons h t ih=>rw [List.any_cons,List.any_cons,ih,h.1]
theorem KV.repl {kvs:List (κ×V)} {vs:List (κ×Value)} (r:KV kvs vs) (k:κ) {y:V} {u:Value} (ry:RelV y u) :
  KV (kvs.map fun kv=>if kv.1=k then (kv.1,y) else kv) (vs.map fun kv=>if kv.1=k then (kv.1,u) else kv):=by
 unfold KV at r ⊢
 induction r with
 | nil=>exact .nil
 | @cons p q ps qs h t ih =>
   rw [List.map_cons,List.map_cons]
   refine .cons ?_ ih
   obtain ⟨h1,h2⟩:=h
   by_cases e:p.1=k
   ·rw [if_pos e,if_pos (h1.symm.trans e)];exact ⟨h1,ry⟩
   ·rw [if_neg e,if_neg (fun z=>e (h1.trans z))];exact ⟨h1,h2⟩
theorem KV.put {kvs:List (κ×V)} {vs:List (κ×Value)} (r:KV kvs vs) (k:κ) {y:V} {u:Value} (ry:RelV y u):KV (putK kvs k y) (stored vs k u):=by
 unfold putK stored
 rw [r.any k]
 by_cases e:(vs.any fun kv=>decide (kv.1=k))=true
 ·rw [if_pos e,if_pos e];exact r.repl k ry
 ·rw [if_neg e,if_neg e];exact Paired.snoc r ⟨rfl,ry⟩
theorem KV.length {kvs:List (κ×V)} {vs:List (κ×Value)} (r:KV kvs vs):kvs.length=vs.length:=Paired.length r
end
theorem ziL {P:Program} {w:World} {k:Key} {u:Value} (r:RelV (kV k) u):(zbk P w).is k u=true:=by
 cases k with
 | inl i=>obtain ⟨t,e⟩:=(show ∃ t,u=Value.int i t from r);subst e;exact zgt P w i t
 | inr x=>obtain ⟨t,e⟩:=(show ∃ t,u=Value.str x t from r);subst e;exact zgu P w x t
theorem zfO {P:Program} {w:World}:∀ {ks:List Key} {us:List Value},Vals (ks.map kV) us→ItemsAre (zbk P w) ks us
 | [],_,r=>by rw [List.map_nil] at r;cases r;exact .nil
 | k::ks,_,r=>by
   rw [List.map_cons] at r
   cases r with
   | cons h t=>exact .cons (ziL h) (zfO t)
abbrev KT (H:Hp):List (List Key×V)→List (List Key×Addr×Value)→Prop:=Paired fun p q=>p.1=q.1∧H q.2.1=some (.tup (p.1.map kV))∧RelV p.2 q.2.2
theorem KT.val {H:Hp} {kvs:List (List Key×V)} {xs:List (List Key×Addr×Value)} (r:KT H kvs xs) (k:List Key):RelO (valV kvs k) ((atKey xs k).map (·.2)):=by
 induction r with
 | nil=>exact True.intro
 | @cons p q ps qs h t ih =>
   obtain ⟨h1,_,h2⟩:=h
   by_cases e:p.1=k
   ·have e':q.1=k:=h1.symm.trans e
    have b:atKey (q::qs) k=some q.2:=by simp [atKey,List.find?_cons,e']
    rw [zd2 e,b];exact h2
   ·have e':¬q.1=k:=fun z=>e (h1.trans z)
    have b:atKey (q::qs) k=atKey qs k:=by simp [atKey,List.find?_cons,e']
    rw [zd3 e,b];exact ih
theorem KT.repl {H:Hp} {kvs:List (List Key×V)} {xs:List (List Key×Addr×Value)} (r:KT H kvs xs) (k:List Key) {y:V} {u:Value} (ry:RelV y u) :
  KT H (kvs.map fun kv=>if kv.1=k then (kv.1,y) else kv) (xs.map (putAt k u)):=by
 induction r with
 | nil=>exact .nil
 | @cons p q ps qs h t ih =>
   rw [List.map_cons,List.map_cons]
   refine .cons ?_ ih
   obtain ⟨h1,h2,h3⟩:=h
   unfold putAt
   by_cases e:p.1=k
   ·rw [if_pos e,if_pos (h1.symm.trans e)];exact ⟨h1,h2,ry⟩
   ·rw [if_neg e,if_neg (fun z=>e (h1.trans z))];exact ⟨h1,h2,h3⟩
theorem KT.put {H:Hp} {kvs:List (List Key×V)} {xs:List (List Key×Addr×Value)} (r:KT H kvs xs) (k:List Key) {b:Addr} {y:V} {u:Value} (hb:H b=some (.tup (k.map kV))) (ry:RelV y u) :
  KT H (putK kvs k y) (storedH xs k b u):=by
 have e:(kvs.any fun kv=>decide (kv.1=k))=(atKey xs k).isSome:=by
  rw [zfl,(r.val k).isSome_eq,Option.isSome_map]
 unfold putK storedH
 rw [e]
 by_cases q:(atKey xs k).isSome=true
 ·rw [if_pos q,if_pos q];exact r.repl k ry
 ·rw [if_neg q,if_neg q];exact Paired.snoc r ⟨rfl,hb,ry⟩
theorem KT.keeps {H H':Hp} {kvs:List (List Key×V)} {xs:List (List Key×Addr×Value)} (r:KT H kvs xs) (ht:∀ b ys,H b=some (.tup ys)→H' b=some (.tup ys)):KT H' kvs xs :=
 Paired.mapP r fun _ _ z=>⟨z.1,ht _ _ z.2.1,z.2.2⟩
section
variable {P:Program} {w:World} {H:Hp} {h:Heap} {a:Addr}
theorem zmg {u:HO} (ok:HOk P w H h) (e:Rd H a u):zbs P w H h a u:=e.ok ok
theorem ziM {kvs:List (Key×V)} (ok:HOk P w H h) (e:Rd H a (.dK kvs)):kvs.length≤sizeLine∧(a == sysModules)=false∧∃ vs,KV kvs vs∧h.DictOf (zbk P w) a vs :=
 show zbs P w H h a (.dK kvs) from zmg ok e
theorem znb {kvs:List (Key×V)} (ok:HOk P w H h) (e:H a=some (.dK kvs)):kvs.length≤sizeLine∧(a == sysModules)=false∧∃ vs,KV kvs vs∧h.DictOf (zbk P w) a vs:=ziM ok (.inl e)
theorem zfP {ks:List Key} (ok:HOk P w H h) (e:H a=some (.tup (ks.map kV))):(tupleKind (zbk P w)).is h ks a:=by
 obtain ⟨_,its,r,o,h1,h2,n,h3⟩:=(show zbs P w H h a (.tup (ks.map kV)) from ok a _ e)
 exact ⟨o,its.toArray,n,h1,h2,h3,by simpa using zfO r⟩
theorem ziN {kvs:List (List Key×V)} (ok:HOk P w H h) (e:Rd H a (.dT kvs)):kvs.length≤sizeLine∧(a == sysModules)=false ∧
  ∃ xs,KT H kvs xs∧h.DictOfH (tupleKind (zbk P w)) a xs:=by
 obtain ⟨z,y,xs,r,o,es,ep,h1,h2,h3,h4,h5⟩:=(show zbs P w H h a (.dT kvs) from zmg ok e)
 refine ⟨z,y,xs,r,o,es,ep,h1,h2,h3,h4,fun x hx=>?_,h5⟩
 have all:∀ {l:List (List Key×V)} {m:List (List Key×Addr×Value)},KT H l m→∀ x∈m,(tupleKind (zbk P w)).is h x.1 x.2.1:=by
  intro l m q
  induction q with
  | nil=>intro x hx;exact nomatch hx
  | @cons p q ps qs hq t ih =>
    intro x hx
    rcases List.mem_cons.mp hx with e | hx
    ·subst e
     exact zfP ok (by rw [← hq.1];exact hq.2.1)
    ·exact ih x hx
 exact all r x hx
theorem znc {kvs:List (List Key×V)} (ok:HOk P w H h) (e:H a=some (.dT kvs)):kvs.length≤sizeLine∧(a == sysModules)=false ∧
  ∃ xs,KT H kvs xs∧h.DictOfH (tupleKind (zbk P w)) a xs:=ziN ok (.inl e)
end
def DGet (H:Hp) (a:Addr) (y:V) (r:Option V):Prop :=
 (∃ kvs k,Rd H a (.dK kvs)∧y=kV k∧r=valV kvs k)∨∃ kvs k b,Rd H a (.dT kvs)∧y=.ref b∧H b=some (.tup (k.map kV))∧r=valV kvs k
def DPut (H:Hp) (a:Addr) (y v:V) (H':Hp):Prop :=
 (∃ kvs k,H a=some (.dK kvs)∧y=kV k∧kvs.length < sizeLine∧H'=upd H a (.dK (putK kvs k v))) ∨
 ∃ kvs k b,H a=some (.dT kvs)∧y=.ref b∧H b=some (.tup (k.map kV))∧kvs.length < sizeLine∧H'=upd H a (.dT (putK kvs k v))
theorem DGet.k {H:Hp} {a:Addr} {kvs:List (Key×V)} {k:Key} (e:H a=some (.dK kvs)):DGet H a (kV k) (valV kvs k):=.inl ⟨kvs,k,.inl e,rfl,rfl⟩
theorem DPut.k {H:Hp} {a:Addr} {kvs:List (Key×V)} {k:Key} {v:V} (e:H a=some (.dK kvs)) (hl:kvs.length < sizeLine):DPut H a (kV k) v (upd H a (.dK (putK kvs k v))):=.inl ⟨kvs,k,e,rfl,hl,rfl⟩
section
variable {X:Cx} {pins:List (Addr×Obj)} {σ:St} {H:Hp} {s:Shared} {a:Addr} {y v:V} {u r:Value} {o:Option V} {A:Around} {E:Value→Shared→Prop}
theorem Inv.big (I:Inv X pins σ H s):sysModules < s.heap.objs.size:=by
 have h:mainGlobals < s.heap.objs.size:=(I.mod.glob.keeps I.bk).lt
 exact Nat.lt_trans (by decide) h
theorem ziO {Q:Value→Shared→Prop} (hu:A.units+1 < cLine) (I:Inv X pins σ H s) (g:DGet H a y (some v)) (ry:RelV y u) (h:∀ w' s',Inv X pins σ H s'→RelV v w'→Q w' s') :
  wpAny (model X.prog X.w) A (getItem (.ref a) u) Q E s:=by
 rcases g with ⟨kvs,k,e,ey,l⟩ | ⟨kvs,k,b,e,ey,eb,l⟩
 ·subst ey
  obtain ⟨z,hd,vs,rel,dd⟩:=ziM I.hok e
  obtain ⟨w',hw,rw'⟩:=RelO.some_of (v:=v) (o:=valueAt vs k) (by rw [l];exact rel.val k)
  exact wpAny_getItem_of (ziL ry) dd.mapOf hw (h w' _ (I.tok _) rw')
 ·subst ey
  cases (show u=Value.ref b from ry)
  obtain ⟨z,hd,xs,rel,dd⟩:=ziN I.hok e
  obtain ⟨w',hw,rw'⟩:=RelO.some_of (v:=v) (o:=(atKey xs k).map (·.2)) (by rw [l];exact rel.val k)
  obtain ⟨p,hp,hp2⟩:=Option.map_eq_some_iff.mp hw
  refine wpAny_getItem_heap (tupleKind_room_in1 hu) (zfP I.hok eb) dd hp ?_
  rw [hp2]
  exact h w' _ (I.tok _) rw'
theorem d_in {Q:Value→Shared→Prop} (hu:A.units+1 < cLine) (I:Inv X pins σ H s) (g:DGet H a y o) (ry:RelV y u) (h:∀ s',Inv X pins σ H s'→Q (.bool o.isSome) s') :
  wpAny (model X.prog X.w) A (compareOp .In u (.ref a)) Q E s:=by
 rcases g with ⟨kvs,k,e,ey,l⟩ | ⟨kvs,k,b,e,ey,eb,l⟩
 ·subst ey
  obtain ⟨z,hd,vs,rel,dd⟩:=ziM I.hok e
  refine wpAny_in_of (ziL ry) hd dd.mapOf ?_
  rw [← (rel.val k).isSome_eq,← l]
  exact h _ (I.tok _)
 ·subst ey
  cases (show u=Value.ref b from ry)
  obtain ⟨z,hd,xs,rel,dd⟩:=ziN I.hok e
  refine wpAny_in_heap (tupleKind_room_in1 hu) (zfP I.hok eb) hd dd ?_
  have q:=(rel.val k).isSome_eq
  rw [Option.isSome_map] at q
  rw [← q,← l]
  exact h _ (I.tok _)
theorem zlt {Q:Value→Shared→Prop} (hu:A.units+1 < cLine) (I:Inv X pins σ H s) (g:DGet H a y o) (ry:RelV y u) (h:∀ s',Inv X pins σ H s'→Q (.bool (!o.isSome)) s') :
  wpAny (model X.prog X.w) A (compareOp .NotIn u (.ref a)) Q E s:=by
 rcases g with ⟨kvs,k,e,ey,l⟩ | ⟨kvs,k,b,e,ey,eb,l⟩
 ·subst ey
  obtain ⟨z,hd,vs,rel,dd⟩:=ziM I.hok e
  refine wpAny_notIn_of (ziL ry) hd dd.mapOf ?_
  rw [← (rel.val k).isSome_eq,← l]
  exact h _ (I.tok _)
 ·subst ey
  cases (show u=Value.ref b from ry)
  obtain ⟨z,hd,xs,rel,dd⟩:=ziN I.hok e
  refine wpAny_notIn_heap (tupleKind_room_in1 hu) (zfP I.hok eb) hd dd ?_
  have q:=(rel.val k).isSome_eq
  rw [Option.isSome_map] at q
  rw [← q,← l]
  exact h _ (I.tok _)
theorem ziP {h':Heap} {t':Nat} {ob:HO} (I:Inv X pins σ H s) (mu:Mut (H a)) (hs:Heap.SameBut a s.heap h') (he:∃ q,h'.get? a=some q) (new:zbs X.prog X.w (upd H a ob) h' a ob) :
  Inv X pins σ (upd H a ob) { s with heap:=h',toks:=t' } :=
 I.write (x:=a) (e:=a) mu (.inl rfl) (fun b q hb z=>(hs.2 b hb).trans z) he new
theorem zmh {P:Program} {w:World} {H':Hp} {h':Heap} {kvs:List (Key×V)} {vs:List (Key×Value)} (z:kvs.length≤sizeLine) (hd:(a == sysModules)=false) (rel:KV kvs vs) (dd:h'.DictOf (zbk P w) a vs) :
  zbs P w H' h' a (.dK kvs):=⟨z,hd,vs,rel,dd⟩
theorem ziQ {H':Hp} {Q:Unit→Shared→Prop} (hu:A.units+1 < cLine) (I:Inv X pins σ H s) (g:DPut H a y v H') (ry:RelV y u) (rv:RelV v r) (h:∀ s',Inv X pins σ H' s'→Q () s') :
  wpAny (model X.prog X.w) A (setItem (.ref a) u r) Q E s:=by
 rcases g with ⟨kvs,k,e,ey,l,eH⟩ | ⟨kvs,k,b,e,ey,eb,l,eH⟩
 ·subst ey eH
  obtain ⟨z,hd,vs,rel,dd⟩:=znb I.hok e
  have hz:vs.length≤sizeLine:=by rw [← rel.length];exact z
  have hl:(putK kvs k v).length≤sizeLine:=by have:=zec kvs k v;omega
  refine wpAny_setItem_pairs (hsz:=hz) (ziL ry) dd fun h' dd' hs=>h _ ?_
  have he:∃ q,h'.get? a=some q:=let ⟨q,_,_,hq,_⟩:=dd';⟨q,hq⟩
  exact ziP I (by rw [e];exact True.intro) hs he (zmh hl hd (rel.put k rv) dd')
 ·subst ey eH
  cases (show u=Value.ref b from ry)
  obtain ⟨z,hd,xs,rel,dd⟩:=znc I.hok e
  have hz:xs.length≤sizeLine:=by rw [← Paired.length rel];exact z
  have hl:(putK kvs k v).length≤sizeLine:=by have:=zec kvs k v;omega
  refine wpAny_setItem_heap (hsz:=hz) (tupleKind_room_in1 hu) (zfP I.hok eb) dd fun h' dd' hs=>h _ ?_
  obtain ⟨q,es,ep,hq,h2,h3,h4,_,h5⟩:=dd'
  refine ziP I (by rw [e];exact True.intro) hs ⟨q,hq⟩ ⟨hl,hd,_,(rel.put k eb rv).keeps fun c ys ec=>?_,q,es,ep,hq,h2,h3,h4,h5⟩
  rw [zaD (zm8 ec e (fun z=>nomatch z))]
  exact ec
end
section
variable {X:Cx} {pins:List (Addr×Obj)} {σ:St} {H:Hp} {s:Shared} {a:Addr} {kvs:List (Key×V)} {k:Key} {u:Value} {A:Around} {E:Value→Shared→Prop}
end
def NoSl (i:Expr):Prop:=∀ ov iv,subscripted i false ov iv=operate [ov,iv] (getItem ov iv)
theorem zlu {prog:Program} {w:World} {A:Around} {E:Value→Shared→Prop} {s:Shared} {env:Env} {value slice:Expr} {pos:Pos} {T id:String} {Q:Value→Shared→Prop}
  (hl:typeLookup (.type T) "__getitem__" = pure (some (.builtin id))) (hs:NoSl slice)
  (h:wpAny (model prog w) A (eval value env) (fun o s₁=>wpAny (model prog w) A (eval slice env) (fun i s₂=>s₂.TypeIs o T∧wpAny (model prog w) A (getItem o i) Q E s₂) E s₁) E s) :
  wpAny (model prog w) A (eval (.Subscript value slice pos) env) Q E s:=by
 refine Subscript_ (wpAny_mono h (fun o s₁ h₁=>wpAny_mono h₁ (fun i s₂ h₂=>?_) fun _ _ x=>x) fun _ _ x=>x)
 obtain ⟨hT,h₂⟩:=h₂
 unfold subscriptTail
 refine wpAny_bind ?_
 rw [getitemInPython_of_ne hT.not_modules]
 refine wpAny_bind (wpAny_specialOf hT hl ?_)
 have fin:wpAny (model prog w) A (subscripted slice false o i) (fun r s₃=>wpAny (model prog w) A (letTemporaryGo value o r >>= fun _=>pure r) Q E s₃) E s₂:=by
  rw [hs o i]
  exact wpAny_operating (wpAny_mono h₂ (fun r s₃ h₃=>wpAny_bind (wpAny_letTemporaryGo (wpAny_pure h₃))) fun _ _ x=>x)
 first
  | exact wpAny_pure (wpAny_bind fin)
  | exact wpAny_bind (wpAny_pure (wpAny_bind fin))
  | exact wpAny_bind fin
theorem zgy {X:Cx} {pins:List (Addr×Obj)} {σ:St} {H:Hp} {s:Shared} {a:Addr} {y:V} {o:Option V} (I:Inv X pins σ H s) (g:DGet H a y o):s.TypeIs (.ref a) "dict":=by
 rcases g with ⟨kvs,k,e,_,_⟩ | ⟨kvs,k,b,e,_,_,_⟩
 ·obtain ⟨_,_,vs,_,dd⟩:=ziM I.hok e
  exact dd.typeIs
 ·obtain ⟨_,_,xs,_,dd⟩:=ziN I.hok e
  exact dd.typeIs
def zmi (td ty:TE):TE:=fun σ H Q=>td σ H fun x H1=>ty σ H1 fun y H2=>∃ a v,x=.ref a∧DGet H2 a y (some v)∧Q v H2
def tDIn (ty td:TE):TE:=fun σ H Q=>ty σ H fun y H1=>td σ H1 fun x H2=>∃ a o,x=.ref a∧DGet H2 a y o∧Q (.bl o.isSome) H2
def ziR (ty td:TE):TE:=fun σ H Q=>ty σ H fun y H1=>td σ H1 fun x H2=>∃ a o,x=.ref a∧DGet H2 a y o∧Q (.bl (!o.isSome)) H2
def zmj (td ty tv:TE):TS:=fun D σ H=>tv σ H fun v H1=>td σ H1 fun x H2=>ty σ H2 fun y H3=>∃ a H4,x=.ref a∧DPut H3 a y v H4∧D.nx σ H4
section
variable {X:Cx} {o i e value:Expr} {pos pos' tpos:Pos} {td ty tv:TE}
theorem zlv (hu:X.A.units+1 < cLine) (ho:PE X o td) (hi:PE X i ty) (hs:NoSl i):PE X (.Subscript o i pos) (zmi td ty):=by
 intro pins s σ H Q I h
 refine zlu PySem.F.slot_dict_getitem.lookup hs (thn (ho pins s σ H _ I h) fun u s1 ⟨x,H1,I1,rx,q1⟩=>thn (hi pins s1 σ H1 _ I1 q1) fun iv s2 ⟨y,H2,I2,ry,a,v,ex,g,q2⟩=>?_)
 subst ex
 obtain rfl:u=Value.ref a:=rx
 exact ⟨zgy I2 g,ziO hu I2 g ry fun w' s3 I3 rw'=>⟨v,H2,I3,rw',q2⟩⟩
theorem zmk (hu:X.A.units+1 < cLine) (hi:PE X i ty) (ho:PE X o td):PC X .In i o (tDIn ty td):=by
 intro pins s σ H Q I h
 refine thn (hi pins s σ H _ I h) fun iv s1 ⟨y,H1,I1,ry,q1⟩=>thn (ho pins s1 σ H1 _ I1 q1) fun u s2 ⟨x,H2,I2,rx,a,ov,ex,g,q2⟩=>?_
 subst ex
 obtain rfl:u=Value.ref a:=rx
 exact d_in hu I2 g ry fun s3 I3=>⟨.bl ov.isSome,H2,I3,rfl,q2⟩
theorem ziS (hu:X.A.units+1 < cLine) (hi:PE X i ty) (ho:PE X o td):PC X .NotIn i o (ziR ty td):=by
 intro pins s σ H Q I h
 refine thn (hi pins s σ H _ I h) fun iv s1 ⟨y,H1,I1,ry,q1⟩=>thn (ho pins s1 σ H1 _ I1 q1) fun u s2 ⟨x,H2,I2,rx,a,ov,ex,g,q2⟩=>?_
 subst ex
 obtain rfl:u=Value.ref a:=rx
 exact zlt hu I2 g ry fun s3 I3=>⟨.bl (!ov.isSome),H2,I3,rfl,q2⟩
theorem zlw (hu:X.A.units+1 < cLine) (ho:PE X o td) (hi:PE X i ty) (hv:PE X value tv) (hs:swapsWith value (some (.Subscript o i pos')) pos.line X.env=pure false) :
  PS X (.Assign [.Subscript o i pos'] value pos) (zmj td ty tv):=by
 intro pins s σ H D I h
 refine wpAny_Assign_Subscript (thn (hv pins s σ H _ I h) fun r s1 ⟨v,H1,I1,rv,q1⟩=>thn (ho pins s1 σ H1 _ I1 q1) fun u s2 ⟨x,H2,I2,rx,q2⟩=>thn (hi pins s2 σ H2 _ I2 q2) fun iv s3 ⟨y,H3,I3,ry,a,H4,ex,g,q3⟩=>?_) hs
 subst ex
 obtain rfl:u=Value.ref a:=rx
 exact ziQ hu I3 g ry rv fun s4 I4=>⟨σ,H4,I4,q3⟩
end
theorem zjW {P:Program} {w:World} {H:Hp} (h:Heap) (hb:sysModules < h.objs.size):zbs P w H (h.push { cls:=.type "dict",data:=.dict #[] }) h.objs.size (.dK []) :=
 ⟨Nat.zero_le _,beq_eq_false_iff_ne.mpr (Ne.symm (Nat.ne_of_lt hb)),[],.nil,Heap.DictOf.new h⟩
def tDNewK:TE:=fun _ H Q=>∀ p,H p=none→Q (.ref p) (upd H p (.dK []))
section
variable {X:Cx} {pos:Pos}
theorem pe_dnewK:PE X (.Dict [] [] pos) tDNewK:=fun pins s σ H Q I h =>
 wpAny_Dict_empty ⟨.ref s.heap.objs.size,_,I.laid (a:=s.heap.objs.size) (o:=.dK []) (t':=s.toks) (fun _ _ q=>Heap.get?_push_of_some _ q) (Nat.le_refl _) (zjW s.heap I.big),rfl,h _ (I.hok.fresh (Nat.le_refl _))⟩
end
end L2
namespace L2
open PySem PySem.Spec PyProof.Rows
section
variable {prog:Program} {w:World} {A:Around} {R:Result -> Shared -> Prop} {s:Shared}
theorem zfQ {elt target iter:Expr} {ifs:List Expr} {scope:Scope} {pos:Pos} {it acc:Value} {env:Env} (I:Nat→Shared→Prop)
  (turn:∀ n s,I n s→wpAny (model prog w) A (pyNext it) (fun r s1=>match r with
   | none=>R (.ok .next) s1
   | some v=>wpAny (model prog w) A (letOwnedTupleGo target it v) (fun _ s1'=>wpAny (model prog w) A (assign target env v) (fun _ s2 =>
      wpAny (model prog w) A (forIn ifs true fun c r=>if r=true then do let ok ← isTrue c env (eval c env);pure (ForInStep.yield ok) else pure (ForInStep.yield r)) (fun ok s3 =>
       if ok=true then wpAny (model prog w) A (eval elt env) (fun x s4 =>
        wpAny (model prog w) A (call (.builtin "list.append") [acc,x]) (fun _ s5=>∃ m,m < n∧I m s5) (fun _ _=>False) s4) (fun _ _=>False) s3
       else ∃ m,m < n∧I m s3) (fun _ _=>False) s2) (fun _ _=>False) s1') (fun _ _=>False) s1) (fun _ _=>False) s)
  (n:Nat) (h:I n s) :
  codeAny (model prog w) A (.compLoop (.ListComp elt [⟨target,iter,ifs,0⟩] scope pos) 0 it acc env) R s:=by
 refine codeAny_loop rfl I (fun n s hI=>?_) n h
 show wpAny _ A ((compTurn (.ListComp elt [⟨target,iter,ifs,0⟩] scope pos) 0 it acc env).onRaise (fun x=>do noteFrame x env;theTreesLotGoes x)) _ _ s
 refine wpAny_noted ?_
 rw [compTurn_list]
 refine wpAny_bind (wpAny_standAt (wpAny_bind (wpAny_mono (turn n s hI) (fun r s1 h1=>?_) fun _ _ z=>z.elim)))
 cases r with
 | none=>exact wpAny_pure h1
 | some v =>
   refine wpAny_bind (wpAny_mono h1 (fun _ s1' h1'=>?_) fun _ _ z=>z.elim)
   refine wpAny_bind (wpAny_mono h1' (fun _ s2 h2=>wpAny_bind (wpAny_mono h2 (fun ok s3 h3=>?_) fun _ _ z=>z.elim)) fun _ _ z=>z.elim)
   cases ok with
   | false=>exact wpAny_pure ⟨rfl,h3⟩
   | true =>
     exact wpAny_bind (wpAny_bind (wpAny_mono h3 (fun x s4 h4=>wpAny_bind (wpAny_mono h4 (fun _ s5 h5=>wpAny_pure (wpAny_pure ⟨rfl,h5⟩)) fun _ _ z=>z.elim)) fun _ _ z=>z.elim))
end
def PTs (X:Cx) (ifs:List Expr) (t:TT):Prop :=
 ∀ (pins:List (Addr×Obj)) (s:Shared) (σ:St) (H:Hp) (Q:Bool→Hp→Prop),Inv X pins σ H s→t σ H Q →
  wpAny (model X.prog X.w) X.A (forIn ifs true fun c r=>if r=true then do let ok ← isTrue c X.env (eval c X.env);pure (ForInStep.yield ok) else pure (ForInStep.yield r)) (TP X pins σ Q) X.xe s
def tTT:TT:=fun _ H Q=>Q true H
theorem za9 {X:Cx}:PTs X [] tTT:=fun pins s σ H Q I h=>wpAny_tests_nil ⟨H,I,h⟩
theorem zcy {X:Cx} {c:Expr} {t:TT} (h:PT X c t):PTs X [c] t:=fun pins s σ H Q I q=>wpAny_tests_one (h pins s σ H Q I q)
def Cx.comp (X:Cx) (scope:Scope) (cl:List (Str×Addr)) (C:Addr) (N:List Str) (s:Shared) (H:Hp) (fp:List Addr):Cx where
 prog:=X.prog
 w:=X.w
 K:=X.K
 mg:=X.mg
 base:=X.base
 A:=X.A
 N:=N
 s₀:=s
 H₀:=H
 env:=compEnvC scope cl C X.env
 outer:=X.stack
 stack:=X.stack
 ex:=fp
 fn:=fun _=>false
 calm:=X.calm
 pn:=[]
 xe:=fun _ _=>False
def zbi (names:List (Str×NameKind)) (env:Env) (acc:List (Str×Addr)):List (Str×Addr) :=
 names.foldl (fun cs x=>if x.2 == .free then match env.cells.lookup x.1 with | some c=>(x.1,c)::cs | none=>cs else cs) acc
theorem zdc {scope:Scope} {env:Env} (h:∀ x∈scope.names,x.2=.free→∃ c,env.cells.lookup x.1=some c):closureFor scope env=pure (zbi scope.names env []):=by
 have go:∀ (names:List (Str×NameKind)) (acc:List (Str×Addr)),(∀ x∈names,x.2=.free→∃ c,env.cells.lookup x.1=some c) →
   (forIn (m:=Sem) names acc fun x r=>if (x.2 == NameKind.free)=true then do let y ← cellOf env x.1;pure (ForInStep.yield ((x.1,y)::r)) else pure (ForInStep.yield r))=pure (zbi names env acc):=by
  intro names
  induction names with
  | nil=>intro acc _;rfl
  | cons x r ih =>
    intro acc hx
    obtain ⟨n,k⟩:=x
    rw [List.forIn_cons]
    have ihr:=fun acc=>ih acc fun y hy=>hx y (List.mem_cons_of_mem _ hy)
    by_cases hk:k=.free
    ·subst hk
     obtain ⟨c,hc⟩:=hx (n,.free) List.mem_cons_self rfl
     have e:cellOf env n=pure c:=by unfold cellOf;rw [show env.cells.lookup n=some c from hc]
     have e2:zbi ((n,NameKind.free)::r) env acc=zbi r env ((n,c)::acc):=by
      unfold zbi
      rw [List.foldl_cons]
      simp only [beq_self_eq_true,if_true]
      rw [show env.cells.lookup n=some c from hc]
     rw [e2,← ihr]
     simp only [beq_self_eq_true,if_true,e,pure_bind]
    ·have hb:(k == NameKind.free)=false:=by simpa using hk
     have e2:zbi ((n,k)::r) env acc=zbi r env acc:=by
      unfold zbi
      rw [List.foldl_cons]
      simp only [hb,Bool.false_eq_true,if_false]
     rw [e2,← ihr]
     simp only [hb,Bool.false_eq_true,if_false,pure_bind]
 unfold closureFor
 have:=go scope.names [] h
 simp only [pure_bind,bind_pure] at this ⊢
 exact this
theorem zeZ {env:Env}:∀ (names:List (Str×NameKind)) (acc:List (Str×Addr)),(∀ x c,acc.lookup x=some c→env.cells.lookup x=some c)→∀ x c,(zbi names env acc).lookup x=some c→env.cells.lookup x=some c:=by
 intro names
 induction names with
 | nil=>intro acc h x c e;exact h x c e
 | cons y r ih =>
   intro acc h x c e
   unfold zbi at e
   rw [List.foldl_cons] at e
   refine ih _ ?_ x c e
   intro z d hz
   by_cases hk:(y.2 == NameKind.free)=true
   ·rw [if_pos hk] at hz
    cases hc:env.cells.lookup y.1 with
    | none=>rw [hc] at hz;exact h z d hz
    | some a =>
      rw [hc] at hz
      simp only [List.lookup_cons] at hz
      by_cases hzy:(z == y.1)=true
      ·rw [hzy] at hz
       have:z=y.1:=by simpa using hzy
       rw [this,hc];exact hz
      ·have:(z == y.1)=false:=by simpa using hzy
       rw [this] at hz
       exact h z d hz
   ·rw [if_neg hk] at hz
    exact h z d hz
theorem ze0 {env:Env}:∀ (names:List (Str×NameKind)) (acc:List (Str×Addr)) (x:Str),((∃ c,acc.lookup x=some c)∨((x,NameKind.free)∈names∧∃ c,env.cells.lookup x=some c))→∃ c,(zbi names env acc).lookup x=some c:=by
 intro names
 induction names with
 | nil=>intro acc x h;rcases h with h | h;exact h;exact absurd h.1 (by simp)
 | cons y r ih =>
   intro acc x h
   unfold zbi
   rw [List.foldl_cons]
   refine ih _ x ?_
   by_cases hk:(y.2 == NameKind.free)=true
   ·rw [if_pos hk]
    cases hc:env.cells.lookup y.1 with
    | none =>
      rcases h with h | ⟨h,h2⟩
      ·exact .inl h
      ·rcases List.mem_cons.mp h with e | e
       ·subst e;rw [hc] at h2;obtain ⟨_,h2⟩:=h2;cases h2
       ·exact .inr ⟨e,h2⟩
    | some a =>
      simp only [List.lookup_cons]
      by_cases hzy:(x == y.1)=true
      ·exact .inl ⟨a,by rw [hzy]⟩
      ·have hf:(x == y.1)=false:=by simpa using hzy
       rw [hf]
       rcases h with h | ⟨h,h2⟩
       ·exact .inl h
       ·rcases List.mem_cons.mp h with e | e
        ·subst e;simp at hf
        ·exact .inr ⟨e,h2⟩
   ·rw [if_neg hk]
    rcases h with h | ⟨h,h2⟩
    ·exact .inl h
    ·rcases List.mem_cons.mp h with e | e
     ·subst e;simp at hk
     ·exact .inr ⟨e,h2⟩
def capS (own:Nat) (js:List Nat) (σ:St):St:=List.replicate own none++js.map fun j=>(σ[j]?).getD none
def zgz (wi:TI) (own:Nat) (js:List Nat) (g:TG) (tc:TT) (te:TE):TE:=fun σ H Q=>wi σ H fun J H1=>∀ p,H1 p=none →
 ∃ W:Nat→Nat→St→Hp→Prop,(∃ m,W 0 m (capS own js σ) (upd H1 p (.lst [])))∧∀ i m σc H,W i m σc H →
  (J.stop i H∧Q (.ref p) H)∨(J.go i H∧∃ N:St→Hp→Prop,(∀ σ' H',N σ' H'→∃ m',m' < m∧W (i+1) m' σ' H')∧∀ x H',J.yld i H x H' →
   g x σc H' fun σ2 H2=>tc σ2 H2 fun b H3=>if b=true then te σ2 H3 fun v H4=>∃ ys,H4 p=some (.lst ys)∧ys.length < sizeLine∧N σ2 (upd H4 p (.lst (ys++[v]))) else N σ2 H3)
structure zcz (X:Cx) (scope:Scope) (N:List Str) (own:Nat) (js:List Nat):Prop where
 kind:scope.kind=.function
 nocell:∀ y∈scope.names,y.2≠.cell
 nodup:∀ y∈scope.names,y.2=.local→scope.names.lookup y.1=some .local
 free:∀ y∈scope.names,y.2=.free→X.env.kindOf y.1=some .cell∨X.env.kindOf y.1=some .free
 len:N.length=own+js.length
 cap:∀ (i:Nat) (j:Nat),js[i]? = some j→N[own+i]? = X.N[j]?∧∀ x,X.N[j]? = some x→scope.names.lookup x=some .free∧Vis X.env.scope x∧X.env.kindOf x≠some .local
section
variable {X:Cx} {tg elt iter:Expr} {ifs:List Expr} {scope:Scope} {pos:Pos} {N:List Str} {own:Nat} {js:List Nat} {wi:TI} {g:TG} {tc:TT} {te:TE}
theorem zbV {env:Env} {names:List (Str×NameKind)} {x:Str} {k:NameKind} (hk:k=.cell∨k=.free) (hnc:∀ y∈names,y.2≠.cell)
  (h:(names.map fun (n,k)=>if (k == NameKind.free && env.scope.kind == .function && env.kindOf n == some .cell) then (n,NameKind.cell) else (n,k)).lookup x=some k):(x,NameKind.free)∈names:=by
 have:=PySem.mem_of_lookup h
 obtain ⟨⟨n,k'⟩,hm,e⟩:=List.mem_map.mp this
 dsimp only at e
 split at e
 ·rename_i hc
  cases e
  have:k'=.free:=by
   simp only [Bool.and_eq_true,beq_iff_eq] at hc
   exact hc.1.1
  rw [← this];exact hm
 ·cases e
  rcases hk with rfl | rfl
  ·exact absurd rfl (hnc _ hm)
  ·exact hm
theorem zbw {env:Env}:∀ {names:List (Str×NameKind)} {x:Str},names.lookup x=some .free →
  (names.map fun (n,k)=>if (k == NameKind.free && env.scope.kind == .function && env.kindOf n == some .cell) then (n,NameKind.cell) else (n,k)).lookup x=some .local→False
 | [],_,h,_=>by simp at h
 | (n,k)::r,x,h,h'=>by
  have ih:=@zbw env r x
  cases hx:x == n with
  | true =>
    simp only [List.lookup_cons,hx] at h
    cases h
    rw [List.map_cons] at h'
    dsimp only at h'
    split at h' <;> simp [List.lookup_cons,hx] at h'
  | false =>
    simp only [List.lookup_cons,hx] at h
    rw [List.map_cons] at h'
    dsimp only at h'
    split at h' <;> simp only [List.lookup_cons,hx] at h' <;> exact ih h h'
theorem zjX {pins:List (Addr×Obj)} {σ:St} {H:Hp} {s:Shared} {fp:List Addr} {h1:Heap} (S:zcz X scope N own js) (I:Inv X pins σ H s) (hf:∀ b∈fp,FpOk X pins H b) (hfo:∀ b∈fp,b < s.heap.objs.size)
  (C p:Addr) (hp:p=s.heap.objs.size) (hC:C=s.heap.objs.size+1) (hns:h1.Ns C fun _=>none) (hkeep:∀ b o,s.heap.get? b=some o→h1.get? b=some o)
  (hacc:h1.get? p=some { cls:=.type "list",data:=.seq #[] 0 }) (tk:Nat) :
  Inv (X.comp scope (zbi scope.names X.env []) C N s H fp) [] (capS own js σ) (upd H p (.lst [])) { s with heap:=h1,toks:=tk }:=by
 have sub:=zeZ (env:=X.env) scope.names [] (fun x c e=>by simp at e)
 have hHp:H p=none:=I.hok.fresh (by rw [hp];exact Nat.le_refl _)
 have hHC:H C=none:=I.hok.fresh (by rw [hC];exact Nat.le_succ _)
 have hpC:C≠p:=by rw [hp,hC];exact Nat.succ_ne_self _
 have cellLt:∀ x c,X.env.cells.lookup x=some c→c < s.heap.objs.size:=fun x c e=>by
  obtain ⟨v,q⟩:=I.cell x c e
  exact q.lt
 have nop:∀ q:Addr×Obj,q∉(X.comp scope (zbi scope.names X.env []) C N s H fp).pn++([]:List (Addr×Obj)):=fun q z=>absurd (show q∈([]:List (Addr×Obj)) from z) (by simp)
 refine ⟨⟨I.ok.mod,S.kind,I.ok.glob,I.ok.blt,by rw [show (X.comp scope (zbi scope.names X.env []) C N s H fp).env.locals=C from rfl,hC];exact Nat.le_succ _,?_,?_,fun y c z=>absurd (show false=true from z) (by decide),I.ok.hd,I.ok.frames,.inl rfl,?_,fun b o e=>I.bs b o e,Nat.le_trans I.ok.bsz I.sz,?_,?_,I.stack,I.stkFree⟩,
  rfl,I.bare,Un.laid hkeep (by rw [hp];exact Nat.le_refl _) hHp,⟨_,hns,?_⟩,?_,?_,?_,fun q hq=>absurd hq (nop q),?_,?_⟩
 ·intro x y c e1 e2
  exact I.ok.inj x y c (sub x c e1) (sub y c e2)
 ·intro x hx
  have hm:(x,NameKind.free)∈scope.names:=by
   rcases hx with hx | hx
   ·exact zbV (.inl rfl) S.nocell hx
   ·exact zbV (.inr rfl) S.nocell hx
  exact ze0 scope.names [] x (.inr ⟨hm,I.ok.has x (S.free _ hm rfl)⟩)
 ·intro b hb
  obtain ⟨f0,f1,f2,f3,f4,f5⟩:=hf b hb
  refine ⟨fun e=>?_,fun x c e=>f4 x c (sub x c e)⟩
  have e':b=C:=e
  have:=hfo b hb
  rw [e',hC] at this
  exact absurd this (Nat.not_lt.mpr (Nat.le_succ _))
 ·intro b o e hb
  obtain ⟨f0,f1,f2,f3,f4,f5⟩:=hf b hb
  rcases f3 with z | z
  ·exact I.ok.noex b o e z
  ·exact absurd (Nat.lt_of_lt_of_le (Heap.lt_size (I.ok.bs b o e).1) z) (Nat.lt_irrefl _)
 ·intro b hb z
  obtain ⟨f0,f1,f2,f3,f4,f5⟩:=hf b hb
  rcases List.mem_cons.mp (I.stkSub b z) with e | e
  ·exact f1 e
  ·exact f2 e
 ·intro i x v h1' h2 h3
  have hlen:(capS own js σ).length=own+js.length:=by simp [capS]
  have hio:own≤i:=by
   by_cases hi:i < own
   ·unfold capS at h2
    rw [List.getElem?_append_left (by simpa using hi),List.getElem?_replicate,if_pos hi] at h2
    cases h2
   ·omega
  obtain ⟨k,rfl⟩:∃ k,i=own+k:=⟨i-own,by omega⟩
  have e1:(js.map fun j=>(σ[j]?).getD none)[k]? = some (some v):=by
   unfold capS at h2
   rw [List.getElem?_append_right (by simp)] at h2
   simpa using h2
  rw [List.getElem?_map] at e1
  cases ej:js[k]? with
  | none=>rw [ej] at e1;cases e1
  | some j =>
    rw [ej] at e1
    have e2:(σ[j]?).getD none=some v:=Option.some.inj e1
    have e3:σ[j]? = some (some v):=by
     cases q:σ[j]? with
     | none=>rw [q] at e2;cases e2
     | some z=>rw [q] at e2;exact congrArg some e2
    obtain ⟨c1,c2⟩:=S.cap k j ej
    have hN:X.N[j]? = some x:=by rw [← c1];exact h1'
    obtain ⟨d1,d2,d3⟩:=c2 x hN
    obtain ⟨m,_,hl⟩:=I.loc
    obtain ⟨u,r,l⟩:=hl j x v hN e3 d2
    refine ⟨u,r,?_⟩
    rcases l with ⟨l,_⟩ | ⟨_,c,ec,o,ho,hd⟩
    ·exact absurd l d3
    ·obtain ⟨c',hc'⟩:=ze0 (env:=X.env) scope.names [] x (.inr ⟨PySem.mem_of_lookup d1,c,ec⟩)
     have e4:=sub x c' hc'
     rw [ec] at e4
     cases e4
     refine .inr ⟨?_,c,hc',o,hkeep c o ho,hd⟩
     rcases h3 with z | z | z
     ·exact (zbw d1 z).elim
     ·exact .inl z
     ·exact .inr z
 ·intro x c e
  obtain ⟨v,o,ho,hd⟩:=I.cell x c (sub x c e)
  exact ⟨v,o,hkeep c o ho,hd⟩
 ·rw [show (X.comp scope (zbi scope.names X.env []) C N s H fp).env.locals=C from rfl,zaD hpC];exact hHC
 ·intro x c e
  rw [zaD (by rw [hp];exact Nat.ne_of_lt (cellLt x c (sub x c e)))]
  exact I.freeC x c (sub x c e)
 ·exact I.hok.laid hkeep (by rw [hp];exact Nat.le_refl _) ⟨Nat.zero_le _,[],0,.nil,hacc⟩
 ·show (capS own js σ).length=N.length
  rw [S.len];simp [capS]
theorem ze1 {pins:List (Addr×Obj)} {σ:St} {H:Hp} {s:Shared} {E:Value→Shared→Prop} {it:Addr} {fp:List Addr} {tn:Nat→Heap→Prop} {J:It} {Q:VK} {RR:Value→Addr→Result→Shared→Prop}
  (S:zcz X scope N own js) (hc:X.calm=true) (I:Inv X pins σ H s) (T:Turn X.prog X.w X.K tg J fp it tn) (st:tn 0 s.heap) (hf:∀ b∈fp,FpOk X pins H b)
  (hg:∀ cl C s H fp,PG (X.comp scope cl C N s H fp) tg g) (hts:∀ cl C s H fp,PTs (X.comp scope cl C N s H fp) ifs tc) (he:∀ cl C s H fp,PE (X.comp scope cl C N s H fp) elt te)
  (hq:∀ p,H p=none→∃ W:Nat→Nat→St→Hp→Prop,(∃ m,W 0 m (capS own js σ) (upd H p (.lst [])))∧∀ i m σc H,W i m σc H →
   (J.stop i H∧Q (.ref p) H)∨(J.go i H∧∃ N:St→Hp→Prop,(∀ σ' H',N σ' H'→∃ m',m' < m∧W (i+1) m' σ' H')∧∀ x H',J.yld i H x H' →
    g x σc H' fun σ2 H2=>tc σ2 H2 fun b H3=>if b=true then te σ2 H3 fun v H4=>∃ ys,H4 p=some (.lst ys)∧ys.length < sizeLine∧N σ2 (upd H4 p (.lst (ys++[v]))) else N σ2 H3))
  (hRR:∀ p C s' H' m,C=s.heap.objs.size+1→s'.heap.Ns C m→Inv X pins σ H' s'→H' C=none→Q (.ref p) H'→RR (.ref p) C (.ok .next) s') :
  wpAny (model X.prog X.w) X.A (newList []) (fun acc s3=>wpAny (model X.prog X.w) X.A (newFunctionEnv scope X.env.globals (zbi scope.names X.env []) [] X.env.qual none .none (some X.env)) (fun cenv s4 =>
   codeAny (model X.prog X.w) X.A (.compStart (.ListComp elt [⟨tg,iter,ifs,0⟩] scope pos) 0 (.ref it) acc { cenv with scope:=relabel scope X.env }) (RR acc cenv.locals) s4) E s3) E s:=by
 refine wpAny_newObj_type (wpAny_newFunctionEnv S.nocell (by intro y hy;simp at hy) (fun h1 hns1 hsb1=>?_) S.kind)
 dsimp only at hns1 hsb1 ⊢
 generalize hH2:s.heap.push { cls:=.type "list",dict:=none,data:=.seq ([]:List Value).toArray }=H2 at hns1 hsb1 ⊢
 have hC:H2.objs.size=s.heap.objs.size+1:=by rw [← hH2,Heap.size_push]
 have old:∀ b o,s.heap.get? b=some o→h1.get? b=some o:=fun b o e=>hsb1.extBut b o (by rw [hC];exact Nat.ne_of_lt (Nat.lt_succ_of_lt (Heap.lt_size e))) (Heap.get?_push_of_some _ (hH2▸Heap.get?_push_of_some _ e))
 have hacc:h1.get? s.heap.objs.size=some { cls:=.type "list",data:=.seq #[] 0 }:=hsb1.extBut _ _ (by rw [hC];exact Nat.ne_of_lt (Nat.lt_succ_self _)) (Heap.get?_push_of_some _ (hH2▸Heap.get?_push_size _ rfl))
 have hfo:∀ b∈fp,b < s.heap.objs.size:=fun b hb=>by
  obtain ⟨o,e,_⟩:=T.obj 0 _ st b hb
  exact Heap.lt_size e
 have st1:tn 0 h1:=T.keep _ _ _ st fun b _ o e=>old b o e
 have I0:=zjX (fp:=fp) S I hf hfo H2.objs.size s.heap.objs.size rfl hC hns1 old hacc (s.toks+([]:List (Str×Value)).length)
 have hHp:H s.heap.objs.size=none:=I.hok.fresh (Nat.le_refl _)
 obtain ⟨W,⟨m0,w0⟩,turn⟩:=hq _ hHp
 generalize hX:X.comp scope (zbi scope.names X.env []) H2.objs.size N s H fp=Y at I0
 have eY:(Y.prog=X.prog∧Y.w=X.w∧Y.K=X.K∧Y.calm=true∧Y.A=X.A)∧Y.env=compEnvC scope (zbi scope.names X.env []) H2.objs.size X.env∧Y.fs=frs X.stack∧Y.ex=fp∧Y.s₀=s∧Y.H₀=H∧Y.pn=[]:=by
  subst hX;exact ⟨⟨rfl,rfl,rfl,hc,rfl⟩,rfl,rfl,rfl,rfl,rfl,rfl⟩
 have hgY:PG Y tg g:=by subst hX;exact hg _ _ _ _ _
 have htY:PTs Y ifs tc:=by subst hX;exact hts _ _ _ _ _
 have heY:PE Y elt te:=by subst hX;exact he _ _ _ _ _
 have hxe:Y.xe=fun _ _=>False:=by subst hX;rfl
 obtain ⟨⟨e1,e2,e3,e4,e5⟩,e6,e7,e8,e9,e10,e11⟩:=eY
 have sub:=zeZ (env:=X.env) scope.names [] (fun x c e=>by simp at e)
 have stat:∀ {H':Hp},(∀ b∈fp,H' b=none)→∀ b∈fp,FpOk Y [] H' b:=fun {H'} hn b hb=>by
  refine ⟨hn b hb,?_,?_,.inl (by rw [e8];exact hb),?_,?_⟩
  ·rw [e6];show b≠H2.objs.size;rw [hC];exact Nat.ne_of_lt (Nat.lt_succ_of_lt (hfo b hb))
  ·rw [e7]
   intro z
   rcases List.mem_cons.mp (I.stkSub b z) with e | e
   ·exact (hf b hb).2.1 e
   ·exact (hf b hb).2.2.1 e
  ·intro x c e
   rw [e6] at e
   exact (hf b hb).2.2.2.2.1 x c (sub x c e)
  ·intro q hq
   rw [e11] at hq
   exact absurd hq (by simp)
 have noT:∀ b∈fp,b≠s.heap.objs.size:=fun b hb=>Nat.ne_of_lt (hfo b hb)
 have loop:∀ s3:Shared,s3={ s with heap:=h1,toks:=s.toks+([]:List (Str×Value)).length } →
   codeAny (model X.prog X.w) X.A (.compLoop (.ListComp elt [⟨tg,iter,ifs,0⟩] scope pos) 0 (.ref it) (.ref s.heap.objs.size) (compEnvC scope (zbi scope.names X.env []) H2.objs.size X.env))
    (RR (.ref s.heap.objs.size) H2.objs.size) s3:=by
  rintro s3 rfl
  rw [← e1,← e2,← e5,← e6]
  refine zfQ (fun n s'=>∃ i σ' H',Inv Y [] σ' H' s'∧tn i s'.heap∧(∀ b∈fp,H' b=none)∧W i n σ' H') ?_ m0 ⟨0,_,_,I0,st1,fun b hb=>by rw [zaD (noT b hb)];exact (hf b hb).1,w0⟩
  rintro n s3 ⟨i,σ3,H3,I3,st3,fr3,w3⟩
  rcases turn i n σ3 H3 w3 with ⟨stop,qn⟩ | ⟨go,N',hN,step⟩
  ·have tt:=T.done Y e1 e2 e3 e4 i [] s3 σ3 H3 (fun _ _=>False) I3 (stat fr3) st3 stop
   rw [← e1,← e2] at tt
   refine thn tt fun r s4 ⟨hr,I4⟩=>?_
   subst hr
   obtain ⟨m,hn4,_⟩:=I4.loc
   have hl:Y.env.locals=H2.objs.size:=by rw [e6];rfl
   have u:=I4.base
   rw [e7,e8,e9,e10] at u
   refine hRR _ _ s4 H3 m hC (by rw [← hl];exact hn4) ?_ (by rw [← hl];exact I4.free) qn
   refine I.call' (by rw [I4.os,e9]) u (by rw [← e1,← e2];exact I4.hok) I4.bare fun b hb=>?_
   obtain ⟨f0,f1,f2,f3,f4,f5⟩:=hf b hb
   exact ⟨f3,f1,f4,f5⟩
  ·have tt:=T.item Y e1 e2 e3 e4 i [] s3 σ3 H3 (fun _ _=>False) I3 (stat fr3) st3 go
   rw [← e1,← e2] at tt
   refine thn tt fun r s4 ⟨u,hr,h4⟩=>?_
   subst hr
   refine thn h4 fun _ s5 ⟨x,H5,I5,r5,y5,st5,fr5⟩=>?_
   have I5':=I5.pinned (stat fr5) (T.obj _ _ st5)
   have a6:=hgY _ s5 σ3 H5 x u _ I5' r5 (step x H5 y5)
   rw [hxe] at a6
   refine thn a6 fun _ s6 ⟨σ6,H6,I6,q6⟩=>?_
   have a7:=htY _ s6 σ6 H6 _ I6 q6
   rw [hxe] at a7
   refine thn a7 fun ok s7 ⟨H7,I7,q7⟩=>?_
   have again:∀ {H8:Hp} {s8:Shared},Inv Y ([]++zfH fp s5.heap) σ6 H8 s8→N' σ6 H8→∃ m,m < n∧∃ i σ' H',Inv Y [] σ' H' s8∧tn i s8.heap∧(∀ b∈fp,H' b=none)∧W i m σ' H':=fun {H8 s8} I8 n8=>by
    obtain ⟨m',hm,w8⟩:=hN σ6 H8 n8
    refine ⟨m',hm,i+1,σ6,H8,I8.unpinned,T.keep _ _ _ st5 fun b hb o e=>(I8.pin (b,o) (List.mem_append_right _ (List.mem_append_right _ (zcL hb e)))).1,fun b hb=>?_,w8⟩
    obtain ⟨o,e,d⟩:=T.obj _ _ st5 b hb
    exact (I8.pin (b,o) (List.mem_append_right _ (List.mem_append_right _ (zcL hb e)))).2.1
   cases ok with
   | false =>
     rw [if_neg Bool.false_ne_true] at q7 ⊢
     exact again I7 q7
   | true =>
     rw [if_pos rfl] at q7 ⊢
     have a8:=heY _ s7 σ6 H7 _ I7 q7
     rw [hxe] at a8
     refine thn a8 fun y s8 ⟨v,H8,I8,r8,ys,q8,hz8,n8⟩=>?_
     have a9:=mt_append (X:=Y) _ s8 σ6 H8 (.ref s.heap.objs.size) [v] (.ref s.heap.objs.size) [y] (fun _ H'=>N' σ6 H') I8 rfl (.cons r8 .nil) ⟨_,ys,v,rfl,rfl,q8,hz8,n8⟩
     rw [hxe] at a9
     refine thn a9 fun _ s9 ⟨_,H9,I9,_,n9⟩=>?_
     exact again I9 n9
 exact codeAny_compStart_list (loop _ rfl) (T.self _ 0 _ _ _ st1 (loop _ rfl))
theorem zhL {pins:List (Addr×Obj)} {σ:St} {H H':Hp} {s s':Shared} {h':Heap} {C:Addr} (I:Inv X pins σ H s) (hC:C=s.heap.objs.size+1) (I':Inv X pins σ H' s') (hn:H' C=none) (hs:Heap.SameBut C s'.heap h'):Inv X pins σ H' { s' with heap:=h' }:=by
 have hlt:∀ b:Addr,b < s.heap.objs.size→b≠C:=fun b hb=>by rw [hC];exact Nat.ne_of_lt (Nat.lt_succ_of_lt hb)
 refine I'.turned (it:=C) (t':=s'.toks) (fun b o hb e=>(hs.2 b hb).trans e) hn ?_ (.inr ?_) ?_ ?_
 ·exact (hlt _ I.lt).symm
 ·rw [hC];exact Nat.le_succ_of_le I.sz
 ·intro x c e
  obtain ⟨v,q⟩:=I.cell x c e
  exact hlt _ q.lt
 ·intro p hp
  exact hlt _ (Heap.lt_size (I.pin p hp).1)
theorem zaW (S:zcz X scope N own js) (hc:X.calm=true) (hi:PI X tg iter wi)
  (hg:∀ cl C s H fp,PG (X.comp scope cl C N s H fp) tg g) (hts:∀ cl C s H fp,PTs (X.comp scope cl C N s H fp) ifs tc) (he:∀ cl C s H fp,PE (X.comp scope cl C N s H fp) elt te)
  (hs:∀ x,foldedSetIterable iter X.env x=pure x:=by intro _;rfl):PE X (.ListComp elt [⟨tg,iter,ifs,0⟩] scope pos) (zgz wi own js g tc te):=by
 intro pins s σ H Q I h
 rw [eval_ListComp]
 refine wpAny_comprehension_free (use:=none) rfl hs (zdc fun x hx hk=>I.ok.has x.1 (S.free x hx hk)) S.kind S.nodup (thn (hi pins s σ H _ I h) fun v s1 h1=>thn h1 fun itv s2 h2=>?_)
 obtain ⟨it,fp,tn,J,H2,e,I2,T,st2,f2,q⟩:=h2
 subst e
 refine ze1 (RR:=fun acc C=>compPost (model X.prog X.w) X.A X.xe none (EP X pins σ Q) acc C) S hc I2 T st2 f2 hg hts he q ?_
 intro p C s' H' m hC hn I' hH' q'
 exact ⟨m,hn,fun h' hs'=>⟨.ref p,H',zhL I2 hC I' hH' hs',rfl,q'⟩⟩
theorem zdw {i:Nat} {y:Str} {py spos:Pos} (hN:X.N.Nodup) (hi':X.N[i]? = some y) (hx:Loc X.env.scope y) (hsw:swapsWith (.ListComp elt [⟨tg,iter,ifs,0⟩] scope pos) (some (.Name y py)) spos.line X.env=pure true)
  (S:zcz X scope N own js) (hc:X.calm=true) (hi:PI X tg iter wi)
  (hg:∀ cl C s H fp,PG (X.comp scope cl C N s H fp) tg g) (hts:∀ cl C s H fp,PTs (X.comp scope cl C N s H fp) ifs tc) (he:∀ cl C s H fp,PE (X.comp scope cl C N s H fp) elt te)
  (hs:∀ x,foldedSetIterable iter X.env x=pure x:=by intro _;rfl) (hf:X.fn y=true∨X.env.scope.names.lookup y=some .local:=by first | exact .inl rfl | exact .inr rfl | assumption) :
  PS X (.Assign [.Name y py] (.ListComp elt [⟨tg,iter,ifs,0⟩] scope pos) spos) (tAsg (zgz wi own js g tc te) (zcr i)):=by
 intro pins s σ H D I h
 rw [exec_Assign_Name_used _ _ _ _ hsw]
 refine wpAny_bind (wpAny_standAt (wpAny_bind ?_))
 show wpAny _ X.A (do let _ ← comprehension (.ListComp elt [⟨tg,iter,ifs,0⟩] scope pos) scope X.env _ (newList []) false (eval iter X.env) (some (assign (.Name y py) X.env))) _ _ s
 refine wpAny_bind (wpAny_mono (wpAny_comprehension_free (use:=some (assign (.Name y py) X.env)) (Q:=fun _ s'=>SP X pins D .next s') rfl hs (zdc fun x hx hk=>I.ok.has x.1 (S.free x hx hk)) S.kind S.nodup
  (thn (hi pins s σ H _ I h) fun v s1 h1=>thn h1 fun itv s2 h2=>?_)) (fun _ s' hq=>wpAny_pure (wpAny_pure hq)) fun _ _ e=>e)
 obtain ⟨it,fp,tn,J,H2,e,I2,T,st2,f2,q⟩:=h2
 subst e
 refine ze1 (Q:=fun x H1=>zcr i x σ H1 D.nx) (RR:=fun acc C=>compPost (model X.prog X.w) X.A X.xe (some (assign (.Name y py) X.env)) (fun _ s'=>SP X pins D .next s') acc C) S hc I2 T st2 f2 hg hts he q ?_
 intro p C s' H' m hC hn I' hH' q'
 show wpAny _ X.A (assign (.Name y py) X.env (.ref p)) _ _ _
 refine wpAny_assign_Name (zfG (v:=.ref p) I' hN hi' hx rfl (fun s'' I'' hsb=>?_) hf)
 obtain ⟨a,hsb,ha⟩:=hsb
 have hlt:∀ b:Addr,b < s2.heap.objs.size→b≠C:=fun b hb=>by rw [hC];exact Nat.ne_of_lt (Nat.lt_succ_of_lt hb)
 have hne:C≠a:=by
  rcases ha with rfl | ha
  ·exact (hlt _ I2.lt).symm
  ·obtain ⟨v,q⟩:=I2.cell y a ha
   exact (hlt _ q.lt).symm
 refine ⟨m,hn.sameBut hsb hne,fun h' hs'=>⟨σ.set i (some (.ref p)),H',?_,q'⟩⟩
 refine I''.turned (it:=C) (t':=s''.toks) (fun b o hb e=>(hs'.2 b hb).trans e) hH' ?_ (.inr ?_) ?_ ?_
 ·exact (hlt _ I2.lt).symm
 ·rw [hC];exact Nat.le_succ_of_le I2.sz
 ·intro x c e
  obtain ⟨v,q⟩:=I2.cell x c e
  exact hlt _ q.lt
 ·intro p hp
  exact hlt _ (Heap.lt_size (I2.pin p hp).1)
end
end L2
namespace L2
open PySem PySem.Spec PyProof.Rows
theorem zgA {X:Cx}:zcs X (.builtin "isinstance") (fun xs H Q=>∃ x n t b,xs=[x,.ty n]∧TyOf X.K H x t∧PySem.W.kitOne X.K t (.type n)=some b∧Q (.bl b) H):=by
 intro pins s σ H xs us Q I r h
 obtain ⟨x,n,t,b,rfl,ty,e,q⟩:=h
 obtain ⟨u,v,rfl,r1,r2⟩:=Vals.two r
 have e2:v=Value.type n:=r2
 subst e2
 exact ziC I r1 ty e fun tk=>⟨.bl b,H,I.tok _,rfl,q⟩
section
variable {X:Cx} {K:PySem.W.Frag}
theorem zai (h:X.K=K):IxR X (rIxL K):=h▸ix_list
theorem zdd (h:X.K=K):SlR X (rSlL K):=h▸sl_list
theorem zml (h:X.K=K):OpR X (compareOp .In) (rIn K false):=h▸op_in_seq
def cLen (K:PySem.W.Frag):List V→Hp→VK→Prop:=fun xs H Q=>∃ p ys,xs=[.ref p]∧(SqL K H p ys∨SqT K H p ys)∧Q (.int ys.length) H
theorem zak (h:X.K=K):zcs X (.builtin "len") (cLen K):=h▸call_len_seq
def zlx (K:PySem.W.Frag):List V→Hp→VK→Prop:=fun xs H Q=>∃ p ys,xs=[.ref p]∧(SqL K H p ys∨SqT K H p ys)∧∀ l,H l=none→Q (.ref l) (upd H l (.lst ys))
theorem ze2 (h:X.K=K):zcs X (.type "list") (zlx K):=h▸call_list_of
def cIsi (K:PySem.W.Frag):List V→Hp→VK→Prop:=fun xs H Q=>∃ x n t b,xs=[x,.ty n]∧TyOf K H x t∧PySem.W.kitOne K t (.type n)=some b∧Q (.bl b) H
theorem zaL (h:X.K=K):zcs X (.builtin "isinstance") (cIsi K):=h▸zgA
theorem zaE {tg l:Expr} {tl:TE} (h:X.K=K) (hl:PE X l tl):PI X tg l (zjN K tl):=h▸zlf hl
def zkz (K:PySem.W.Frag) (ta:TE):TT:=fun σ H Q=>ta σ H fun x H'=>∃ k,TruV K x H' k∧Q k H'
theorem zas {a:Expr} {ta:TE} (h:X.K=K) (ha:PE X a ta) (he:∀ whole,isTrue a X.env whole=(do let v ← whole;standAt a.pos;holding [v] (truthy v))):PT X a (zkz K ta):=h▸zjP ha he
theorem zbW {o e:Expr} {es:List Expr} {to:TE} {t:TA} {name:Str} {apos cpos:Pos} {T id:String} {r:V→List V→Hp→VK→Prop} (h:X.K=K)
  (pa:PlainAttrs T) (slot:Slot T name id) (hty:typeOf (.builtin id)=pure (.type "method_descriptor")) (hm:MtR X id r) (ho:PE X o to) (ha:PA X (e::es) t)
  (hbase:attributeBase o name X.env (eval o X.env)=eval o X.env:=by rfl)
  (hfew:((backTo cpos (starEach (e::es) X.env)).all (fun x=>!x.1) && (backToKw cpos (keywordEach [] X.env)).all (fun x=>x.1.isSome)
   && decide ((e::es).length+([]:List Keyword).length+(if ([]:List Keyword).isEmpty then 0 else 1) < 30))=true:=by rfl)
  (hline:(apos.endLine == cpos.line)=true:=by rfl) (hs:starEach (e::es) X.env=(false,eval e X.env)::starEach es X.env:=by rfl) (hplain:(backTo cpos (starEach es X.env)).any (·.1)=false:=by rfl) :
  PE X (.Call (.Attribute o name apos) (e::es) [] cpos) (tBM K T r to t):=h▸zna pa slot hty hm ho ha hbase hfew hline hs hplain
def rAddS:R2:=fun x y H Q=>∃ i j,x=.str i∧y=.str j∧i.length+j.length≤sizeLine∧Q (.str (i++j)) H
def rAddG:R2:=fun x y H Q=>rI0 (fun i j=>.int (i+j)) x y H Q∨rCat x y H Q∨rAddS x y H Q
theorem op_addG:OpR X (binaryOp .Add) rAddG:=op_add.or (op_cat.or op_add_str)
def rNeG (K:PySem.W.Frag):R2:=fun x y H Q=>rNe x y H Q
theorem zmm (h:X.K=K):OpR X (compareOp .NotEq) (rNeG K):=op_ne
end
def zkA (scope:Scope) (xn:List (Str×NameKind)) (XN N:List Str) (own:Nat) (js:List Nat):Bool :=
 (scope.kind == .function) && scope.names.all (fun y=>y.2 != .cell) && scope.names.all (fun y=>y.2 != .local || scope.names.lookup y.1 == some .local) &&
 scope.names.all (fun y=>y.2 != .free || (xn.lookup y.1 == some .cell || xn.lookup y.1 == some .free)) && (N.length == own+js.length) &&
 (List.range js.length).all (fun i=>(N[own+i]? == XN[js.getD i 0]?) && match XN[js.getD i 0]? with
  | some x=>scope.names.lookup x == some .free && (xn.lookup x == some .cell || xn.lookup x == some .free)
  | none=>true)
theorem zap {X:Cx} {scope sc:Scope} {XN N:List Str} {own:Nat} {js:List Nat} (hs:X.env.scope=sc) (hN:X.N=XN) (h:zkA scope sc.names XN N own js=true):zcz X scope N own js:=by
 subst hs hN
 unfold zkA at h
 simp only [Bool.and_eq_true,List.all_eq_true,beq_iff_eq,bne_iff_ne,Bool.or_eq_true,List.mem_range] at h
 obtain ⟨⟨⟨⟨⟨h1,h2⟩,h3⟩,h4⟩,h5⟩,h6⟩:=h
 refine ⟨h1,h2,fun y hy hk=>?_,fun y hy hk=>?_,h5,fun i j hj=>?_⟩
 ·rcases h3 y hy with z | z
  ·exact absurd hk z
  ·exact z
 ·rcases h4 y hy with z | z
  ·exact absurd hk z
  ·exact z
 ·have hi:i < js.length:=(List.getElem?_eq_some_iff.mp hj).1
  have e:js.getD i 0=j:=by rw [List.getD_eq_getElem?_getD,hj];rfl
  obtain ⟨a,b⟩:=h6 i hi
  rw [e] at a b
  refine ⟨a,fun x hx=>?_⟩
  rw [hx] at b
  simp only [Bool.and_eq_true,beq_iff_eq,Bool.or_eq_true] at b
  obtain ⟨b1,b2⟩:=b
  refine ⟨b1,?_,?_⟩
  ·rcases b2 with z | z
   ·exact .inr (.inl z)
   ·exact .inr (.inr z)
  ·intro z
   have z':X.env.scope.names.lookup x=some .local:=z
   rcases b2 with q | q <;> rw [z'] at q <;> cases q
section
variable {σ σ':St} {H:Hp} {Q:VK} {QT:Bool→Hp→Prop} {QA:List V→Hp→Prop} {i j:Int} {v x y:V} {te ta tb:TE} {tc tc':TT} {tl tr:TA} {t u:TS} {K:PySem.W.Frag} {p:Addr} {xs:List V}
 {nx bk ct:St→Hp→Prop} {rt:VK} {D:Ends} {r r':R2} {n:Nat}
theorem zfm {i:Nat} (h:σ[i]? = some (some v)) (q:Q v H):tVar i σ H Q:=⟨v,h,q⟩
theorem r_c (q:Q v H):tC v σ H Q:=q
theorem r_op (h:ta σ H fun x H1=>tb σ H1 fun y H2=>r x y H2 Q):tOp r ta tb σ H Q:=h
theorem r_I0 {g:Int→Int→V} (q:Q (g i j) H):rI0 g (.int i) (.int j) H Q:=⟨i,j,rfl,rfl,q⟩
theorem znd (q:Q (.bl (decide (i=j))) H):rEq (.int i) (.int j) H Q:=⟨rfl,by simpa using q⟩
theorem zne (q:Q (.bl (!decide (i=j))) H):rNe (.int i) (.int j) H Q:=⟨rfl,by simpa using q⟩
theorem znf {a b:Bool} (q:Q (.bl (decide (a=b))) H):rEq (.bl a) (.bl b) H Q:=⟨rfl,by simpa using q⟩
theorem zhM (h:SqL K H p xs) (e:atI xs i=some v) (q:Q v H):rIxL K (.ref p) (.int i) H Q:=⟨p,xs,i,v,rfl,rfl,h,e,q⟩
theorem r_cb {f:List V→Hp→VK→Prop} (h:tl σ H fun vs H1=>f vs H1 Q):tCB f tl σ H Q:=h
theorem zcN (q:QA [] H):tNil σ H QA:=q
theorem ze3 (h:ta σ H fun x H1=>tl σ H1 fun xs H2=>QA (x::xs) H2):zfh ta tl σ H QA:=h
theorem zkB {sp:Sp} {E:XK} (h:tl σ H fun vs H1=>sp vs H1 Q E):zlm sp [] E tl σ H Q:=by
 unfold zlm
 simpa only [List.append_nil] using h
theorem zct {c:Prop} {A B:Prop} [Decidable c] (h1:c→A) (h2:¬c→B):if decide c=true then A else B:=by
 by_cases h:c
 ·rw [if_pos (decide_eq_true h)];exact h1 h
 ·rw [if_neg (by simpa using h)];exact h2 h
theorem zed {c:Prop} {A B:Prop} [Decidable c] (h1:¬c→A) (h2:c→B):if (!decide c)=true then A else B:=by
 by_cases h:c
 ·rw [if_neg (by simpa using h)];exact h2 h
 ·rw [if_pos (by simpa using h)];exact h1 h
theorem zmn {b:Bool} {A B:Prop} (h1:b=false→A) (h2:b=true→B):if (!b)=true then A else B:=by
 cases b with
 | true=>exact h2 rfl
 | false=>exact h1 rfl
theorem zcM {ns:List Int} {k:Int} (h0:0≤k) (h1:k < ns.length):atI (ns.map V.int) k=some (.int (ns.getD k.toNat 0)):=by
 obtain ⟨n,rfl⟩:=Int.eq_ofNat_of_zero_le h0
 have hn:n < ns.length:=by omega
 refine ziH ?_
 rw [List.getElem?_map,List.getD_eq_getElem?_getD,Int.toNat_natCast,List.getElem?_eq_getElem hn]
 rfl
theorem zhf {ps:List Addr} {k:Int} (h0:0≤k) (h1:k < ps.length):atI (ps.map V.ref) k=some (.ref (ps.getD k.toNat 0)):=by
 obtain ⟨n,rfl⟩:=Int.eq_ofNat_of_zero_le h0
 have hn:n < ps.length:=by omega
 refine ziH ?_
 rw [List.getElem?_map,List.getD_eq_getElem?_getD,Int.toNat_natCast,List.getElem?_eq_getElem hn]
 rfl
def ziT (xs:List V) (H:Hp) (Q:VK):Prop:=xs.length≤sizeLine∧∀ p,H p=none→Q (.ref p) (upd H p (.lst xs))
theorem zmo (h:tl σ H fun xs H1=>ziT xs H1 Q):tLst tl σ H Q:=h
theorem r_bm {T:String} {f:V→List V→Hp→VK→Prop} (h:te σ H fun x H1=>tyV K T x H1∧tl σ H1 fun xs H2=>f x xs H2 Q):tBM K T f te tl σ H Q:=h
theorem zkC (h:ta σ H fun x H1=>∃ c,x=.bl c∧if c=true then tb σ H1 Q else Q (.bl false) H1):zl1 ta tb σ H Q:=h
theorem zkD (h:ta σ H fun x H1=>∃ c,x=.bl c∧Q (.bl (!c)) H1):zl2 ta σ H Q:=h
theorem zkE {b:Bool} {P:Bool→Prop} (h:P b):∃ c,V.bl b=.bl c∧P c:=⟨b,rfl,h⟩
theorem zkF (h:ta σ H fun x H'=>∃ k,x=.bl k∧QT k H'):zmb ta σ H QT:=h
theorem r_tB (h:ta σ H fun x H'=>∃ k,x=.bl k∧QT k H'):tB ta σ H QT:=h
theorem zmp (h:tc σ H fun c H1=>if c=true then tc' σ H1 QT else QT false H1):tAnd tc tc' σ H QT:=h
theorem r_or (h:tc σ H fun c H1=>if c=true then QT true H1 else tc' σ H1 QT):tOr tc tc' σ H QT:=h
theorem zmq (h:tc σ H fun c H1=>QT (!c) H1):tNot tc σ H QT:=h
theorem r_tt (h:QT true H):tTT σ H QT:=h
theorem zhN (h:t ⟨u ⟨nx,rt,bk,ct⟩,rt,bk,ct⟩ σ H):tSeq t u ⟨nx,rt,bk,ct⟩ σ H:=h
theorem zmr (h:te σ H rt):tRet te ⟨nx,rt,bk,ct⟩ σ H:=h
theorem zkG (h:te σ H fun _ H1=>nx σ H1):zl4 te ⟨nx,rt,bk,ct⟩ σ H:=h
theorem zkH (h:nx σ H):tNext ⟨nx,rt,bk,ct⟩ σ H:=h
theorem zms {i:Nat} (h:te σ H fun x H1=>nx (σ.set i (some x)) H1):tAsg te (zcr i) ⟨nx,rt,bk,ct⟩ σ H:=h
theorem zmt (h:tc σ H fun b H1=>if b=true then t D σ H1 else u D σ H1):tIfS tc t u D σ H:=h
theorem ziU {i:Nat} {N:St→Hp→Prop} (h:N (σ.set i (some v)) H):zcr i v σ H N:=h
def ForR (lo:Int) (n:Nat) (g:TG) (tb:TS) (D:Ends) (σ:St) (H:Hp):Prop :=
 ∃ W:Nat→Nat→St→Hp→Prop,(∃ m,W 0 m σ H)∧∀ i m σ H,W i m σ H →
  ((Itr lo n).stop i H∧D.nx σ H)∨((Itr lo n).go i H∧∃ N:St→Hp→Prop,(∀ σ' H',N σ' H'→∃ m',m' < m∧W (i+1) m' σ' H')∧∀ x H',(Itr lo n).yld i H x H'→g x σ H' fun σ2 H2=>tb { D with nx:=N,ct:=N,bk:=D.nx } σ2 H2)
theorem zkI {g:TG} {tb:TS} (h:tl σ H fun vs H1=>∃ j:Int,vs=[.int j]∧-(2 ^ 62)≤j∧j < 2 ^ 62∧ForR 0 j.toNat g tb D σ H1):tFor (zlg tl) g tb D σ H:=h
theorem zkJ {g:TG} {tb:TS} (h:tl σ H fun vs H1=>∃ i j:Int,vs=[.int i,.int j]∧(-(2 ^ 62)≤i∧i < 2 ^ 62∧-(2 ^ 62)≤j∧j < 2 ^ 62)∧ForR i (j-i).toNat g tb D σ H1):tFor (zlh tl) g tb D σ H:=h
theorem zcl {P:Int→Prop} (b1 : -(2 ^ 62)≤i) (b2:i < 2 ^ 62) (h:P i):∃ j:Int,[V.int i]=[.int j]∧-(2 ^ 62)≤j∧j < 2 ^ 62∧P j:=⟨i,rfl,b1,b2,h⟩
theorem zde {P:Int→Int→Prop} (b : -(2 ^ 62)≤i∧i < 2 ^ 62∧-(2 ^ 62)≤j∧j < 2 ^ 62) (h:P i j):∃ i' j':Int,[V.int i,V.int j]=[.int i',.int j']∧(-(2 ^ 62)≤i'∧i' < 2 ^ 62∧-(2 ^ 62)≤j'∧j' < 2 ^ 62)∧P i' j':=⟨i,j,rfl,b,h⟩
theorem zmu (h:SqL K H p xs) (q:Q (.int xs.length) H):cLen K [.ref p] H Q:=⟨p,xs,rfl,.inl h,q⟩
theorem zkK {ns:List Int} (h:SqL K H p (ns.map V.int)) (q:Q (.int ns.length) H):cLen K [.ref p] H Q:=⟨p,_,rfl,.inl h,by rw [List.length_map];exact q⟩
theorem zkL {ns:List Addr} (h:SqL K H p (ns.map V.ref)) (q:Q (.int ns.length) H):cLen K [.ref p] H Q:=⟨p,_,rfl,.inl h,by rw [List.length_map];exact q⟩
theorem zmv {T:String} {ty:Value} {b:Bool} (h:TyOf K H x ty) (e:PySem.W.kitOne K ty (.type T)=some b) (q:Q (.bl b) H):cIsi K [x,.ty T] H Q:=⟨x,T,ty,b,rfl,h,e,q⟩
theorem ziV (h:ta σ H fun x H'=>∃ k,TruV K x H' k∧QT k H'):zkz K ta σ H QT:=h
theorem ziW {b:Bool} {P:Bool→Prop} (h:P b):∃ k,TruV K (.bl b) H k∧P k:=⟨b,rfl,h⟩
theorem zkM (q:Q (.int (i+j)) H):rAddG (.int i) (.int j) H Q:=.inl ⟨i,j,rfl,rfl,q⟩
theorem ziX (q:Q (.bl (!decide (i=j))) H):rNeG K (.int i) (.int j) H Q:=zne q
theorem zbI {lo:Int} {g:TG} {tb:TS} (Pv:Nat→St→Hp→Prop) (h0:Pv 0 σ H)
  (hs:∀ i σ H,i < n→Pv i σ H→g (.int (lo+i)) σ H fun σ2 H2=>tb ⟨Pv (i+1),rt,nx,Pv (i+1)⟩ σ2 H2) (hd:∀ σ H,Pv n σ H→nx σ H):ForR lo n g tb ⟨nx,rt,bk,ct⟩ σ H :=
 ziu (D:=⟨nx,rt,bk,ct⟩) Pv h0 hs hd
end
end L2
namespace L2
open PySem PySem.Spec PyProof.Rows
section
variable {H:Hp} {Q:VK} {K:PySem.W.Frag} {p:Addr} {xs:List V} {y:V}
theorem zaQ {H:Hp} {p:Addr} {o:HO} (hp:H p=none):Same H (upd H p o):=fun b u e=>by
 rw [zaD (zag e hp)];exact e
def But (p:Addr) (H H':Hp):Prop:=∀ b,b≠p→H' b=H b
theorem But.upd {H:Hp} {p:Addr} {o:HO}:But p H (upd H p o):=fun b h=>zaD h
theorem Same.but {B H H':Hp} {p:Addr} (s:Same B H) (b:But p H H') (hp:B p=none):Same B H':=fun c o e=>by
 rw [b c (zag e hp)];exact s c o e
theorem zax (hz:xs.length≤1000) (h:∀ p H2,H p=none→Same H H2→H2 p=some (.lst xs)→Q (.ref p) H2):ziT xs H Q :=
 ⟨Nat.le_of_lt (za0 hz),fun p hp=>h p _ hp (zaQ hp) zar⟩
theorem zfR (h:SqL K H p xs) (q:∀ l H2,H l=none→Same H H2→H2 l=some (.lst xs)→Q (.ref l) H2):zlx K [.ref p] H Q:=⟨p,xs,rfl,.inl h,fun l hl=>q l _ hl (zaQ hl) zar⟩
theorem zaT (h:H p=some (.lst xs)) (hz:xs.length≤1000000) (q:∀ H2,But p H H2→H2 p=some (.lst (xs++[y]))→Q .non H2):rAppend (.ref p) [y] H Q:=⟨p,xs,y,rfl,rfl,h,by rw [sizeLine_eq];omega,q _ But.upd zar⟩
theorem zfn {a b:Addr} {ys:List V} (h:H a=some (.lst xs)) (h':H b=some (.lst ys)) (hz:xs.length+ys.length≤1000) (q:∀ p H2,H p=none→Same H H2→H2 p=some (.lst (xs++ys))→Q (.ref p) H2):rAddG (.ref a) (.ref b) H Q :=
 .inr (.inl ⟨a,b,xs,ys,rfl,rfl,h,h',Nat.le_of_lt (za0 hz),fun p hp=>q p _ hp (zaQ hp) zar⟩)
theorem ziY {c d:Bool} {tb:TT} {σ:St} {QT:Bool→Hp→Prop} (hb:c=true→∀ Q':Bool→Hp→Prop,Q' d H→tb σ H Q') (q:QT (c && d) H):if c=true then tb σ H QT else QT false H:=by
 cases c with
 | false=>exact q
 | true=>exact hb rfl QT q
theorem zmw {f:Int→Int→V} {i j:Int} (c:0 < j) (q:Q (f i j) H):rI (fun _ j=>0 < j) f (.int i) (.int j) H Q:=⟨i,j,rfl,rfl,c,q⟩
theorem zmx {P:Prop} (h:H p=some (.lst xs)) (q:P):tyV K "list" (.ref p) H∧P:=⟨.inl ⟨rfl,_,SqL.of h⟩,q⟩
end
end L2
namespace L2
open PySem PySem.Spec PyProof.Rows
section
variable {σ:St} {H:Hp} {Q:VK} {K:PySem.W.Frag} {js:List Nat} {te:TE} {tc:TT} {J:It} {n:Nat} {x:Nat→V}
structure Iter (J:It) (n:Nat) (x:Nat→V) (H:Hp):Prop where
 go:∀ i H',Same H H'→i < n→J.go i H'
 yld:∀ i H' v H2,Same H H'→i < n→J.yld i H' v H2→H2=H'∧v=x i
 stop:∀ H',Same H H'→J.stop n H'
theorem zbG (lo:Int) (n:Nat) (H:Hp):Iter (Itr lo n) n (fun i=>.int (lo+i)) H :=
 ⟨fun i H' _ h=>h,fun i H' v H2 _ _ h=>h,fun H' _=>Nat.le_refl n⟩
theorem za6 {a:Addr} {xs:List V} (h:SqL K H a xs):Iter (Itl K a) xs.length (fun i=>xs.getD i .non) H :=
 ⟨fun i H' s hi=>⟨xs,xs[i],s.seq h,List.getElem?_eq_getElem hi⟩,fun i H' v H2 s hi h'=>⟨h'.1,by
  have:=h'.2 xs (s.seq h)
  rw [List.getD_eq_getElem?_getD,this];rfl⟩,fun H' s=>⟨xs,s.seq h,Nat.le_refl _⟩⟩
def zee (J:It) (js:List Nat) (tc:TT) (te:TE) (σ:St) (H:Hp) (Q:VK):Prop:=∀ p,H p=none →
 ∃ W:Nat→Nat→St→Hp→Prop,(∃ m,W 0 m (capS 1 js σ) (upd H p (.lst [])))∧∀ i m σc H,W i m σc H →
  (J.stop i H∧Q (.ref p) H)∨(J.go i H∧∃ N:St→Hp→Prop,(∀ σ' H',N σ' H'→∃ m',m' < m∧W (i+1) m' σ' H')∧∀ x H',J.yld i H x H' →
   zcr 0 x σc H' fun σ2 H2=>tc σ2 H2 fun b H3=>if b=true then te σ2 H3 fun v H4=>∃ ys,H4 p=some (.lst ys)∧ys.length < sizeLine∧N σ2 (upd H4 p (.lst (ys++[v]))) else N σ2 H3)
theorem ziZ {tl:TA} (h:tl σ H fun vs H1=>∃ j:Int,vs=[.int j]∧-(2 ^ 62)≤j∧j < 2 ^ 62∧zee (Itr 0 j.toNat) js tc te σ H1 Q):zgz (zlg tl) 1 js (zcr 0) tc te σ H Q:=h
theorem zi0 {tl:TA} (h:tl σ H fun vs H1=>∃ i j:Int,vs=[.int i,.int j]∧(-(2 ^ 62)≤i∧i < 2 ^ 62∧-(2 ^ 62)≤j∧j < 2 ^ 62)∧zee (Itr i (j-i).toNat) js tc te σ H1 Q):zgz (zlh tl) 1 js (zcr 0) tc te σ H Q:=h
theorem zi1 {tl:TE} (h:tl σ H fun x H1=>∃ a,x=.ref a∧(∃ xs,SqL K H1 a xs)∧zee (Itl K a) js tc te σ H1 Q):zgz (zjN K tl) 1 js (zcr 0) tc te σ H Q:=h
def capV (js:List Nat) (σ:St):St:=js.map fun j=>(σ[j]?).getD none
theorem zfS (u:Option V) (v:V):(u::capV js σ).set 0 (some v)=some v::capV js σ:=rfl
theorem zd4 {H H':Hp} {p:Addr} {o:HO} (s:Same H H') (hp:H p=none):Same H (upd H' p o):=fun b u e=>by
 rw [zaD (zag e hp)];exact s b u e
theorem zcA (it:Iter J n x H) (hz:n < sizeLine) (c:Nat→Bool) (f:Nat→V)
  (ht:∀ i H' Q',i < n→Same H H'→Q' (c i) H'→tc (some (x i)::capV js σ) H' Q')
  (he:∀ i H' Q',i < n→Same H H'→c i=true→Q' (f i) H'→te (some (x i)::capV js σ) H' Q')
  (hq:∀ p,H p=none→Q (.ref p) (upd H p (.lst (((List.range n).filter c).map f)))):zee J js tc te σ H Q:=by
 intro p hp
 refine ⟨fun i m σc H'=>m=n-i∧i≤n∧(∃ u,σc=u::capV js σ)∧H'=upd H p (.lst (((List.range i).filter c).map f)),⟨n,by simp,Nat.zero_le _,⟨none,rfl⟩,rfl⟩,?_⟩
 rintro i m σc H' ⟨rfl,hi,⟨u,rfl⟩,rfl⟩
 have s:∀ o,Same H (upd H p o):=fun o=>zaQ hp
 have hlen:(((List.range i).filter c).map f).length≤i:=by
  rw [List.length_map]
  exact Nat.le_trans (List.length_filter_le _ _) (by simp)
 by_cases hlt:i < n
 ·refine .inr ⟨it.go i _ (s _) hlt,fun σ' H'=>(∃ u,σ'=u::capV js σ)∧H'=upd H p (.lst (((List.range (i+1)).filter c).map f)),fun σ' H' ⟨h1,h2⟩=>⟨n-(i+1),by omega,rfl,hlt,h1,h2⟩,fun v H2 hy=>?_⟩
  obtain ⟨rfl,rfl⟩:=it.yld i _ v H2 (s _) hlt hy
  show tc ((u::capV js σ).set 0 (some (x i))) _ _
  rw [zfS]
  have e:(List.range (i+1)).filter c=(List.range i).filter c++if c i=true then [i] else []:=by
   rw [List.range_succ,List.filter_append]
   cases hc:c i <;> simp [hc]
  refine ht i _ _ hlt (s _) ?_
  cases hc:c i with
  | false =>
    rw [if_neg Bool.false_ne_true]
    refine ⟨⟨_,rfl⟩,?_⟩
    rw [e,hc]
    simp
  | true =>
    rw [if_pos rfl]
    refine he i _ _ hlt (s _) hc ⟨_,zar,by omega,⟨_,rfl⟩,?_⟩
    rw [zlc,e,hc]
    simp
 ·have e:i=n:=by omega
  subst e
  exact .inl ⟨it.stop _ (s _),hq p hp⟩
theorem zhO (it:Iter J n x H) (hz:n < sizeLine) (f:Nat→List V)
  (he:∀ i H' Q',i < n→Same H H'→(∀ q,H' q=none→Q' (.ref q) (upd H' q (.lst (f i))))→te (some (x i)::capV js σ) H' Q')
  (hq:∀ p (ps:List Addr) H',H p=none→Same H H'→ps.length=n→H' p=some (.lst (ps.map V.ref))→(∀ i,i < n→H' (ps.getD i 0)=some (.lst (f i))∧H (ps.getD i 0)=none∧ps.getD i 0≠p)→ps.Nodup→Q (.ref p) H'):zee J js tTT te σ H Q:=by
 intro p hp
 refine ⟨fun i m σc H'=>m=n-i∧i≤n∧(∃ u,σc=u::capV js σ)∧∃ ps:List Addr,Same H H'∧ps.length=i∧H' p=some (.lst (ps.map V.ref))∧(∀ j,j < i→H' (ps.getD j 0)=some (.lst (f j))∧H (ps.getD j 0)=none∧ps.getD j 0≠p)∧ps.Nodup,⟨n,by simp,Nat.zero_le _,⟨none,rfl⟩,[],zaQ hp,rfl,zar,fun j hj=>absurd hj (by omega),List.nodup_nil⟩,?_⟩
 rintro i m σc H' ⟨rfl,hi,⟨u,rfl⟩,ps,s,hl,hpp,hall,nd⟩
 by_cases hlt:i < n
 ·refine .inr ⟨it.go i _ s hlt,fun σ' H'=>(∃ u,σ'=u::capV js σ)∧∃ ps:List Addr,Same H H'∧ps.length=i+1∧H' p=some (.lst (ps.map V.ref))∧(∀ j,j < i+1→H' (ps.getD j 0)=some (.lst (f j))∧H (ps.getD j 0)=none∧ps.getD j 0≠p)∧ps.Nodup,
   fun σ' H' ⟨h1,h2⟩=>⟨n-(i+1),by omega,rfl,hlt,h1,h2⟩,fun v H2 hy=>?_⟩
  obtain ⟨rfl,rfl⟩:=it.yld i _ v H2 s hlt hy
  show te ((u::capV js σ).set 0 (some (x i))) _ _
  rw [zfS]
  refine he i _ _ hlt s fun q hq0=>?_
  have hqp:p≠q:=zag hpp hq0
  have hHq:H q=none:=s.free hq0
  refine ⟨ps.map V.ref,by rw [zaD hqp];exact hpp,by rw [List.length_map];omega,⟨_,rfl⟩,ps++[q],?_,by rw [List.length_append,hl];rfl,by rw [zar,List.map_append];rfl,fun j hj=>?_,?_⟩
  ·exact zd4 (zd4 s hHq) hp
  ·by_cases hji:j < i
   ·obtain ⟨a1,a2,a3⟩:=hall j hji
    have e:(ps++[q]).getD j 0=ps.getD j 0:=by
     rw [List.getD_eq_getElem?_getD,List.getD_eq_getElem?_getD,List.getElem?_append_left (by omega)]
    rw [e]
    refine ⟨?_,a2,a3⟩
    rw [zaD a3,zaD (zag a1 hq0)]
    exact a1
   ·have e0:j=i:=by omega
    subst e0
    have e:(ps++[q]).getD j 0=q:=by
     rw [List.getD_eq_getElem?_getD,List.getElem?_append_right (by omega)]
     simp [hl]
    rw [e]
    refine ⟨?_,hHq,hqp.symm⟩
    rw [zaD hqp.symm,zar]
  ·refine List.nodup_append.mpr ⟨nd,by simp,fun a ha b hb=>?_⟩
   have hb':b=q:=by simpa using hb
   subst hb'
   obtain ⟨k,hk,e⟩:=List.getElem_of_mem ha
   have e2:ps.getD k 0=a:=by rw [List.getD_eq_getElem?_getD,List.getElem?_eq_getElem hk,e];rfl
   have:=(hall k (by omega)).1
   rw [e2] at this
   exact zag this hq0
 ·have e:i=n:=by omega
  subst e
  exact .inl ⟨it.stop _ s,hq p ps H' hp s hl hpp hall nd⟩
def ForI (J:It) (g:TG) (tb:TS) (D:Ends) (σ:St) (H:Hp):Prop :=
 ∃ W:Nat→Nat→St→Hp→Prop,(∃ m,W 0 m σ H)∧∀ i m σ H,W i m σ H →
  (J.stop i H∧D.nx σ H)∨(J.go i H∧∃ N:St→Hp→Prop,(∀ σ' H',N σ' H'→∃ m',m' < m∧W (i+1) m' σ' H')∧∀ x H',J.yld i H x H'→g x σ H' fun σ2 H2=>tb { D with nx:=N,ct:=N,bk:=D.nx } σ2 H2)
theorem zkN {tl:TE} {g:TG} {tb:TS} {D:Ends} (h:tl σ H fun x H1=>∃ a,x=.ref a∧(∃ xs,SqL K H1 a xs)∧ForI (Itl K a) g tb D σ H1):tFor (zjN K tl) g tb D σ H:=h
theorem zaO {a:Addr} {P:Addr→Prop} {xs:List V} (h:SqL K H a xs) (q:P a):∃ b,V.ref a=.ref b∧(∃ xs,SqL K H b xs)∧P b:=⟨a,rfl,⟨xs,h⟩,q⟩
theorem zb3 {a:Addr} {xs:List V} {g:TG} {tb:TS} {nx bk ct:St→Hp→Prop} {rt:VK} (Pv:Nat→St→Hp→Prop) (h0:Pv 0 σ H) (hl:∀ i σ H,i≤xs.length→Pv i σ H→SqL K H a xs)
  (hs:∀ i x σ H,xs[i]? = some x→Pv i σ H→g x σ H fun σ2 H2=>tb ⟨Pv (i+1),rt,nx,Pv (i+1)⟩ σ2 H2) (hd:∀ σ H,Pv xs.length σ H→nx σ H):ForI (Itl K a) g tb ⟨nx,rt,bk,ct⟩ σ H :=
 zjO (D:=⟨nx,rt,bk,ct⟩) Pv h0 hl hs hd
theorem zjY {xs ys:List Int} (hl:xs.length=ys.length) (h:∀ j,j < xs.length→xs.getD j 0=ys.getD j 0):xs=ys:=by
 refine List.ext_getElem hl fun i h1 h2=>?_
 have:=h i h1
 rw [List.getD_eq_getElem?_getD,List.getD_eq_getElem?_getD,List.getElem?_eq_getElem h1,List.getElem?_eq_getElem h2] at this
 exact this
theorem zfT (it:Iter J n x H) (hz:n≤1000) (f:Nat→Int)
  (he:∀ i H' Q',i < n→Same H H'→Q' (.int (f i)) H'→te (some (x i)::capV js σ) H' Q')
  (hq:∀ p H2,H p=none→Same H H2→H2 p=some (.lst (((List.range n).map f).map V.int))→Q (.ref p) H2):zee J js tTT te σ H Q:=by
 refine zcA it (za0 hz) (fun _=>true) (fun i=>.int (f i)) (fun i H' Q' _ _ q=>q) (fun i H' Q' hi s _ q=>he i H' Q' hi s q) fun p hp=>hq p _ hp (zaQ hp) ?_
 rw [zar,List.filter_eq_self.mpr (fun _ _=>rfl),List.map_map]
 rfl
theorem zfU (it:Iter J n x H) (hz:n≤1000) (c:Nat→Bool) (f:Nat→Int)
  (ht:∀ i H' Q',i < n→Same H H'→Q' (c i) H'→tc (some (x i)::capV js σ) H' Q')
  (he:∀ i H' Q',i < n→Same H H'→c i=true→Q' (.int (f i)) H'→te (some (x i)::capV js σ) H' Q')
  (hq:∀ p H2,H p=none→Same H H2→H2 p=some (.lst ((((List.range n).filter c).map f).map V.int))→Q (.ref p) H2):zee J js tc te σ H Q:=by
 refine zcA it (za0 hz) c (fun i=>.int (f i)) ht (fun i H' Q' hi s hc q=>he i H' Q' hi s hc q) fun p hp=>hq p _ hp (zaQ hp) ?_
 rw [zar,List.map_map]
 rfl
end
end L2
namespace L2
open PySem PySem.Spec PyProof.Rows
def LL (K:PySem.W.Frag) (H:Hp) (a:Addr) (rs:List (List Int)):Prop :=
 ∃ ps:List Addr,SqL K H a (ps.map V.ref)∧ps.length=rs.length∧∀ i,i < rs.length→H (ps.getD i 0)=some (.lst ((rs.getD i []).map V.int))
theorem LL.same {K:PySem.W.Frag} {H H':Hp} {a:Addr} {rs:List (List Int)} (h:LL K H a rs) (s:Same H H'):LL K H' a rs:=by
 obtain ⟨ps,h1,h2,h3⟩:=h
 exact ⟨ps,s.seq h1,h2,fun i hi=>s _ _ (h3 i hi)⟩
structure RowsAt (B:Hp) (p:Addr) (rs:List (List Int)) (H:Hp):Prop where
 same:Same B H
 new:B p=none
 rows:∃ ps:List Addr,H p=some (.lst (ps.map V.ref))∧ps.length=rs.length∧ps.Nodup∧∀ i,i < rs.length→H (ps.getD i 0)=some (.lst ((rs.getD i []).map V.int))∧B (ps.getD i 0)=none∧ps.getD i 0≠p
theorem RowsAt.start {B H:Hp} {p:Addr} (hp:B p=none) (s:Same B H) (e:H p=some (.lst [])):RowsAt B p [] H :=
 ⟨s,hp,[],e,rfl,List.nodup_nil,fun i hi=>absurd hi (by simp)⟩
theorem zaB {α:Type} {xs ys:List α} {d:α} {i:Nat} (h:i < xs.length):(xs++ys).getD i d=xs.getD i d:=by
 rw [List.getD_eq_getElem?_getD,List.getD_eq_getElem?_getD,List.getElem?_append_left h]
theorem zaC {α:Type} {xs:List α} {y d:α}:(xs++[y]).getD xs.length d=y:=by
 rw [List.getD_eq_getElem?_getD,List.getElem?_append_right (Nat.le_refl _)]
 simp
theorem mem_getD {α:Type} {xs:List α} {d a:α} (h:a∈xs):∃ i,i < xs.length∧xs.getD i d=a:=by
 obtain ⟨k,hk,e⟩:=List.getElem_of_mem h
 exact ⟨k,hk,by rw [List.getD_eq_getElem?_getD,List.getElem?_eq_getElem hk,e];rfl⟩
theorem RowsAt.push {B H H2 H3:Hp} {p q:Addr} {rs:List (List Int)} {r:List Int} {zs:List V} (R:RowsAt B p rs H) (hq:H q=none) (s:Same H H2) (e:H2 q=some (.lst (r.map V.int))) (hz:H2 p=some (.lst zs)) (b:But p H2 H3) (e3:H3 p=some (.lst (zs++[.ref q]))):RowsAt B p (rs++[r]) H3:=by
 obtain ⟨sb,hp,ps,h1,h2,nd,h3⟩:=R
 have ez:zs=ps.map V.ref:=by
  have:=s p _ h1
  rw [hz] at this
  exact (HO.lst.inj (Option.some.inj this))
 subst ez
 have hBq:B q=none:=sb.free hq
 have hqp:q≠p:=(zag h1 hq).symm
 refine ⟨(sb.trans s).but b hp,hp,ps++[q],by rw [e3,List.map_append];rfl,by simp [h2],?_,fun i hi=>?_⟩
 ·refine List.nodup_append.mpr ⟨nd,by simp,fun a ha c hc=>?_⟩
  have hc':c=q:=by simpa using hc
  subst hc'
  obtain ⟨k,hk,ek⟩:=mem_getD (d:=0) ha
  have:=(h3 k (by omega)).1
  rw [ek] at this
  exact zag this hq
 ·rw [List.length_append,List.length_singleton] at hi
  by_cases hlt:i < rs.length
  ·obtain ⟨a1,a2,a3⟩:=h3 i hlt
   rw [zaB (by omega),zaB hlt]
   refine ⟨?_,a2,a3⟩
   rw [b _ a3]
   exact s _ _ a1
  ·have ei:i=rs.length:=by omega
   subst ei
   rw [zaC,← h2,zaC]
   refine ⟨?_,hBq,hqp⟩
   rw [b _ hqp]
   exact e
theorem RowsAt.ll {K:PySem.W.Frag} {B H:Hp} {p:Addr} {rs:List (List Int)} (R:RowsAt B p rs H):LL K H p rs:=by
 obtain ⟨sb,hp,ps,h1,h2,nd,h3⟩:=R
 exact ⟨ps,SqL.of h1,h2,fun i hi=>(h3 i hi).1⟩
theorem RowsAt.lst {B H:Hp} {p:Addr} {rs:List (List Int)} (R:RowsAt B p rs H):∃ zs:List V,H p=some (.lst zs)∧zs.length=rs.length:=by
 obtain ⟨sb,hp,ps,h1,h2,nd,h3⟩:=R
 exact ⟨_,h1,by rw [List.length_map,h2]⟩
theorem zau {α:Type} {f:Nat→α} {n i:Nat} {d:α} (h:i < n):((List.range n).map f).getD i d=f i:=by
 rw [List.getD_eq_getElem?_getD,List.getElem?_map,List.getElem?_range h]
 rfl
theorem zfV {xs ys:List (List Int)} (hl:xs.length=ys.length) (h:∀ j,j < xs.length→xs.getD j []=ys.getD j []):xs=ys:=by
 refine List.ext_getElem hl fun i h1 h2=>?_
 have:=h i h1
 rw [List.getD_eq_getElem?_getD,List.getD_eq_getElem?_getD,List.getElem?_eq_getElem h1,List.getElem?_eq_getElem h2] at this
 exact this
end L2
namespace L2
open PySem PySem.Spec PyProof.Rows
section
variable {X:Cx} {tg:Expr}
end
section
variable {σ:St} {H:Hp} {i j:Int} {D:Ends} {nx bk ct:St→Hp→Prop} {rt:VK} {n:Nat} {Q:VK}
end
end L2
namespace L2
open PySem PySem.Spec PyProof.Rows
section
variable {X:Cx} {pins:List (Addr×Obj)} {σ:St} {H:Hp} {s:Shared} {h':Heap}
theorem Inv.turnedNew {ch:List Addr} {T:Addr} {o:HO} {t':Nat} (I:Inv X pins σ H s) (k:∀ b ob,b∉ch→s.heap.get? b=some ob→h'.get? b=some ob) (hf:∀ b∈ch,FpOk X pins H b∧∃ ob,h'.get? b=some ob) (hT:s.heap.objs.size≤T)
  (new:zbs X.prog X.w (upd H T o) h' T o):Inv X pins σ (upd H T o) { s with heap:=h',toks:=t' }:=by
 have hn:H T=none:=I.hok.fresh hT
 have ne:∀ b ob,s.heap.get? b=some ob→b≠T:=fun b ob e=>Nat.ne_of_lt (Nat.lt_of_lt_of_le (Heap.lt_size e) hT)
 have nch:∀ b u,H b=some u→b∉ch:=fun b u e z=>by rw [(hf b z).1.1] at e;cases e
 refine I.step (g':=s.gens) (d':=s.drawn) (ch:=ch) (fun b hb=>?_) (fun b ob _ _ hc e _=>k b ob hc e) (fun b ob _ _ hc e _=>⟨ob.slots,k b ob hc e⟩) (fun b ob _ e n=>by rw [zaD (ne b ob e)];exact n)
  (fun b ob hc e=>⟨ob,k b ob hc e⟩) (fun b xs e=>by rw [zaD (zag e hn)];exact e) (fun b ob u e=>by rw [zaD (zag e hn)];exact e) (fun b ps e=>⟨#[],by rw [zaD (zag e hn),e];simp⟩) (fun m hm=>?_) (fun b u e=>?_) I.bare
 ·obtain ⟨⟨f0,f1,f2,f3,f4,f5⟩,_⟩:=hf b hb
  exact ⟨f3,f1,f4,f5⟩
 ·obtain ⟨ob,es,ep,ho,r⟩:=hm
  exact ⟨ob,es,ep,k _ ob (fun z=>(hf _ z).1.2.1 rfl) ho,r⟩
 ·by_cases hb:b=T
  ·subst hb;rw [zar] at e;cases e;exact new
  ·rw [zaD hb] at e
   refine (I.hok b u e).stay (fun c v hc q=>k c v ?_ q) (fun c q=>by rw [zaD (zag q hn)];exact q) fun c xs q=>by rw [zaD (zag q hn)];exact q
   rcases hc with z | z
   ·rw [z];exact nch b u e
   ·exact nch c _ z
theorem Inv.turnedL {ch:List Addr} {t':Nat} (I:Inv X pins σ H s) (k:∀ b ob,b∉ch→s.heap.get? b=some ob→h'.get? b=some ob) (hf:∀ b∈ch,FpOk X pins H b):Inv X pins σ H { s with heap:=h',toks:=t' }:=by
 have nch:∀ b u,H b=some u→b∉ch:=fun b u e z=>by rw [(hf b z).1] at e;cases e
 refine I.step (g':=s.gens) (d':=s.drawn) (ch:=ch) (fun b hb=>?_) (fun b ob _ _ hc e _=>k b ob hc e) (fun b ob _ _ hc e _=>⟨ob.slots,k b ob hc e⟩) (fun b ob _ e n=>n)
  (fun b ob hc e=>⟨ob,k b ob hc e⟩) (fun b xs e=>e) (fun b ob u e=>e) (fun b ps e=>⟨#[],by rw [e];simp⟩) (fun m hm=>?_) (fun b u e=>?_) I.bare
 ·obtain ⟨f0,f1,f2,f3,f4,f5⟩:=hf b hb
  exact ⟨f3,f1,f4,f5⟩
 ·obtain ⟨ob,es,ep,ho,r⟩:=hm
  exact ⟨ob,es,ep,k _ ob (fun z=>(hf _ z).2.1 rfl) ho,r⟩
 ·refine (I.hok b u e).stay (fun c v hc q=>k c v ?_ q) (fun c q=>q) fun c xs q=>q
  rcases hc with z | z
  ·rw [z];exact nch b u e
  ·exact nch c _ z
end
def Itz (K:PySem.W.Frag) (a b:Addr):It :=
 ⟨fun i H=>∃ xs ys x y,SqL K H a xs∧SqL K H b ys∧xs[i]? = some x∧ys[i]? = some y,
  fun i H v H'=>∃ T,H T=none∧v=.ref T∧∀ xs ys,SqL K H a xs→SqL K H b ys→∃ x y,xs[i]? = some x∧ys[i]? = some y∧H'=upd H T (.tup [x,y]),
  fun i H=>∃ xs ys,SqL K H a xs∧SqL K H b ys∧(xs.length≤i∨ys.length≤i)⟩
theorem zjZ {P:Program} {w:World} {K:PySem.W.Frag} {elts:List Expr} {x1:Nat} {tpos:Pos} {l1 l2 z TI TO i1 i2:Addr} (D:ZipApart z TI TO i1 i2 l1 l2) :
  Turn P w K (.Tuple elts x1 tpos) (Itz K l1 l2) [z,TI,TO,i1,i2] z (fun i h=>IsZip h z TI TO .none∧IsPair h TI (.ref i1) (.ref i2)∧(∃ a b,IsPair h TO a b)∧h.IsListIter i1 l1 i∧h.IsListIter i2 l2 i) where
 mem:=by simp
 obj:=fun i h st b hb=>by
  obtain ⟨h1,h2,⟨_,_,h3⟩,⟨o4,h4,c4,d4⟩,⟨o5,h5,c5,d5⟩⟩:=st
  simp only [List.mem_cons,List.not_mem_nil,or_false] at hb
  rcases hb with rfl | rfl | rfl | rfl | rfl
  ·exact ⟨_,h1,fun v z=>by cases z⟩
  ·exact ⟨_,h2,fun v z=>by cases z⟩
  ·exact ⟨_,h3,fun v z=>by cases z⟩
  ·exact ⟨_,h4,fun v z=>by rw [d4] at z;cases z⟩
  ·exact ⟨_,h5,fun v z=>by rw [d5] at z;cases z⟩
 keep:=fun i h h' st k=>by
  obtain ⟨h1,h2,⟨a,b,h3⟩,h4,h5⟩:=st
  exact ⟨k z (by simp) _ h1,k TI (by simp) _ h2,⟨a,b,k TO (by simp) _ h3⟩,h4.at fun o e=>k i1 (by simp) o e,h5.at fun o e=>k i2 (by simp) o e⟩
 item:=by
  intro X hP hw hK hc i pins s σ H E I hf st hg
  subst hP hw hK
  obtain ⟨xs,ys,x,y,hq1,hq2,hx,hy⟩:=hg
  obtain ⟨its1,rv1,p1,hz1⟩:=I.list hq1
  obtain ⟨its2,rv2,p2,hz2⟩:=I.list hq2
  obtain ⟨u1,hu1,ru1⟩:=rv1.get hx
  obtain ⟨u2,hu2,ru2⟩:=rv2.get hy
  obtain ⟨g1,g2,⟨ta,tb,g3⟩,g4,g5⟩:=st
  refine wpAny_pyNext_zip_item D g1 g2 g3 g4 g5 p1.isList p2.isList (x:=u1) (y:=u2) (by simpa using hu1) (by simpa using hu2) fun h' a1 a2 a3 a4 a5 a6 hk=>?_
  refine ⟨_,rfl,?_⟩
  refine wpAny_letOwnedTupleGo_zip a1 fun h2 b1 hs2=>?_
  have hTn:H s.heap.objs.size=none:=I.hok.fresh (Nat.le_refl _)
  have ltz:∀ b∈[z,TI,TO,i1,i2],b≠s.heap.objs.size:=fun b hb=>by
   obtain ⟨⟨o,e⟩⟩:∃ o,s.heap.get? b=some o:=by
    obtain ⟨o4,e4,_⟩:=g4
    obtain ⟨o5,e5,_⟩:=g5
    simp only [List.mem_cons,List.not_mem_nil,or_false] at hb
    rcases hb with rfl | rfl | rfl | rfl | rfl
    ·exact ⟨_,g1⟩
    ·exact ⟨_,g2⟩
    ·exact ⟨_,g3⟩
    ·exact ⟨_,e4⟩
    ·exact ⟨_,e5⟩
   exact Nat.ne_of_lt (Heap.lt_size ‹_›)
  have keep:∀ b ob,b∉[z,TO,i1,i2]→s.heap.get? b=some ob→h2.get? b=some ob:=fun b ob hb e=>by
   simp only [List.mem_cons,List.not_mem_nil,or_false,not_or] at hb
   obtain ⟨n1,n2,n3,n4⟩:=hb
   exact hs2.extBut b ob n1 (hk b ob n1 n2 n3 n4 e)
  have pT:IsPair h2 s.heap.objs.size u1 u2:=hs2.extBut _ _ (ltz z (by simp)).symm a5
  have c4:h2.IsListIter i1 l1 (i+1):=a3.extBut hs2.extBut D.i1z
  have c5:h2.IsListIter i2 l2 (i+1):=a4.extBut hs2.extBut D.i2z
  have c3:IsPair h2 TO u1 u2:=hs2.extBut _ _ D.TOz a2
  have c2:IsPair h2 TI (.ref i1) (.ref i2):=hs2.extBut _ _ D.TIz (hk _ _ D.TIz D.TITO D.TIi1 D.TIi2 g2)
  refine ⟨.ref s.heap.objs.size,upd H s.heap.objs.size (.tup [x,y]),?_,rfl,⟨_,hTn,rfl,fun xs' ys' q1' q2'=>?_⟩,⟨b1,c2,⟨_,_,c3⟩,c4,c5⟩,fun b hb=>?_⟩
  ·refine I.turnedNew (t':=s.toks) (ch:=[z,TO,i1,i2]) keep (fun b hb=>⟨hf b ?_,?_⟩) (Nat.le_refl _) ?_
   ·simp only [List.mem_cons,List.not_mem_nil,or_false] at hb ⊢
    rcases hb with rfl | rfl | rfl | rfl <;> simp
   ·obtain ⟨o4,e4,_⟩:=c4
    obtain ⟨o5,e5,_⟩:=c5
    simp only [List.mem_cons,List.not_mem_nil,or_false] at hb
    rcases hb with rfl | rfl | rfl | rfl
    ·exact ⟨_,b1⟩
    ·exact ⟨_,c3⟩
    ·exact ⟨_,e4⟩
    ·exact ⟨_,e5⟩
   ·exact ⟨by show 2≤sizeLine;rw [sizeLine_eq];decide,[u1,u2],.cons ru1 (.cons ru2 .nil),_,pT,rfl,_,rfl⟩
  ·rw [I.list_inj q1' hq1,I.list_inj q2' hq2]
   exact ⟨x,y,hx,hy,rfl⟩
  ·rw [zaD (ltz b hb)]
   exact (hf b hb).1
 done:=by
  intro X hP hw hK hc i pins s σ H E I hf st hg
  subst hP hw hK
  obtain ⟨xs,ys,hq1,hq2,hx⟩:=hg
  obtain ⟨its1,rv1,p1,hz1⟩:=I.list hq1
  obtain ⟨its2,rv2,p2,hz2⟩:=I.list hq2
  obtain ⟨g1,g2,⟨ta,tb,g3⟩,g4,g5⟩:=st
  have hl1:=rv1.length
  have hl2:=rv2.length
  refine wpAny_pyNext_zip_end (I.ok.hd hc) D g1 g2 g3 g4 g5 p1.isList p2.isList ?_ fun h' hk=>⟨rfl,I.turnedL (t':=s.toks) (ch:=[z,TI,TO,i1,i2]) (fun b ob hb e=>?_) hf⟩
  ·rcases hx with hx | hx
   ·exact .inl (Array.getElem?_eq_none (by simp;omega))
   ·exact .inr (Array.getElem?_eq_none (by simp;omega))
  ·simp only [List.mem_cons,List.not_mem_nil,or_false,not_or] at hb
   obtain ⟨n1,n2,n3,n4,n5⟩:=hb
   exact hk b ob n1 n3 n4 n5 e
 self:=fun _ _ _ _ _ st h=>wpAny_pyIter_zip st.1 h
section
variable {X:Cx} {K:PySem.W.Frag}
def iZip (K:PySem.W.Frag) (ta:TA):TI:=fun σ H R=>ta σ H fun vs H1=>∃ a b xs ys,vs=[.ref a,.ref b]∧SqL K H1 a xs∧SqL K H1 b ys∧R (Itz K a b) H1
theorem zi2 {a b:Expr} {ta:TA} {p pos tpos:Pos} {elts:List Expr} {x1:Nat} (hK:X.K=K) (hg:Gl X "zip") (hm:X.mg "zip" = none) (ha:PA X [a,b] ta) (hs:starEach [a,b] X.env=(false,eval a X.env)::starEach [b] X.env:=by rfl)
  (hs2:(backTo pos (starEach [b] X.env)).any (·.1)=false:=by rfl):PI X (.Tuple elts x1 tpos) (.Call (.Name "zip" p) [a,b] [] pos) (iZip K ta):=by
 subst hK
 intro pins s σ H R I h
 refine Call_ (zda I hg hm boot_zip (PyProof.Rows.callWith_type1 (thn (ha pos pins s σ H _ I h) fun us s1 ⟨vs,H1,I1,r1,q1⟩=>?_) hs hs2))
 obtain ⟨l1,l2,xs,ys,e,q1,q2,q⟩:=q1
 subst e
 obtain ⟨v1,v2,rfl,r1,r2⟩:=Vals.two r1
 cases r1
 cases r2
 obtain ⟨its1,rv1,p1,hz1⟩:=I1.list q1
 obtain ⟨its2,rv2,p2,hz2⟩:=I1.list q2
 refine call_zip_2 p1.isList p2.isList fun h' hz hTI hTO hi1 hi2 hsz hk=>?_
 refine wpAny_pyIter_zip hz ?_
 obtain ⟨o1,e1,_⟩:=p1.isList
 obtain ⟨o2,e2,_⟩:=p2.isList
 have L1:=Heap.lt_size e1
 have L2:=Heap.lt_size e2
 have I2:Inv X pins σ H1 { s1 with heap:=h' }:=I1.kept (t':=s1.toks) hk
 have nn:∀ k l:Nat,k≠l→s1.heap.objs.size+k≠s1.heap.objs.size+l:=fun k l hkl z=>hkl (Nat.add_left_cancel z)
 have n0:∀ k:Nat,0 < k→s1.heap.objs.size≠s1.heap.objs.size+k:=fun k hk=>by omega
 have D:ZipApart (s1.heap.objs.size+4) (s1.heap.objs.size+2) (s1.heap.objs.size+3) s1.heap.objs.size (s1.heap.objs.size+1) l1 l2:=by
  have m1:∀ k:Nat,l1≠s1.heap.objs.size+k:=fun k=>Nat.ne_of_lt (Nat.lt_of_lt_of_le L1 (Nat.le_add_right _ _))
  have m2:∀ k:Nat,l2≠s1.heap.objs.size+k:=fun k=>Nat.ne_of_lt (Nat.lt_of_lt_of_le L2 (Nat.le_add_right _ _))
  exact ⟨nn 2 4 (by decide),nn 3 4 (by decide),n0 4 (by decide),nn 1 4 (by decide),nn 2 3 (by decide),(n0 2 (by decide)).symm,nn 2 1 (by decide),(n0 3 (by decide)).symm,nn 3 1 (by decide),n0 1 (by decide),m1 4,m1 3,m1 0,m1 1,m2 4,m2 3,m2 0,m2 1⟩
 refine ⟨s1.heap.objs.size+4,_,_,Itz X.K l1 l2,H1,rfl,I2,zjZ D,⟨hz,hTI,⟨_,_,hTO⟩,hi1,hi2⟩,fun b hb=>?_,q⟩
 have hge:s1.heap.objs.size≤b:=by
  simp only [List.mem_cons,List.not_mem_nil,or_false] at hb
  rcases hb with rfl | rfl | rfl | rfl | rfl
  ·exact Nat.le_add_right _ _
  ·exact Nat.le_add_right _ _
  ·exact Nat.le_add_right _ _
  ·exact Nat.le_refl _
  ·exact Nat.le_add_right _ _
 exact I1.fpOk hge (I1.hok.fresh hge)
theorem zfo {es:List Expr} {k:Nat} {t:TGs} {n:Nat} {pos:Pos} (hK:X.K=K) (hc:X.calm=true) (h:PGs X es t)
  (hn:(assignEach es X.env).length=n:=by rfl) (hst:(assignEach es X.env).findIdx? (·.1)=none:=by rfl):PG X (.Tuple es k pos) (gTup K n t):=hK▸zl5 hc h hn hst
end
section
variable {σ:St} {H:Hp} {D:Ends} {nx bk ct:St→Hp→Prop} {rt:VK} {K:PySem.W.Frag} {Q:VK}
theorem zi3 {a b:Addr} {xs ys:List V} {P:Addr→Addr→Prop} (h1:SqL K H a xs) (h2:SqL K H b ys) (q:P a b):∃ a' b' xs ys,[V.ref a,V.ref b]=[.ref a',.ref b']∧SqL K H a' xs∧SqL K H b' ys∧P a' b':=⟨a,b,xs,ys,rfl,h1,h2,q⟩
end
theorem zmy {b:Bool} {t u:TS} {nx bk ct:St→Hp→Prop} {rt:VK} {σ:St} {H:Hp} (M:St→Hp→Prop) (h1:b=true→∀ nx':St→Hp→Prop,(∀ σ' H',M σ' H'→nx' σ' H')→t ⟨nx',rt,bk,ct⟩ σ H)
  (h2:b=false→∀ nx':St→Hp→Prop,(∀ σ' H',M σ' H'→nx' σ' H')→u ⟨nx',rt,bk,ct⟩ σ H) (rest:∀ σ' H',M σ' H'→nx σ' H'):if b=true then t ⟨nx,rt,bk,ct⟩ σ H else u ⟨nx,rt,bk,ct⟩ σ H:=by
 cases b with
 | true=>exact h1 rfl nx rest
 | false=>exact h2 rfl nx rest
theorem zgB {t u:TS} {nx bk ct:St→Hp→Prop} {rt:VK} {σ:St} {H:Hp} (M:St→Hp→Prop) (h1:∀ nx':St→Hp→Prop,(∀ σ' H',M σ' H'→nx' σ' H')→t ⟨nx',rt,bk,ct⟩ σ H)
  (h2:∀ σ' H',M σ' H'→u ⟨nx,rt,bk,ct⟩ σ' H'):tSeq t u ⟨nx,rt,bk,ct⟩ σ H:=h1 _ h2
section
variable {X:Cx} {K:PySem.W.Frag}
def eqVs:List V→List V→Bool
 | [],[]=>true
 | x::xs,y::ys=>eqV x y && eqVs xs ys
 | _,_=>false
theorem eqVs_len:∀ {xs ys:List V},xs.length≠ys.length→eqVs xs ys=false
 | [],[],h=>absurd rfl h
 | [],_::_,_=>rfl
 | _::_,[],_=>rfl
 | x::xs,y::ys,h=>by
   unfold eqVs
   rw [eqVs_len (xs:=xs) (ys:=ys) (fun e=>h (by simp [e])),Bool.and_false]
theorem eqVs_all:∀ {xs ys:List V},xs.length=ys.length→(List.range xs.length).all (fun j=>eqV (xs.getD j .non) (ys.getD j .non))=eqVs xs ys
 | [],[],_=>rfl
 | x::xs,y::ys,h=>by
   have ih:=eqVs_all (xs:=xs) (ys:=ys) (by simpa using h)
   rw [List.length_cons,List.range_succ_eq_map,List.all_cons,List.all_map]
   unfold eqVs
   rw [← ih]
   rfl
theorem eqVs_ints:∀ {xs ys:List Int},eqVs (xs.map V.int) (ys.map V.int)=decide (xs=ys)
 | [],[]=>rfl
 | [],_::_=>rfl
 | _::_,[]=>rfl
 | x::xs,y::ys=>by
   rw [List.map_cons,List.map_cons]
   unfold eqVs
   rw [eqVs_ints]
   by_cases h:x=y
   ·subst h
    simp [eqV]
   ·simp [eqV,h]
def rEqL (K:PySem.W.Frag):R2:=fun x y H Q=>∃ a b xs ys,x=.ref a∧y=.ref b∧SqL K H a xs∧SqL K H b ys∧xs.all flatV=true∧ys.all flatV=true∧Q (.bl (eqVs xs ys)) H
theorem zmz (hu:X.A.units < cLine):OpR X (compareOp .Eq) (rEqL X.K):=by
 intro pins s σ H x y v u Q I rx ry h
 obtain ⟨a,b,xs,ys,rfl,rfl,h1,h2,f1,f2,q⟩:=h
 cases rx
 cases ry
 obtain ⟨its1,r1,p1,z1⟩:=I.list h1
 obtain ⟨its2,r2,p2,z2⟩:=I.list h2
 have l1:=r1.length
 have l2:=r2.length
 by_cases hl:xs.length=ys.length
 ·refine SeqAt.eq_listAt (e:=fun j=>eqV (xs.getD j .non) (ys.getD j .non)) p1.isList p2.isList (by simp;omega) hu (fun j h1 h2=>?_) ⟨.bl _,H,I,rfl,?_⟩
  ·simp only [List.size_toArray] at h1 h2
   have e1:xs[j]? = some (xs.getD j .non):=by rw [List.getD_eq_getElem?_getD,List.getElem?_eq_getElem (by omega)];rfl
   have e2:ys[j]? = some (ys.getD j .non):=by rw [List.getD_eq_getElem?_getD,List.getElem?_eq_getElem (by omega)];rfl
   obtain ⟨u1,a1,b1⟩:=r1.get e1
   obtain ⟨u2,a2,b2⟩:=r2.get e2
   have c1:its1.toArray[j]=u1:=by simpa [List.getElem?_eq_getElem h1] using a1
   have c2:its2.toArray[j]=u2:=by simpa [List.getElem?_eq_getElem h2] using a2
   rw [c1,c2]
   exact ziI b1 b2 (List.all_eq_true.mp f1 _ (List.mem_of_getElem? e1)) (List.all_eq_true.mp f2 _ (List.mem_of_getElem? e2))
  ·have e:its1.toArray.size=xs.length:=by simp;omega
   rw [e,eqVs_all hl]
   exact q
 ·refine SeqAt.eq_list_lengthsAt p1.isList p2.isList (by simp;omega) hu ⟨.bl false,H,I,rfl,?_⟩
  rw [← eqVs_len hl]
  exact q
def zj0 (K:PySem.W.Frag):R2:=fun x y H Q=>rEq x y H Q∨rEqL K x y H Q
theorem zly (h:X.K=K) (hu:X.A.units < cLine):OpR X (compareOp .Eq) (zj0 K):=op_eq.or (h▸zmz hu)
end
section
variable {H:Hp} {K:PySem.W.Frag} {Q:VK} {i j:Int}
theorem zlz (q:Q (.bl (decide (i=j))) H):zj0 K (.int i) (.int j) H Q:=.inl (znd q)
theorem zlA {a b:Bool} (q:Q (.bl (decide (a=b))) H):zj0 K (.bl a) (.bl b) H Q:=.inl (znf q)
theorem zlB {x:Int} {xs:List Int}:inV (.int x) (xs.map V.int)=decide (x∈xs):=by
 unfold inV
 rw [Bool.eq_iff_iff,List.any_eq_true]
 simp only [List.mem_map,decide_eq_true_eq]
 constructor
 ·rintro ⟨v,⟨y,hy,rfl⟩,e⟩
  have e':y=x:=by simpa [eqV] using e
  rw [← e'];exact hy
 ·intro h
  exact ⟨_,⟨x,h,rfl⟩,by simp [eqV]⟩
theorem zng {a:Addr} {xs:List Int} (h:SqL K H a (xs.map V.int)) (q:Q (.bl (decide (i∈xs))) H):rIn K false (.int i) (.ref a) H Q :=
 ⟨a,_,rfl,.inl h,rfl,by simp [flatV],by rw [zlB];exact q⟩
end
end L2
namespace L2
open PySem PySem.Spec PyProof.Rows
def zdL (a:Option Int) (x:Int):Option Int:=match a with
 | none=>some x
 | some m=>if x > m then some x else some m
theorem zef {m x:Int}:zdL (some m) x=if m < x then some x else some m:=rfl
def mxOf (a:Option Int) (ns:List Int):Option Int:=ns.foldl zdL a
def zmA (h:Heap) (S:Addr) (a:Option Int):Prop:=∃ (c:Nat),match a with
 | none=>h.get? S=some { cls:=.type "list",data:=.seq #[] c }
 | some m=>∃ t,h.get? S=some { cls:=.type "list",data:=.seq #[.int m t,.int m t] c }
section
variable {prog:Program} {w:World} {A:Around} {R:Result→Shared→Prop}
theorem zlC {I l S:Addr} {us:List Value} {ns:List Int} {d:Value} (hh:A.handled=none) (hlI:l≠I) (hSI:S≠I) (hSl:S≠l) (ru:Vals (ns.map V.int) us) :
  ∀ (k j:Nat) (a:Option Int) (s:Shared),j+k=ns.length→s.heap.IsListIter I l j→s.heap.IsList l us.toArray→zmA s.heap S a →
   (∀ v h' tk,(match mxOf a (ns.drop j) with | none=>v=d | some m=>∃ t,v=.int m t)→(∀ b o,b≠I→b≠S→s.heap.get? b=some o→h'.get? b=some o)→R (.ok (.ret v)) { s with heap:=h',toks:=tk }) →
   codeAny (model prog w) A (.builtin "max.loop" ⟨[.ref I,.none,.ref S],[(Str.ofString "default",d)]⟩) R s:=by
 have lus:us.length=ns.length:=by have:=ru.length;rw [List.length_map] at this;exact this.symm
 have W:=Walks.list (prog:=prog) (w:=w) (A:=A.in1) (show A.in1.handled=none from hh) I l hlI us.toArray
 have hname:(toString "max"++toString ".loop" : String) = "max.loop":=by decide
 intro k
 induction k with
 | zero =>
   intro j a s hj hit hls hb hR
   have ej:j=us.toArray.size:=by simp;omega
   refine codeAny_builtin (b:=Builtin.«max.loop») PySem.F.entry_max_loop ?_
   rw [show A.under (.builtin "max.loop" _)=A.in1 from Around.under_plainId PySem.F.plain_max_loop _]
   have ed:mxOf a (ns.drop j)=a:=by rw [List.drop_eq_nil_of_le (by omega)];rfl
   rw [ed] at hR
   obtain ⟨c,hb⟩:=hb
   cases a with
   | none =>
     show wpAny _ A.in1 ((seqItems? (.ref S)) >>= _) _ _ _
     refine wpAny_bind (wpAny_seqItems (o:={ cls:=.type "list",data:=.seq #[] c }) hb rfl ?_)
     refine wpAny_bind (m:=tryCatch (pyNext (.ref I)) _) (wpAny_tryCatch (W.done s _ _ (ej▸⟨hit,hls⟩) fun h' tk kk=>?_))
     refine wpAny_bind (wpAny_rule (wpAny_pure ?_))
     exact hR d h' tk rfl fun b o h1 _ e=>kk b o (by simpa using h1) e
   | some m =>
     obtain ⟨t,hb⟩:=hb
     show wpAny _ A.in1 ((seqItems? (.ref S)) >>= _) _ _ _
     refine wpAny_bind (wpAny_seqItems (o:={ cls:=.type "list",data:=.seq #[.int m t,.int m t] c }) hb rfl ?_)
     refine wpAny_bind (m:=tryCatch (pyNext (.ref I)) _) (wpAny_tryCatch (W.done s _ _ (ej▸⟨hit,hls⟩) fun h' tk kk=>?_))
     have hb':=kk S _ (by simpa using hSI) hb
     show wpAny _ A.in1 ((updateSeq S fun _=>#[]) >>= _) _ _ _
     refine wpAny_bind (wpAny_updateSeq hb' rfl (wpAny_bind (wpAny_letGo (wpAny_pure ?_))))
     refine hR (.int m t) _ tk ⟨t,rfl⟩ fun b o h1 h2 e=>?_
     exact (Heap.get?_update_other _ _ (Ne.symm h2)).trans (kk b o (by simpa using h1) e)
 | succ k ih =>
   intro j a s hj hit hls hb hR
   have hjn:j < ns.length:=by omega
   have hlt:j < us.toArray.size:=by simp;omega
   have dj:ns.drop j=ns[j]::ns.drop (j+1):=List.drop_eq_getElem_cons hjn
   obtain ⟨u,hu,ru'⟩:=ru.get (i:=j) (x:=.int ns[j]) (by rw [List.getElem?_map,List.getElem?_eq_getElem hjn];rfl)
   obtain ⟨tu,eu⟩:=ru'
   refine codeAny_builtin (b:=Builtin.«max.loop») PySem.F.entry_max_loop ?_
   rw [show A.under (.builtin "max.loop" _)=A.in1 from Around.under_plainId PySem.F.plain_max_loop _]
   obtain ⟨c,hb⟩:=hb
   cases a with
   | none =>
     show wpAny _ A.in1 ((seqItems? (.ref S)) >>= _) _ _ _
     refine wpAny_bind (wpAny_seqItems (o:={ cls:=.type "list",data:=.seq #[] c }) hb rfl ?_)
     refine wpAny_bind (m:=tryCatch (pyNext (.ref I)) _) (wpAny_tryCatch (W.item j s _ _ hlt ⟨hit,hls⟩ fun v h' tk hv st' kk=>?_))
     have ev:v=.int ns[j] tu:=by
      have hv':us.toArray[j]? = some v:=hv
      rw [List.getElem?_toArray,hu] at hv'
      rw [← eu];exact (Option.some.inj hv').symm
     subst ev
     have hb':=kk S _ (by simpa using hSI) hb
     show wpAny _ A.in1 ((updateSeq S fun _=>#[Value.int ns[j] tu,Value.int ns[j] tu]) >>= _) _ _ _
     refine wpAny_bind (wpAny_updateSeq hb' rfl ?_)
     rw [hname]
     have o1:∀ b o,b≠S→h'.get? b=some o→(h'.update S (Obj.mapSeq fun _=>#[Value.int ns[j] tu,Value.int ns[j] tu])).get? b=some o:=fun b o hbS e=>(Heap.get?_update_other _ _ (Ne.symm hbS)).trans e
     refine wpAny_pure ⟨plainId_quiet PySem.F.plain_max_loop _,ih (j+1) (some ns[j]) _ (by omega) (st'.1.at fun o e=>o1 I o (Ne.symm hSI) e) (st'.2.at fun o e=>o1 l o (Ne.symm hSl) e) ⟨_,tu,Heap.get?_update_self _ hb' rfl⟩ fun v' h'' tk'' hv' k''=>?_⟩
     refine hR v' h'' tk'' ?_ fun b o h1 h2 e=>k'' b o h1 h2 (o1 b o h2 (kk b o (by simpa using h1) e))
     rw [dj]
     exact hv'
   | some m =>
     obtain ⟨t,hb⟩:=hb
     show wpAny _ A.in1 ((seqItems? (.ref S)) >>= _) _ _ _
     refine wpAny_bind (wpAny_seqItems (o:={ cls:=.type "list",data:=.seq #[.int m t,.int m t] c }) hb rfl ?_)
     refine wpAny_bind (m:=tryCatch (pyNext (.ref I)) _) (wpAny_tryCatch (W.item j s _ _ hlt ⟨hit,hls⟩ fun v h' tk hv st' kk=>?_))
     have ev:v=.int ns[j] tu:=by
      have hv':us.toArray[j]? = some v:=hv
      rw [List.getElem?_toArray,hu] at hv'
      rw [← eu];exact (Option.some.inj hv').symm
     subst ev
     have hb':=kk S _ (by simpa using hSI) hb
     refine wpAny_bind (m:=tryCatch (holding [Value.int ns[j] tu,Value.int ns[j] tu] (richCompare .Gt (Value.int ns[j] tu) (.int m t) >>= _)) _) (wpAny_tryCatch (wpAny_holding (wpAny_bind ?_)))
     refine (gt_int ?_:wpAny (model prog w) A.in1 (compareOp .Gt (.int ns[j] tu) (.int m t)) _ _ _)
     refine wpAny_bind (wpAny_holding (wpAny_truthy_bool (wpAny_bind (wpAny_letGo (wpAny_pure ?_)))))
     have o1:∀ b o,b≠S→h'.get? b=some o→(h'.update S (Obj.mapSeq fun _=>#[Value.int ns[j] tu,Value.int ns[j] tu])).get? b=some o:=fun b o hbS e=>(Heap.get?_update_other _ _ (Ne.symm hbS)).trans e
     by_cases hgt:m < ns[j]
     ·rw [show decide (m < ns[j])=true from decide_eq_true hgt]
      simp only [if_true]
      refine wpAny_bind (wpAny_updateSeq hb' rfl (wpAny_bind (wpAny_letGo ?_)))
      rw [hname]
      refine wpAny_pure ⟨plainId_quiet PySem.F.plain_max_loop _,ih (j+1) (some ns[j]) _ (by omega) (st'.1.at fun o e=>o1 I o (Ne.symm hSI) e) (st'.2.at fun o e=>o1 l o (Ne.symm hSl) e) ⟨_,tu,Heap.get?_update_self _ hb' rfl⟩ fun v' h'' tk'' hv' k''=>?_⟩
      refine hR v' h'' tk'' ?_ fun b o h1 h2 e=>k'' b o h1 h2 (o1 b o h2 (kk b o (by simpa using h1) e))
      rw [dj]
      have e1:mxOf (some m) (ns[j]::ns.drop (j+1))=mxOf (some ns[j]) (ns.drop (j+1)):=by
       show mxOf (zdL (some m) ns[j]) _=_
       rw [zef,if_pos hgt]
      rw [e1];exact hv'
     ·rw [show decide (m < ns[j])=false from decide_eq_false hgt]
      simp only [Bool.false_eq_true,if_false]
      refine wpAny_bind (wpAny_letGo ?_)
      rw [hname]
      refine wpAny_pure ⟨plainId_quiet PySem.F.plain_max_loop _,ih (j+1) (some m) _ (by omega) st'.1 st'.2 ⟨c,t,hb'⟩ fun v' h'' tk'' hv' k''=>?_⟩
      refine hR v' h'' tk'' ?_ fun b o h1 h2 e=>k'' b o h1 h2 (kk b o (by simpa using h1) e)
      rw [dj]
      have e1:mxOf (some m) (ns[j]::ns.drop (j+1))=mxOf (some m) (ns.drop (j+1)):=by
       show mxOf (zdL (some m) ns[j]) _=_
       rw [zef,if_neg hgt]
      rw [e1];exact hv'
end
theorem zi4 (a d:Value):argsOk "max" ⟨[a],[(Str.ofString "default",d)]⟩:=by unfold argsOk;kernel_rfl
section
variable {X:Cx} {K:PySem.W.Frag}
def zeg (K:PySem.W.Frag) (x y:V) (H:Hp) (Q:VK):Prop:=∃ a ns d,x=.ref a∧y=.int d∧SqL K H a (ns.map V.int)∧Q (.int ((mxOf none ns).getD d)) H
def zj1 (K:PySem.W.Frag) (vs zs:List V) (H:Hp) (Q:VK):Prop:=match vs,zs with
 | [x],[y]=>zeg K x y H Q
 | _,_=>False
def zmB (K:PySem.W.Frag) (ta td:TE):TE:=fun σ H Q=>ta σ H fun x H1=>td σ H1 fun y H2=>zeg K x y H2 Q
theorem zeO {a d:Expr} {ta td:TE} {p pos kpos:Pos} (hK:X.K=K) (hc:X.calm=true) (hg:Gl X "max") (hm:X.mg "max" = none) (ha:PE X a ta) (hd:PE X d td)
  (hs:starEach [a] X.env=(false,eval a X.env)::starEach [] X.env:=by rfl) (hb:bootBuiltins "max" = some (.builtin "max"):=by rfl)
  (he:backTo pos (starEach [a] X.env)=(false,eval a X.env)::backTo pos (starEach [] X.env):=by rfl) (hpl:(backTo pos (starEach [a] X.env)).any (·.1)=false:=by rfl) :
  PE X (.Call (.Name "max" p) [a] [⟨some "default",d,kpos⟩] pos) (zmB K ta td):=by
 subst hK
 intro pins s σ H Q I h
 refine wpAny_Call_Name_kw (zda I hg hm hb ?_ (by decide) (by decide))
 have h':zfh ta tNil σ H fun vs H1=>zfh td tNil σ H1 fun zs H2=>zj1 X.K vs zs H2 Q:=h
 refine callWith_kw (thn ((zaa ha pa_nil hs) pos pins s σ H _ I h') fun us s1 ⟨vs,H1,I1,r1,q1⟩=>thn ((ziE hd pk_nil) pos pins s1 σ H1 _ I1 q1) fun ws s2 ⟨zs,H2,I2,r2,q2⟩=>?_) he hpl rfl rfl
 obtain ⟨x,y,rfl,rfl,l,ns,dd,rfl,rfl,hl,q⟩:∃ x y,vs=[x]∧zs=[y]∧zeg X.K x y H2 Q:=by
  match vs,zs,q2 with
  | [x],[y],q2=>exact ⟨x,y,rfl,rfl,q2⟩
 obtain ⟨u,rfl,ru⟩:=r1.one
 obtain ⟨v,rfl,rv⟩:=r2.one
 cases ru
 obtain ⟨td',rfl⟩:=rv
 obtain ⟨its,rvs,pl,hz⟩:=I2.list hl
 refine kmk_tree PySem.F.kind_max PySem.F.plain_max PySem.F.entry_max (zi4 _ _) ?_
 have hname:(toString "max"++toString ".loop" : String) = "max.loop":=by decide
 refine wpAny_bind (m:=Builtin.Builtins.bindParams "max" ["key","default"] 0 ⟨[],[(Str.ofString "default",Value.int dd td')]⟩) (wpAny_of_eq (show _=pure [none,some (Value.int dd td')] from rfl) ?_)
 refine wpAny_bind (wpAny_pure (wpAny_bind (wpAny_pyIter_list pl.isList (wpAny_bind (wpAny_newObj_type ?_)))))
 rw [hname]
 have L:=pl.isList
 obtain ⟨ol,el,_⟩:=id L
 have Ll:=Heap.lt_size el
 have hsz:(s2.heap.push { cls:=.type "list_iterator",data:=.fields #[.ref l,.int 0 0] }).objs.size=s2.heap.objs.size+1:=Heap.size_push ..
 refine wpAny_pure ⟨plainId_quiet PySem.F.plain_max_loop _,zlC (I:=s2.heap.objs.size) (l:=l) (us:=its) (ns:=ns) (I2.ok.hd hc) (Nat.ne_of_lt Ll) (by rw [hsz];exact Nat.succ_ne_self _) (by rw [hsz];exact Nat.ne_of_gt (Nat.lt_succ_of_lt Ll)) rvs ns.length 0 none _ (by omega) ?_ ?_ ?_ ?_⟩
 ·exact ⟨_,Heap.get?_push_of_some _ (Heap.get?_push_size _ rfl),rfl,rfl⟩
 ·exact L.at fun o e=>Heap.get?_push_of_some _ (Heap.get?_push_of_some _ e)
 ·exact ⟨0,Heap.get?_push_size _ rfl⟩
 ·intro v h' tk hv kk
  refine ⟨.int ((mxOf none ns).getD dd),H2,I2.kept (fun b o e=>kk b o (Nat.ne_of_lt (Heap.lt_size e)) (by rw [hsz];exact Nat.ne_of_lt (Nat.lt_succ_of_lt (Heap.lt_size e))) (Heap.get?_push_of_some _ (Heap.get?_push_of_some _ e))),?_,q⟩
  rw [List.drop_zero] at hv
  cases em:mxOf none ns with
  | none=>rw [em] at hv;exact ⟨td',hv⟩
  | some m=>rw [em] at hv;exact hv
end
section
variable {σ:St} {H:Hp} {Q:VK} {K:PySem.W.Frag} {ta td:TE}
theorem zkO (h:ta σ H fun x H1=>td σ H1 fun y H2=>zeg K x y H2 Q):zmB K ta td σ H Q:=h
theorem zhg {a:Addr} {ns:List Int} {d:Int} (h:SqL K H a (ns.map V.int)) (q:Q (.int ((mxOf none ns).getD d)) H):zeg K (.ref a) (.int d) H Q:=⟨a,ns,d,rfl,rfl,h,q⟩
end
end L2
namespace Prf
open PySem PySem.Spec PyProof.Rows L2
def zbA (ns:List Int) (k:Int):Int:=if (ns.length:Int)=0 then 0 else ns.getD (k % ns.length).toNat 0+k / ns.length
def lexB:List Int→List Int→Bool
 | x::xs,y::ys=>if x=y then lexB xs ys else decide (x < y)
 | _,_=>false
def zcP (xs ys:List Int):Bool:=if (xs.length:Int)=ys.length then lexB xs ys else decide ((xs.length:Int) < ys.length)
theorem map_ref_inj:∀ {ps qs:List Addr},ps.map V.ref=qs.map V.ref→ps=qs
 | [],[],_=>rfl
 | p::ps,q::qs,h=>by
   rw [List.map_cons,List.map_cons] at h
   obtain ⟨h1,h2⟩:=List.cons.inj h
   rw [V.ref.inj h1,map_ref_inj h2]
structure SetM (m:Int) (xs:List Int):Prop where
 up:xs.Pairwise (· < ·)
 rng:∀ x∈xs,1≤x∧x≤m
theorem SetM.len {m:Int}:∀ {xs:List Int} {l:Int},xs.Pairwise (· < ·)→(∀ x∈xs,l < x∧x≤m)→l≤m→(xs.length:Int)≤m-l
 | [],l,_,_,h=>by simp;omega
 | x::r,l,hp,hb,h=>by
   obtain ⟨h1,h2⟩:=List.pairwise_cons.mp hp
   have hx:=hb x List.mem_cons_self
   have:=SetM.len (l:=x) h2 (fun y hy=>⟨h1 y hy,(hb y (List.mem_cons_of_mem _ hy)).2⟩) hx.2
   rw [List.length_cons]
   omega
theorem SetM.few {m:Int} {xs:List Int} (h:SetM m xs) (m0:0≤m):(xs.length:Int)≤m:=by
 have:=SetM.len (l:=0) h.up (fun x hx=>by have:=h.rng x hx;omega) m0
 omega
def zbX (hs:List Int) (r:List Int) (n:Int) (x:Int):Int:=if r.getD 0 0≠hs.getD (x-1).toNat 0∧n < r.getD 1 0 then n+1 else n
def zbq (hs:List Int) (r:List Int) (xs:List Int):Int:=xs.foldl (zbX hs r) 0
def zcQ (hs:List Int) (rs:List (List Int)) (xs:List Int):Int:=(rs.map fun r=>zbq hs r xs).sum
theorem zeh (hs:List Int) (rs:List (List Int)) (xs:List Int) (i:Nat) (h:i < rs.length):zcQ hs (rs.take (i+1)) xs=zcQ hs (rs.take i) xs+zbq hs (rs.getD i []) xs:=by
 unfold zcQ
 rw [List.take_add_one,List.getElem?_eq_getElem h,List.map_append,List.sum_append,List.getD_eq_getElem?_getD,List.getElem?_eq_getElem h]
 simp
theorem zdx {xs:List Int} {i:Nat} {x:V} (hx:(xs.map V.int)[i]? = some x):i < xs.length∧x=.int (xs.getD i 0):=by
 have hi:i < xs.length:=by
  have:=(List.getElem?_eq_some_iff.mp hx).1
  simpa using this
 refine ⟨hi,?_⟩
 rw [List.getElem?_map,List.getElem?_eq_getElem hi] at hx
 rw [List.getD_eq_getElem?_getD,List.getElem?_eq_getElem hi]
 exact (Option.some.inj hx).symm
theorem zgC {xs:List Addr} {i:Nat} {x:V} (hx:(xs.map V.ref)[i]? = some x):i < xs.length∧x=.ref (xs.getD i 0):=by
 have hi:i < xs.length:=by
  have:=(List.getElem?_eq_some_iff.mp hx).1
  simpa using this
 refine ⟨hi,?_⟩
 rw [List.getElem?_map,List.getElem?_eq_getElem hi] at hx
 rw [List.getD_eq_getElem?_getD,List.getElem?_eq_getElem hi]
 exact (Option.some.inj hx).symm
theorem getD_mem {α:Type} {xs:List α} {d:α} {i:Nat} (h:i < xs.length):xs.getD i d∈xs:=by
 rw [List.getD_eq_getElem?_getD,List.getElem?_eq_getElem h]
 exact List.getElem_mem h
end Prf
namespace L2
open PySem PySem.Spec PyProof.Rows
section
variable {X:Cx} {K:PySem.W.Frag}
def cMin2:List V→Hp→VK→Prop:=fun xs H Q=>∃ i j,xs=[.int i,.int j]∧Q (.int (if j < i then j else i)) H
def cMax2:List V→Hp→VK→Prop:=fun xs H Q=>∃ i j,xs=[.int i,.int j]∧Q (.int (if j > i then j else i)) H
theorem zdy (hc:X.calm=true):zcs X (.builtin "min") cMin2:=ziz hc
theorem zhP (hc:X.calm=true):zcs X (.builtin "max") cMax2:=ziy hc
def CBig (i j:Int):Prop:=0 < j∧j < 2 ^ 200
theorem op_fdivB:OpR X (binaryOp .FloorDiv) (rI CBig fun i j=>.int (i / j)):=opI fun i j _ _ _ _ _ hc q=>by
 obtain ⟨h1,h2⟩:=hc
 have hl:j.natAbs.log2 < 9000:=by
  have h3:j.natAbs < 2 ^ 200:=by
   have e:(j.natAbs:Int)=j:=Int.natAbs_of_nonneg (by omega)
   have:(j.natAbs:Int) < ((2 ^ 200:Nat):Int):=by rw [e];exact h2
   exact Int.ofNat_lt.mp this
  have h4:j.natAbs.log2 < 200:=(Nat.log2_lt (by omega)).mpr h3
  omega
 refine floordiv_int (by omega) ?_ (.inl (PyProof.noPylong_of_log2 hl))
 rw [Int.fdiv_eq_ediv_of_nonneg i (by omega)]
 exact q
end
section
variable {σ:St} {H:Hp} {Q:VK} {K:PySem.W.Frag} {i j:Int} {p:Addr} {xs:List V} {ta:TA} {te:TE} {tl th:TO}
theorem zkP (q:Q (.int (if j < i then j else i)) H):cMin2 [.int i,.int j] H Q:=⟨i,j,rfl,q⟩
theorem zkQ (q:Q (.int (if j > i then j else i)) H):cMax2 [.int i,.int j] H Q:=⟨i,j,rfl,q⟩
theorem zkR {f:Int→Int→V} (c1:0 < j) (c2:j < 2 ^ 200) (q:Q (f i j) H):rI CBig f (.int i) (.int j) H Q:=⟨i,j,rfl,rfl,⟨c1,c2⟩,q⟩
theorem r_sl {r:V→Option Int→Option Int→Hp→VK→Prop} (h:te σ H fun x H1=>tl σ H1 fun l H2=>th σ H2 fun u H3=>r x l u H3 Q):tSl r te tl th σ H Q:=h
theorem zi5 {QO:Option Int→Hp→Prop} (h:QO none H):tNoPart σ H QO:=h
theorem zkS {QO:Option Int→Hp→Prop} (h:te σ H fun x H1=>∃ i,x=.int i∧QO (some i) H1):zme te σ H QO:=h
theorem zi6 {P:Int→Prop} (h:P i):∃ k,V.int i=.int k∧P k:=⟨i,rfl,h⟩
theorem zb7 {lo hi:Option Int} (h:SqL K H p xs) (q:∀ l H2,H l=none→Same H H2→H2 l=some (.lst (cutV xs lo hi))→Q (.ref l) H2):rSlL K (.ref p) lo hi H Q:=⟨p,xs,rfl,h,fun l hl=>q l _ hl (zaQ hl) zar⟩
theorem zgD (k:Nat):cutV xs none (some (k:Int))=xs.take k:=by
 unfold cutV
 rw [HT.sIx_none,HT.sIx_nat,List.drop_zero,Nat.sub_zero]
 by_cases h:k≤xs.length
 ·rw [Nat.min_eq_left h]
 ·rw [Nat.min_eq_right (by omega),List.take_of_length_le (Nat.le_refl _),List.take_of_length_le (by omega)]
theorem zfW (k:Nat):cutV xs (some (k:Int)) none=xs.drop k:=by
 unfold cutV
 rw [HT.sIx_none,HT.sIx_nat]
 by_cases h:k≤xs.length
 ·rw [Nat.min_eq_left h,List.take_of_length_le (by rw [List.length_drop];omega)]
 ·rw [Nat.min_eq_right (by omega),List.drop_eq_nil_of_le (Nat.le_refl _),List.drop_eq_nil_of_le (by omega)];simp
theorem zhh {nx bk ct:St→Hp→Prop} {rt:VK} {to ti:TE} (h:te σ H fun x H1=>gSub to ti rSetL x σ H1 nx):tAsg te (gSub to ti rSetL) ⟨nx,rt,bk,ct⟩ σ H:=h
theorem zkT {to ti:TE} {v:V} {N:St→Hp→Prop} (h:to σ H fun o H1=>ti σ H1 fun i H2=>rSetL o i v H2 fun H3=>N σ H3):gSub to ti rSetL v σ H N:=h
theorem zmC {n:Nat} {k:Int} (h0:0≤k) (h1:k < n):ixN n k=some k.toNat:=by
 unfold ixN
 rw [if_pos h0,if_pos h1]
theorem zhi {v:V} {N:Hp→Prop} (h:H p=some (.lst xs)) (h0:0≤i) (h1:i < xs.length) (q:∀ H2,But p H H2→H2 p=some (.lst (xs.set i.toNat v))→N H2):rSetL (.ref p) (.int i) v H N:=⟨p,xs,i,_,rfl,rfl,h,zmC h0 h1,q _ But.upd zar⟩
end
end L2
namespace Prf
open PySem PySem.Spec PyProof.Rows L2
def cntB (rows:List (List Int)) (x:Int):Nat:=(rows.filter fun r=>decide (x∈r)).length
theorem zfX (rows:List (List Int)) (x:Int):((List.range rows.length).filter fun i=>decide (x∈rows.getD i [])).length=cntB rows x:=by
 unfold cntB
 induction rows with
 | nil=>rfl
 | cons r rs ih =>
   rw [List.length_cons,List.range_succ_eq_map,List.filter_cons,List.filter_cons,List.filter_map,]
   have e:((fun i=>decide (x∈(r::rs).getD i []))∘Nat.succ)=fun i=>decide (x∈rs.getD i []):=by funext i;rfl
   rw [e]
   by_cases h:x∈r
   ·simp only [List.getD_cons_zero,h,decide_true,if_true,List.length_cons,List.length_map]
    rw [ih]
   ·simp only [List.getD_cons_zero,h,decide_false,Bool.false_eq_true,if_false,List.length_map]
    exact ih
theorem zd5 {K:PySem.W.Frag} {σ:L2.St} {H:Hp} {Q:VK} {js:List Nat} {tc:TT} {a:Addr} {ps:List Addr} {rows:List (List Int)} {x:Int} (h1:SqL K H a (ps.map V.ref)) (h2:ps.length=rows.length) (hz:rows.length≤1000)
  (ht:∀ i H' (Q':Bool→Hp→Prop),i < rows.length→Same H H'→Q' (decide (x∈rows.getD i [])) H'→tc (some (.ref (ps.getD i 0))::capV js σ) H' Q')
  (hq:∀ p H2 zs,H p=none→Same H H2→H2 p=some (.lst zs)→zs.length=cntB rows x→Q (.ref p) H2):zee (Itl K a) js tc (tVar 0) σ H Q:=by
 have ex:∀ i,i < rows.length→(ps.map V.ref).getD i .non=.ref (ps.getD i 0):=fun i hi=>by
  rw [List.getD_eq_getElem?_getD,List.getElem?_map,List.getElem?_eq_getElem (by omega),List.getD_eq_getElem?_getD,List.getElem?_eq_getElem (by omega)]
  rfl
 have hl:(ps.map V.ref).length=rows.length:=by rw [List.length_map,h2]
 refine zcA (za6 h1) (by rw [hl];exact za0 hz) (fun i=>decide (x∈rows.getD i [])) (fun i=>.ref (ps.getD i 0)) (fun i H' Q' hi s q=>?_) (fun i H' Q' hi s _ q=>?_) fun p hp=>?_
 ·show tc (some ((ps.map V.ref).getD i .non)::capV js σ) H' Q'
  rw [hl] at hi
  rw [ex i hi]
  exact ht i H' Q' hi s q
 ·show tVar 0 (some ((ps.map V.ref).getD i .non)::capV js σ) H' Q'
  rw [hl] at hi
  rw [ex i hi]
  exact zfm (i:=0) rfl q
 ·refine hq p _ _ hp (zaQ hp) zar ?_
  rw [List.length_map,hl,zfX]
end Prf
namespace L2
open PySem PySem.Spec PyProof.Rows
section
variable {X:Cx} {K:PySem.W.Frag}
def rIsN:R2:=fun x y H Q=>y=.non∧Q (.bl (decide (x=.non))) H
def rNotN:R2:=fun x y H Q=>y=.non∧Q (.bl (!decide (x=.non))) H
theorem op_isNN:OpR X (compareOp .Is) rIsN:=op_isN
theorem op_notNN:OpR X (compareOp .IsNot) rNotN:=op_notN
def zlD (i j:Int):Prop:=CMul i j∨((-(2 ^ 210) < i∧i < 2 ^ 210)∧-(2 ^ 210) < j∧j < 2 ^ 210)
theorem zi7 {k:Int} (h1 : -(2 ^ 210) < k) (h2:k < 2 ^ 210):Builtin.Int.intBits k≤210:=by
 unfold Builtin.Int.intBits
 split
 ·exact Nat.zero_le _
 ·have hn:k.natAbs < 2 ^ 210:=by omega
  have:k.natAbs.log2 < 210:=by
   rcases Nat.eq_zero_or_pos k.natAbs with h0 | hp
   ·rw [h0];decide
   ·exact (Nat.log2_lt (by omega)).mpr hn
  omega
theorem op_mulB:OpR X (binaryOp .Mult) (rI zlD fun i j=>.int (i * j)):=opI fun _ _ _ _ _ _ _ hc q=>mul_int q (by
 rcases hc with h | ⟨⟨h1,h2⟩,h3,h4⟩
 ·exact h.ok
 ·exact PySem.IntMulOk.of_le (zi7 h1 h2) (zi7 h3 h4) (by decide))
end
theorem zkU {Q:VK} {H:Hp} {f:Int→Int→V} {i j:Int} (c:zlD i j) (q:Q (f i j) H):rI zlD f (.int i) (.int j) H Q:=⟨i,j,rfl,rfl,c,q⟩
section
variable {σ:St} {H:Hp} {Q:VK} {K:PySem.W.Frag} {x:V}
theorem zmD (q:Q (.bl (decide (x=.non))) H):rIsN x .non H Q:=⟨rfl,q⟩
theorem zkV (q:Q (.bl (!decide (x=.non))) H):rNotN x .non H Q:=⟨rfl,q⟩
theorem zfY (xs:List V) (c:V→Bool):((List.range xs.length).filter fun i=>c (xs.getD i .non)).map (fun i=>xs.getD i .non)=xs.filter c:=by
 induction xs with
 | nil=>rfl
 | cons y ys ih =>
   rw [List.length_cons,List.range_succ_eq_map,List.filter_cons,List.filter_map,List.filter_cons]
   have e:((fun i=>c ((y::ys).getD i .non))∘Nat.succ)=fun i=>c (ys.getD i .non):=by funext i;rfl
   have e2:∀ l:List Nat,(l.map Nat.succ).map (fun i=>(y::ys).getD i .non)=l.map fun i=>ys.getD i .non:=fun l=>by rw [List.map_map];rfl
   rw [e]
   cases h:c y with
   | true =>
     simp only [List.getD_cons_zero,h,if_true,List.map_cons]
     rw [e2,ih]
   | false =>
     simp only [List.getD_cons_zero,h,Bool.false_eq_true,if_false]
     rw [e2,ih]
theorem zfZ {js:List Nat} {tc:TT} {a:Addr} {xs:List V} (h:SqL K H a xs) (hz:xs.length≤1000) (c:V→Bool)
  (ht:∀ i H' (Q':Bool→Hp→Prop),i < xs.length→Same H H'→Q' (c (xs.getD i .non)) H'→tc (some (xs.getD i .non)::capV js σ) H' Q')
  (hq:∀ p H2,H p=none→Same H H2→H2 p=some (.lst (xs.filter c))→Q (.ref p) H2):zee (Itl K a) js tc (tVar 0) σ H Q:=by
 refine zcA (za6 h) (za0 hz) (fun i=>c (xs.getD i .non)) (fun i=>xs.getD i .non) ht (fun i H' Q' _ _ _ q=>zfm (i:=0) rfl q) fun p hp=>hq p _ hp (zaQ hp) ?_
 rw [zar,zfY]
end
end L2
namespace Prf
open PySem PySem.Spec PyProof.Rows L2
def zgE (c:Int):Int:=if c % 3=0 then c / 3 % 101 else if c % 3=1 then c / 3 % 12 else ([0,1,99,100]:List Int).getD (c / 3 % 4).toNat 0
theorem zi8 (c:Int):0≤zgE c∧zgE c≤100:=by
 unfold zgE
 split
 ·omega
 ·split
  ·omega
  ·have:c / 3 % 4=0∨c / 3 % 4=1∨c / 3 % 4=2∨c / 3 % 4=3:=by omega
   rcases this with e | e | e | e <;> rw [e] <;> decide
def zb8 (rs:List (List Int)) (h:Int) (row:List Int):Bool :=
 decide (row.length=2) && row.all (fun x=>decide (1≤x) && decide (x≤(rs.length:Int)) && !decide ((rs.getD (x-1).toNat []).getD 0 0=h)) && decide (row.getD 0 0 < row.getD 1 0)
def zaS (hs:List Int) (rs rows:List (List Int)):Bool :=
 decide (rows.length=hs.length) && (List.range hs.length).all (fun k=>zb8 rs (hs.getD k 0) (rows.getD k [])) && (List.range rs.length).all (fun k=>decide ((cntB rows (0+(k:Int)+1):Int)≤(rs.getD k []).getD 1 0))
theorem zcB {n:Nat} {c:Nat→Bool} {k:Nat} (h:k < n) (hc:c k=false):(List.range n).all c=false:=by
 rw [Bool.eq_false_iff]
 intro z
 have:=List.all_eq_true.mp z k (List.mem_range.mpr h)
 rw [hc] at this
 cases this
theorem za8 {n:Nat} {c:Nat→Bool} (h:∀ k,k < n→c k=true):(List.range n).all c=true:=List.all_eq_true.mpr fun k hk=>h k (List.mem_range.mp hk)
theorem zi9 {xs:List Int} {c:Int→Bool} {i:Nat} (h:i < xs.length) (hc:c (xs.getD i 0)=false):xs.all c=false:=by
 rw [Bool.eq_false_iff]
 intro z
 have:=List.all_eq_true.mp z _ (getD_mem (d:=0) h)
 rw [hc] at this
 cases this
theorem zj2 {xs:List Int} {c:Int→Bool} (h:∀ i,i < xs.length→c (xs.getD i 0)=true):xs.all c=true:=List.all_eq_true.mpr fun x hx=>by
 obtain ⟨i,hi,e⟩:=mem_getD (d:=0) hx
 rw [← e];exact h i hi
structure InB (hs:List Int) (rs:List (List Int)):Prop where
 lp:hs.length≤10
 lr:rs.length≤8
 hh:∀ i,i < hs.length→1≤hs.getD i 0∧hs.getD i 0≤6
 r2:∀ i,i < rs.length→(rs.getD i []).length=2
 rh:∀ i,i < rs.length→0≤(rs.getD i []).getD 0 0∧(rs.getD i []).getD 0 0≤6
 rl:∀ i,i < rs.length→0≤(rs.getD i []).getD 1 0∧(rs.getD i []).getD 1 0≤30
def fitB (a b:Int):List Int:=((List.range 6).filter fun i:Nat=>!decide (1+(i:Int)=a) && !decide (1+(i:Int)=b)).map fun i:Nat=>1+(i:Int)
theorem zj3 {a b x:Int} (h:x∈fitB a b):1≤x∧x≤6∧x≠a∧x≠b:=by
 unfold fitB at h
 obtain ⟨i,hi,rfl⟩:=List.mem_map.mp h
 obtain ⟨h1,h2⟩:=List.mem_filter.mp hi
 have:=List.mem_range.mp h1
 simp only [Bool.and_eq_true,Bool.not_eq_true',decide_eq_false_iff_not] at h2
 exact ⟨by omega,by omega,h2.1,h2.2⟩
theorem zhj (a b:Int):0 < (fitB a b).length:=by
 have key:∃ i:Nat,i < 6∧1+(i:Int)≠a∧1+(i:Int)≠b:=by
  by_cases h0:(1:Int)≠a∧(1:Int)≠b
  ·exact ⟨0,by omega,by omega,by omega⟩
  ·by_cases h1:(2:Int)≠a∧(2:Int)≠b
   ·exact ⟨1,by omega,by omega,by omega⟩
   ·exact ⟨2,by omega,by omega,by omega⟩
 obtain ⟨i,h1,h2,h3⟩:=key
 have:1+(i:Int)∈fitB a b:=by
  unfold fitB
  refine List.mem_map.mpr ⟨i,List.mem_filter.mpr ⟨List.mem_range.mpr h1,?_⟩,rfl⟩
  rw [decide_eq_false h2,decide_eq_false h3];rfl
 exact List.length_pos_of_mem this
theorem zlE (a b:Int):(fitB a b).length≤6:=by
 unfold fitB
 rw [List.length_map]
 exact Nat.le_trans (List.length_filter_le _ _) (by simp)
structure PRow (c:Nat) (hB:Nat→Int) (h:Int) (row:List Int):Prop where
 ex:∃ x y:Nat,x < y∧y < c∧row=[(x:Int)+1,(y:Int)+1]∧h≠hB x∧h≠hB y
 rng:1≤h∧h≤6
structure zgF (least:Int) (hs:List Int) (rs rows:List (List Int)):Prop where
 inb:InB hs rs
 two:2≤rs.length
 len:rows.length=hs.length
 low:least≤hs.length
 row2:∀ i,i < rows.length→(rows.getD i []).length=2
 right:zaS hs rs rows=true
theorem PRow.pair {c:Nat} {hB:Nat→Int} {h:Int} {row:List Int} {rs:List (List Int)} (P:PRow c hB h row) (hl:rs.length=c) (hh:∀ j,j < c→(rs.getD j []).getD 0 0=hB j):zb8 rs h row=true:=by
 obtain ⟨⟨x,y,h1,h2,rfl,h3,h4⟩,_⟩:=P
 unfold zb8
 have ex:((x:Int)+1-1).toNat=x:=by omega
 have ey:((y:Int)+1-1).toNat=y:=by omega
 simp only [List.length_cons,List.length_nil,decide_true,Bool.true_and,List.all_cons,List.all_nil,Bool.and_true,ex,ey,hh x (by omega),hh y h2,List.getD_cons_zero,List.getD_cons_succ]
 rw [decide_eq_true (show 1≤(x:Int)+1 by omega),decide_eq_true (show (x:Int)+1≤(rs.length:Int) by omega),decide_eq_false (fun z=>h3 z.symm),decide_eq_true (show 1≤(y:Int)+1 by omega),decide_eq_true (show (y:Int)+1≤(rs.length:Int) by omega),decide_eq_false (fun z=>h4 z.symm),decide_eq_true (show (x:Int)+1 < (y:Int)+1 by omega)]
 rfl
theorem zlF (rows:List (List Int)) (x:Int):cntB rows x≤rows.length:=List.length_filter_le _ _
end Prf
namespace Hall
def sm:Nat→(Nat→Nat)→Nat
 | 0,_=>0
 | n+1,f=>sm n f+f n
theorem sm_congr {n:Nat} {f g:Nat→Nat} (h:∀ i,i < n→f i=g i):sm n f=sm n g:=by
 induction n with
 | zero=>rfl
 | succ n ih=>simp only [sm];rw [ih (fun i hi=>h i (by omega)),h n (by omega)]
theorem sm_add {n:Nat} {f g:Nat→Nat}:sm n (fun i=>f i+g i)=sm n f+sm n g:=by
 induction n with
 | zero=>rfl
 | succ n ih=>simp only [sm];rw [ih];omega
theorem sm_le {n:Nat} {f g:Nat→Nat} (h:∀ i,i < n→f i≤g i):sm n f≤sm n g:=by
 induction n with
 | zero=>exact Nat.le_refl _
 | succ n ih =>
   simp only [sm]
   have:=ih (fun i hi=>h i (by omega));have:=h n (by omega);omega
theorem sm_zero {n:Nat}:sm n (fun _=>0)=0:=by
 induction n with
 | zero=>rfl
 | succ n ih=>simp only [sm];omega
theorem sm_swap {n m:Nat} {f:Nat→Nat→Nat} :
  sm n (fun i=>sm m (fun j=>f i j))=sm m (fun j=>sm n (fun i=>f i j)):=by
 induction n with
 | zero=>simp only [sm];rw [sm_zero]
 | succ n ih=>simp only [sm];rw [ih,sm_add]
theorem zcC {n:Nat} {f g:Nat→Nat} (h:∀ i,i < n→f i≤g i) (e:sm n g≤sm n f) :
  ∀ i,i < n→f i=g i:=by
 induction n with
 | zero=>intro i hi;omega
 | succ n ih =>
   simp only [sm] at e
   have h1:=sm_le (fun i hi=>h i (by omega):∀ i,i < n→f i≤g i)
   have h2:=h n (by omega)
   intro i hi
   by_cases hn:i=n
   ·subst hn;omega
   ·exact ih (fun i hi=>h i (by omega)) (by omega) i (by omega)
theorem zcR {n p:Nat} {f:Nat→Nat} (hp:p < n) (h:∀ i,i < n→i≠p→f i=0):sm n f=f p:=by
 induction n with
 | zero=>omega
 | succ n ih =>
   simp only [sm]
   by_cases hn:p=n
   ·subst hn
    have:sm p f=sm p (fun _=>0):=sm_congr (fun i hi=>h i (by omega) (by omega))
    rw [this,sm_zero];omega
   ·rw [ih (by omega) (fun i hi hne=>h i (by omega) hne),h n (by omega) (by omega)];omega
theorem zmE {n:Nat} {f:Nat→Nat} (h:0 < sm n f):∃ i,i < n∧0 < f i:=by
 induction n with
 | zero=>simp [sm] at h
 | succ n ih =>
   simp only [sm] at h
   by_cases hn:0 < f n
   ·exact ⟨n,by omega,hn⟩
   ·obtain ⟨i,hi,hf⟩:=ih (by omega);exact ⟨i,by omega,hf⟩
theorem sm_lt {n p:Nat} {f g:Nat→Nat} (hp:p < n) (h:∀ i,i < n→f i≤g i) (hl:f p < g p) :
  sm n f < sm n g:=by
 have h1:=sm_le h
 rcases Nat.lt_or_ge (sm n f) (sm n g) with h2 | h2
 ·exact h2
 ·have:=zcC h h2 p hp;omega
def b2 (b:Bool):Nat:=if b then 1 else 0
@[simp] theorem b2_t:b2 true=1:=rfl
@[simp] theorem b2_f:b2 false=0:=rfl
def deg (n:Nat) (A:Nat→Nat→Bool) (S:Nat→Bool) (r:Nat):Nat:=sm n fun p=>b2 (S p && A p r)
def room (n m:Nat) (L:Nat→Nat) (A:Nat→Nat→Bool) (S:Nat→Bool):Nat:=sm m fun r=>min (L r) (deg n A S r)
def need (n:Nat) (d:Nat→Nat) (S:Nat→Bool):Nat:=sm n fun p=>if S p then d p else 0
def Ok (n m:Nat) (L d:Nat→Nat) (A:Nat→Nat→Bool):Prop:=∀ S,need n d S≤room n m L A S
variable {n m:Nat} {L d:Nat→Nat} {A:Nat→Nat→Bool}
theorem zlG {S T:Nat→Bool} {r:Nat} :
  deg n A (fun p=>S p && T p) r+deg n A (fun p=>S p || T p) r=deg n A S r+deg n A T r:=by
 unfold deg
 rw [← sm_add,← sm_add]
 apply sm_congr
 intro i _
 show b2 ((S i && T i) && A i r)+b2 ((S i || T i) && A i r)=b2 (S i && A i r)+b2 (T i && A i r)
 cases S i <;> cases T i <;> cases A i r <;> rfl
theorem zj4 {S T:Nat→Bool} :
  need n d (fun p=>S p && T p)+need n d (fun p=>S p || T p)=need n d S+need n d T:=by
 unfold need
 rw [← sm_add,← sm_add]
 apply sm_congr
 intro i _
 show (if S i && T i then d i else 0)+(if S i || T i then d i else 0)=(if S i then d i else 0)+(if T i then d i else 0)
 cases S i <;> cases T i <;> simp
theorem zd6 {S T:Nat→Bool} (h:∀ p,S p=true→T p=true) {r:Nat}:deg n A S r≤deg n A T r:=by
 apply sm_le
 intro i _
 have h':=h i
 show b2 (S i && A i r)≤b2 (T i && A i r)
 revert h'
 cases S i <;> cases T i <;> cases A i r <;> simp
theorem zj5 {S T:Nat→Bool} :
  room n m L A (fun p=>S p && T p)+room n m L A (fun p=>S p || T p)≤room n m L A S+room n m L A T:=by
 unfold room
 rw [← sm_add,← sm_add]
 apply sm_le
 intro r _
 have h1:=zlG (n:=n) (A:=A) (S:=S) (T:=T) (r:=r)
 have h2:deg n A (fun p=>S p && T p) r≤deg n A S r:=zd6 (fun p h=>by simp at h;exact h.1)
 have h3:deg n A (fun p=>S p && T p) r≤deg n A T r:=zd6 (fun p h=>by simp at h;exact h.2)
 omega
theorem zja (hA:Ok n m L d A) {S T:Nat→Bool} (hS:room n m L A S=need n d S)
  (hT:room n m L A T=need n d T) :
  room n m L A (fun p=>S p && T p)=need n d (fun p=>S p && T p):=by
 have h1:=zj5 (n:=n) (m:=m) (L:=L) (A:=A) (S:=S) (T:=T)
 have h2:=zj4 (n:=n) (d:=d) (S:=S) (T:=T)
 have h3:=hA (fun p=>S p && T p)
 have h4:=hA (fun p=>S p || T p)
 omega
def cut (A:Nat→Nat→Bool) (p r:Nat):Nat→Nat→Bool:=fun q s=>A q s && !(q == p && s == r)
theorem zlH {p r q s:Nat} (h:cut A p r q s=true):A q s=true:=by
 unfold cut at h;simp at h;exact h.1
theorem ze4 {p r s:Nat} (h:s≠r) {S:Nat→Bool}:deg n (cut A p r) S s=deg n A S s:=by
 unfold deg cut
 apply sm_congr
 intro i _
 have:(s == r)=false:=by simp [h]
 simp [this]
theorem ze5 {p r:Nat} (hp:p < n) {S:Nat→Bool} :
  deg n (cut A p r) S r+b2 (S p && A p r)=deg n A S r:=by
 unfold deg
 have:b2 (S p && A p r)=sm n (fun q=>b2 (q == p && (S p && A p r))):=by
  rw [zcR hp]
  ·simp
  ·intro i _ hi
   have:(i == p)=false:=by simp [hi]
   simp [this]
 rw [this,← sm_add]
 apply sm_congr
 intro i _
 unfold cut
 by_cases hi:i=p
 ·subst hi
  cases S i <;> cases A i r <;> simp
 ·have:(i == p)=false:=by simp [hi]
  simp [this]
theorem zlI {p r:Nat} (hp:p < n) {S:Nat→Bool} (hS:S p=true) :
  deg n A (fun q=>S q && !(q == p)) r+b2 (A p r)=deg n A S r:=by
 unfold deg
 have:b2 (A p r)=sm n (fun q=>b2 (q == p && A p r)):=by
  rw [zcR hp]
  ·simp
  ·intro i _ hi
   have:(i == p)=false:=by simp [hi]
   simp [this]
 rw [this,← sm_add]
 apply sm_congr
 intro i _
 by_cases hi:i=p
 ·subst hi
  simp [hS]
 ·have:(i == p)=false:=by simp [hi]
  simp [this]
theorem zj6 {p:Nat} (hp:p < n) {S:Nat→Bool} (hS:S p=true) :
  need n d (fun q=>S q && !(q == p))+d p=need n d S:=by
 unfold need
 have:d p=sm n (fun q=>if q == p then d p else 0):=by
  rw [zcR hp]
  ·simp
  ·intro i _ hi
   have:(i == p)=false:=by simp [hi]
   simp [this]
 rw [this,← sm_add]
 apply sm_congr
 intro i _
 by_cases hi:i=p
 ·subst hi
  simp [hS]
 ·have:(i == p)=false:=by simp [hi]
  simp [this]
theorem zhk (hA:Ok n m L d A) {p r:Nat} (hp:p < n) (hr:r < m) (ha:A p r=true)
  (hn:¬Ok n m L d (cut A p r)) :
  ∃ S,room n m L A S=need n d S∧S p=true∧deg n A S r≤L r:=by
 have hn':∃ S,¬need n d S≤room n m L (cut A p r) S:=by
  apply Classical.byContradiction
  intro hc
  exact hn (fun S=>Classical.byContradiction fun h=>hc ⟨S,h⟩)
 obtain ⟨S,hS⟩:=hn'
 have h1:=hA S
 have hle:∀ s,s < m→min (L s) (deg n (cut A p r) S s)≤min (L s) (deg n A S s):=by
  intro s _
  by_cases h:s=r
  ·subst h
   have:=ze5 (A:=A) (r:=s) hp (S:=S)
   omega
  ·rw [ze4 h];exact Nat.le_refl _
 have hd:room n m L A S≤room n m L (cut A p r) S+(min (L r) (deg n A S r)-min (L r) (deg n (cut A p r) S r)):=by
  unfold room
  have:min (L r) (deg n A S r)-min (L r) (deg n (cut A p r) S r)
    = sm m (fun s=>if s=r then min (L r) (deg n A S r)-min (L r) (deg n (cut A p r) S r) else 0):=by
   rw [zcR hr]
   ·simp
   ·intro i _ hi;simp [hi]
  rw [this,← sm_add]
  apply sm_le
  intro s hs
  by_cases h:s=r
  ·subst h;simp;omega
  ·simp [h,ze4 h]
 have hc:=ze5 (A:=A) (r:=r) hp (S:=S)
 rw [ha] at hc
 simp only [Bool.and_true] at hc
 refine ⟨S,?_,?_,?_⟩
 ·cases hSp:S p
  ·rw [hSp,b2_f] at hc;omega
  ·rw [hSp,b2_t] at hc;omega
 ·cases hSp:S p
  ·rw [hSp,b2_f] at hc;omega
  ·rfl
 ·cases hSp:S p
  ·rw [hSp,b2_f] at hc;omega
  ·rw [hSp,b2_t] at hc;omega
theorem zj7 (hA:Ok n m L d A) {p:Nat} (hp:p < n) (hd:d p < sm m (fun r=>b2 (A p r)))
  (hn:∀ r,r < m→A p r=true→¬Ok n m L d (cut A p r)):False:=by
 have h0:∃ r,r < m∧0 < b2 (A p r):=zmE (by omega)
 obtain ⟨r0,hr0,hb0⟩:=h0
 have ha0:A p r0=true:=by cases h:A p r0 <;> simp_all
 have key:∀ k,k≤m→∃ T,room n m L A T=need n d T∧T p=true∧∀ r,r < k→A p r=true→deg n A T r≤L r:=by
  intro k
  induction k with
  | zero =>
    intro _
    obtain ⟨S,h1,h2,_⟩:=zhk hA hp hr0 ha0 (hn r0 hr0 ha0)
    exact ⟨S,h1,h2,fun r hr=>by omega⟩
  | succ k ih =>
    intro hk
    obtain ⟨T,h1,h2,h3⟩:=ih (by omega)
    cases hak:A p k
    ·refine ⟨T,h1,h2,fun r hr ha=>?_⟩
     by_cases h:r=k
     ·subst h;rw [hak] at ha;simp at ha
     ·exact h3 r (by omega) ha
    ·obtain ⟨S,g1,g2,g3⟩:=zhk hA hp (by omega) hak (hn k (by omega) hak)
     refine ⟨fun q=>T q && S q,zja hA h1 g1,by simp [h2,g2],fun r hr ha=>?_⟩
     have m1:deg n A (fun q=>T q && S q) r≤deg n A T r:=zd6 (fun q h=>by simp at h;exact h.1)
     have m2:deg n A (fun q=>T q && S q) r≤deg n A S r:=zd6 (fun q h=>by simp at h;exact h.2)
     by_cases h:r=k
     ·subst h;omega
     ·have:=h3 r (by omega) ha;omega
 obtain ⟨T,h1,h2,h3⟩:=key m (Nat.le_refl _)
 have e1:room n m L A T=room n m L A (fun q=>T q && !(q == p))+sm m (fun r=>b2 (A p r)):=by
  unfold room
  rw [← sm_add]
  apply sm_congr
  intro r hr
  have e:=zlI (A:=A) (r:=r) hp h2
  cases ha:A p r
  ·rw [ha] at e;simp at e;simp;omega
  ·have:=h3 r hr ha
   rw [ha] at e;simp at e;simp;omega
 have e2:=zj6 (d:=d) hp h2
 have e3:=hA (fun q=>T q && !(q == p))
 omega
def zjb (n m:Nat) (A:Nat→Nat→Bool):Nat:=sm n fun p=>sm m fun r=>b2 (A p r)
theorem zjc {p r:Nat} (hp:p < n) (hr:r < m) (ha:A p r=true) :
  zjb n m (cut A p r) < zjb n m A:=by
 have hle:∀ q s,b2 (cut A p r q s)≤b2 (A q s):=by
  intro q s
  show b2 (A q s && !(q == p && s == r))≤b2 (A q s)
  cases A q s <;> cases (q == p) <;> cases (s == r) <;> simp
 apply sm_lt hp
 ·intro q _;exact sm_le (fun s _=>hle q s)
 ·apply sm_lt hr
  ·intro s _;exact hle p s
  ·unfold cut;simp [ha]
theorem hall:∀ k (A:Nat→Nat→Bool),zjb n m A≤k→Ok n m L d A →
  ∃ B:Nat→Nat→Bool,(∀ p r,B p r=true→A p r=true) ∧
   (∀ p,p < n→sm m (fun r=>b2 (B p r))=d p)∧(∀ r,r < m→sm n (fun p=>b2 (B p r))≤L r):=by
 intro k
 induction k with
 | zero =>
   intro A he hA
   refine ⟨A,fun _ _ h=>h,?_,?_⟩
   ·intro p hp
    have h0:sm m (fun r=>b2 (A p r))=0:=by
     have:=zcC (n:=n) (f:=fun _=>0) (g:=fun p=>sm m fun r=>b2 (A p r)) (fun _ _=>by omega)
      (by rw [sm_zero];exact he) p hp
     exact this.symm
    have h1:=hA (fun q=>q == p)
    have h2:need n d (fun q=>q == p)=d p:=by
     unfold need;rw [zcR hp]
     ·simp
     ·intro i _ hi;simp [hi]
    have h3:room n m L A (fun q=>q == p)≤sm m (fun r=>b2 (A p r)):=by
     unfold room
     apply sm_le
     intro r _
     have:deg n A (fun q=>q == p) r=b2 (A p r):=by
      unfold deg;rw [zcR hp]
      ·simp
      ·intro i _ hi
       have:(i == p)=false:=by simp [hi]
       simp [this]
     omega
    omega
   ·intro r hr
    have h0:sm n (fun p=>b2 (A p r))=0:=by
     unfold zjb at he
     rw [sm_swap] at he
     have:=zcC (n:=m) (f:=fun _=>0) (g:=fun r=>sm n fun p=>b2 (A p r)) (fun _ _=>by omega)
      (by rw [sm_zero];exact he) r hr
     exact this.symm
    omega
 | succ k ih =>
   intro A he hA
   by_cases hall:∀ p,p < n→sm m (fun r=>b2 (A p r))=d p
   ·refine ⟨A,fun _ _ h=>h,hall,?_⟩
    have h1:=hA (fun _=>true)
    have h2:need n d (fun _=>true)=sm n (fun p=>sm m (fun r=>b2 (A p r))):=by
     unfold need;apply sm_congr;intro i hi;rw [hall i hi];simp
    rw [h2,sm_swap] at h1
    unfold room at h1
    intro r hr
    have h3:=zcC (n:=m) (f:=fun r=>min (L r) (deg n A (fun _=>true) r))
     (g:=fun r=>sm n (fun p=>b2 (A p r)))
     (fun r _=>by
      have:deg n A (fun _=>true) r=sm n (fun p=>b2 (A p r)):=by
       unfold deg;apply sm_congr;intro i _;simp
      show min _ _≤_
      omega) h1 r hr
    omega
   ·have:∃ p,p < n∧sm m (fun r=>b2 (A p r))≠d p:=by
     apply Classical.byContradiction
     intro hc
     exact hall (fun p hp=>Classical.byContradiction fun h=>hc ⟨p,hp,h⟩)
    obtain ⟨p,hp,hne⟩:=this
    have hge:d p≤sm m (fun r=>b2 (A p r)):=by
     have h1:=hA (fun q=>q == p)
     have h2:need n d (fun q=>q == p)=d p:=by
      unfold need;rw [zcR hp]
      ·simp
      ·intro i _ hi;simp [hi]
     have h3:room n m L A (fun q=>q == p)≤sm m (fun r=>b2 (A p r)):=by
      unfold room
      apply sm_le
      intro r _
      have:deg n A (fun q=>q == p) r=b2 (A p r):=by
       unfold deg;rw [zcR hp]
       ·simp
       ·intro i _ hi
        have:(i == p)=false:=by simp [hi]
        simp [this]
      omega
     omega
    by_cases hs:∃ r,r < m∧A p r=true∧Ok n m L d (cut A p r)
    ·obtain ⟨r,hr,ha,hok⟩:=hs
     have hlt:=zjc (n:=n) (m:=m) hp hr ha
     obtain ⟨B,b1,b2',b3⟩:=ih (cut A p r) (by omega) hok
     exact ⟨B,fun q s h=>zlH (b1 q s h),b2',b3⟩
    ·exact (zj7 hA hp (by omega) (fun r hr ha hok=>hs ⟨r,hr,ha,hok⟩)).elim
end Hall
namespace Hall
variable {n m:Nat} {L d:Nat→Nat} {A:Nat→Nat→Bool}
theorem room_of {B:Nat→Nat→Bool} (hs:∀ p r,B p r=true→A p r=true)
  (hd:∀ p,p < n→sm m (fun r=>b2 (B p r))=d p) (hL:∀ r,r < m→sm n (fun p=>b2 (B p r))≤L r) :
  Ok n m L d A:=by
 intro S
 have h1:need n d S=sm m (fun r=>deg n B S r):=by
  unfold need deg
  rw [sm_swap]
  apply sm_congr
  intro p hp
  cases hS:S p
  ·simp only [Bool.false_and,b2_f];rw [sm_zero];rfl
  ·simp only [Bool.true_and];rw [hd p hp];rfl
 rw [h1]
 apply sm_le
 intro r hr
 have h2:deg n B S r≤deg n A S r:=by
  apply sm_le
  intro p _
  have:=hs p r
  revert this
  cases S p <;> cases B p r <;> cases A p r <;> simp
 have h3:deg n B S r≤sm n (fun p=>b2 (B p r)):=by
  apply sm_le
  intro p _
  cases S p <;> cases B p r <;> simp
 have:=hL r hr
 show _≤min (L r) (deg n A S r)
 omega
theorem zmF {f:Nat→Bool} (h:sm m (fun r=>b2 (f r))=1) :
  ∃ a,a < m∧f a=true∧∀ r,r < m→f r=true→r=a:=by
 induction m with
 | zero=>simp [sm] at h
 | succ m ih =>
   simp only [sm] at h
   cases hf:f m
   ·rw [hf,b2_f] at h
    obtain ⟨a,h1,h2,h3⟩:=ih (by omega)
    refine ⟨a,by omega,h2,fun r hr hfr=>?_⟩
    by_cases e:r=m
    ·subst e;rw [hf] at hfr;simp at hfr
    ·exact h3 r (by omega) hfr
   ·rw [hf,b2_t] at h
    refine ⟨m,by omega,hf,fun r hr hfr=>?_⟩
    by_cases e:r=m
    ·exact e
    ·have:=zcC (n:=m) (f:=fun _=>0) (g:=fun r=>b2 (f r)) (fun _ _=>by omega) (by rw [sm_zero];omega) r (by omega)
     rw [hfr] at this;simp at this
theorem two_of {f:Nat→Bool} (h:sm m (fun r=>b2 (f r))=2) :
  ∃ a b,a < b∧b < m∧f a=true∧f b=true∧∀ r,r < m→f r=true→r=a∨r=b:=by
 induction m with
 | zero=>simp [sm] at h
 | succ m ih =>
   simp only [sm] at h
   cases hf:f m
   ·rw [hf,b2_f] at h
    obtain ⟨a,b,h1,h2,h3,h4,h5⟩:=ih (by omega)
    refine ⟨a,b,h1,by omega,h3,h4,fun r hr hfr=>?_⟩
    by_cases e:r=m
    ·subst e;rw [hf] at hfr;simp at hfr
    ·exact h5 r (by omega) hfr
   ·rw [hf,b2_t] at h
    obtain ⟨a,h1,h2,h3⟩:=zmF (m:=m) (f:=f) (by omega)
    refine ⟨a,m,h1,by omega,h2,hf,fun r hr hfr=>?_⟩
    by_cases e:r=m
    ·exact Or.inr e
    ·exact Or.inl (h3 r (by omega) hfr)
structure Deal (n m:Nat) (L:Nat→Nat) (A:Nat→Nat→Bool) (D:Nat→Nat×Nat):Prop where
 lt:∀ p,p < n→(D p).1 < (D p).2
 hi:∀ p,p < n→(D p).2 < m
 a:∀ p,p < n→A p (D p).1=true
 b:∀ p,p < n→A p (D p).2=true
 lim:∀ r,r < m→sm n (fun p=>b2 (r == (D p).1 || r == (D p).2))≤L r
theorem two_eq {a b:Nat} (h:a < b) (hb:b < m):sm m (fun r=>b2 (r == a || r == b))=2:=by
 have:sm m (fun r=>b2 (r == a || r == b))=sm m (fun r=>b2 (r == a)+b2 (r == b)):=by
  apply sm_congr
  intro r _
  by_cases h1:r=a
  ·subst h1
   have:(r == b)=false:=by simp;omega
   simp [this]
  ·have:(r == a)=false:=by simp [h1]
   simp [this]
 rw [this,sm_add,zcR (p:=a) (by omega),zcR (p:=b) hb]
 ·simp
 ·intro i _ hi
  have:(i == b)=false:=by simp [hi]
  simp [this]
 ·intro i _ hi
  have:(i == a)=false:=by simp [hi]
  simp [this]
theorem deal_iff:(∃ D,Deal n m L A D)↔Ok n m L (fun _=>2) A:=by
 constructor
 ·rintro ⟨D,h⟩ S
  have:=room_of (n:=n) (m:=m) (L:=L) (d:=fun _=>2) (A:=A)
   (B:=fun p r=>decide (p < n) && (r == (D p).1 || r == (D p).2))
   (fun p r hb=>by
    simp at hb
    obtain ⟨hp,hb⟩:=hb
    rcases hb with e | e
    ·rw [e];exact h.a p hp
    ·rw [e];exact h.b p hp)
   (fun p hp=>by
    have:decide (p < n)=true:=by simp [hp]
    simp only [this,Bool.true_and]
    exact two_eq (h.lt p hp) (h.hi p hp))
   (fun r hr=>by
    have:=h.lim r hr
    refine Nat.le_trans (sm_le fun p _=>?_) this
    show b2 (decide (p < n) && (r == (D p).1 || r == (D p).2))≤b2 (r == (D p).1 || r == (D p).2)
    cases decide (p < n) <;> simp)
  exact this S
 ·intro h
  obtain ⟨B,b1,h2,h3⟩:=hall (n:=n) (m:=m) (L:=L) (d:=fun _=>2) (zjb n m A) A (Nat.le_refl _) h
  have hx:∀ p,∃ ab:Nat×Nat,p < n→ab.1 < ab.2∧ab.2 < m∧B p ab.1=true∧B p ab.2=true ∧
    ∀ r,r < m→B p r=true→r=ab.1∨r=ab.2:=by
   intro p
   by_cases hp:p < n
   ·obtain ⟨a,b,g1,g2,g3,g4,g5⟩:=two_of (h2 p hp)
    exact ⟨(a,b),fun _=>⟨g1,g2,g3,g4,g5⟩⟩
   ·exact ⟨(0,0),fun h=>absurd h hp⟩
  have hD:∃ D:Nat→Nat×Nat,∀ p,p < n→(D p).1 < (D p).2∧(D p).2 < m∧B p (D p).1=true∧B p (D p).2=true ∧
    ∀ r,r < m→B p r=true→r=(D p).1∨r=(D p).2 :=
   ⟨fun p=>Classical.choose (hx p),fun p=>Classical.choose_spec (hx p)⟩
  obtain ⟨D,hD⟩:=hD
  refine ⟨D,fun p hp=>(hD p hp).1,fun p hp=>(hD p hp).2.1,fun p hp=>b1 _ _ (hD p hp).2.2.1,
   fun p hp=>b1 _ _ (hD p hp).2.2.2.1,fun r hr=>?_⟩
  refine Nat.le_trans (sm_le fun p hp=>?_) (h3 r hr)
  show b2 (r == (D p).1 || r == (D p).2)≤b2 (B p r)
  have h4:=(hD p hp).2.2.1
  have h5:=(hD p hp).2.2.2.1
  by_cases e1:r=(D p).1
  ·rw [e1,h4];simp
  ·by_cases e2:r=(D p).2
   ·rw [e2,h5];simp
   ·have t1:(r == (D p).1)=false:=by simp [e1]
    have t2:(r == (D p).2)=false:=by simp [e2]
    simp [t1,t2]
end Hall
namespace Prf
open PySem PySem.Spec PyProof.Rows L2
def agB (hs:List Int) (rs:List (List Int)) (xs:List Int):Bool:=decide (zcQ hs rs xs < 2 * (xs.length:Int))
def zbb (hs:List Int) (rs:List (List Int)) (p r:Nat):Bool:=!decide ((rs.getD r []).getD 0 0=hs.getD p 0)
def limN (rs:List (List Int)) (r:Nat):Nat:=((rs.getD r []).getD 1 0).toNat
theorem zcD (c:Nat→Bool):∀ n,Hall.sm n (fun i=>Hall.b2 (c i))=((List.range n).filter c).length
 | 0=>rfl
 | n+1=>by
   simp only [Hall.sm]
   rw [zcD c n,List.range_succ,List.filter_append,List.length_append]
   cases h:c n <;> simp [h]
theorem zdf (hs r:List Int):∀ (xs:List Int) (n0:Int),n0≤r.getD 1 0 →
  xs.foldl (zbX hs r) n0=min (r.getD 1 0) (n0+((xs.filter fun x=>!decide (r.getD 0 0=hs.getD (x-1).toNat 0)).length:Int))
 | [],n0,h=>by
   show n0=min (r.getD 1 0) (n0+0)
   omega
 | x::xs,n0,h=>by
   rw [List.foldl_cons,List.filter_cons]
   by_cases e:r.getD 0 0=hs.getD (x-1).toNat 0
   ·have e1:zbX hs r n0 x=n0:=by unfold zbX;rw [if_neg (fun z=>z.1 e)]
    rw [e1,zdf hs r xs n0 h,decide_eq_true e];simp
   ·rw [decide_eq_false e]
    by_cases hl:n0 < r.getD 1 0
    ·have e1:zbX hs r n0 x=n0+1:=by unfold zbX;rw [if_pos ⟨e,hl⟩]
     rw [e1,zdf hs r xs (n0+1) (by omega)]
     simp only [Bool.not_false,if_true,List.length_cons]
     omega
    ·have e1:zbX hs r n0 x=n0:=by unfold zbX;rw [if_neg (fun z=>hl z.2)]
     rw [e1,zdf hs r xs n0 h]
     simp only [Bool.not_false,if_true,List.length_cons]
     omega
def zdz (n:Nat) (S:Nat→Bool):List Int:=((List.range n).filter S).map fun i:Nat=>1+(i:Int)
theorem zjd (n:Nat) (S:Nat→Bool):SetM n (zdz n S):=by
 unfold zdz
 refine ⟨?_,fun x hx=>?_⟩
 ·rw [List.pairwise_map]
  refine List.Pairwise.filter _ (List.Pairwise.imp (fun h=>?_) List.pairwise_lt_range)
  omega
 ·obtain ⟨i,hi,rfl⟩:=List.mem_map.mp hx
  have:=List.mem_range.mp (List.mem_filter.mp hi).1
  omega
theorem up_ext:∀ {xs ys:List Int},xs.Pairwise (· < ·)→ys.Pairwise (· < ·)→(∀ m,m∈xs↔m∈ys)→xs=ys
 | [],[],_,_,_=>rfl
 | [],y::ys,_,_,h=>absurd ((h y).mpr List.mem_cons_self) (by simp)
 | x::xs,[],_,_,h=>absurd ((h x).mp List.mem_cons_self) (by simp)
 | x::xs,y::ys,hx,hy,h=>by
   obtain ⟨x1,x2⟩:=List.pairwise_cons.mp hx
   obtain ⟨y1,y2⟩:=List.pairwise_cons.mp hy
   have e:x=y:=by
    rcases List.mem_cons.mp ((h x).mp List.mem_cons_self) with z | z
    ·exact z
    ·rcases List.mem_cons.mp ((h y).mpr List.mem_cons_self) with z' | z'
     ·exact z'.symm
     ·have:=y1 x z;have:=x1 y z';omega
   subst e
   have nx:x∉xs:=fun z=>absurd (x1 x z) (Int.lt_irrefl _)
   have ny:x∉ys:=fun z=>absurd (y1 x z) (Int.lt_irrefl _)
   rw [up_ext x2 y2 fun m=>?_]
   by_cases hm:m=x
   ·subst hm;exact ⟨fun z=>absurd z nx,fun z=>absurd z ny⟩
   ·have:=h m
    simpa [hm] using this
theorem zhQ {n:Nat} {xs:List Int} (h:SetM n xs):zdz n (fun i=>decide (1+(i:Int)∈xs))=xs:=by
 refine up_ext (zjd n _).up h.up fun m=>⟨fun z=>?_,fun z=>?_⟩
 ·unfold zdz at z
  obtain ⟨i,hi,rfl⟩:=List.mem_map.mp z
  simpa using (List.mem_filter.mp hi).2
 ·have hr:=h.rng m z
  unfold zdz
  refine List.mem_map.mpr ⟨(m-1).toNat,List.mem_filter.mpr ⟨List.mem_range.mpr (by omega),?_⟩,by omega⟩
  have e:1+((m-1).toNat:Int)=m:=by omega
  rw [e];simpa using z
theorem zje (n:Nat) (S:Nat→Bool):(zdz n S).length=Hall.sm n (fun p=>Hall.b2 (S p)):=by
 unfold zdz;rw [List.length_map,zcD]
theorem zjf {hs:List Int} {rs:List (List Int)} {r:Nat} (h0:0≤(rs.getD r []).getD 1 0) (n:Nat) (S:Nat→Bool) :
  zbq hs (rs.getD r []) (zdz n S)=((min (limN rs r) (Hall.deg n (zbb hs rs) S r):Nat):Int):=by
 unfold zbq
 rw [zdf hs _ _ 0 h0]
 have e:((zdz n S).filter fun x=>!decide ((rs.getD r []).getD 0 0=hs.getD (x-1).toNat 0)).length=Hall.deg n (zbb hs rs) S r:=by
  unfold Hall.deg zdz
  rw [zcD,List.filter_map,List.length_map,List.filter_filter]
  congr 1
  apply List.filter_congr
  intro i _
  show (_ && _)=_
  have e1:(1+(i:Int)-1).toNat=i:=by omega
  simp only [Function.comp,e1]
  unfold zbb
  exact Bool.and_comm _ _
 rw [e]
 unfold limN
 omega
theorem ze6 {hs:List Int} {rs:List (List Int)} (h0:∀ i,i < rs.length→0≤(rs.getD i []).getD 1 0) (n:Nat) (S:Nat→Bool) :
  zcQ hs rs (zdz n S)=((Hall.room n rs.length (limN rs) (zbb hs rs) S:Nat):Int):=by
 have key:∀ i,i≤rs.length→zcQ hs (rs.take i) (zdz n S)=((Hall.room n i (limN rs) (zbb hs rs) S:Nat):Int):=by
  intro i
  induction i with
  | zero=>intro _;rfl
  | succ i ih =>
    intro hi
    rw [zeh _ _ _ _ (by omega),ih (by omega),zjf (h0 i (by omega))]
    unfold Hall.room
    simp only [Hall.sm]
    omega
 have:=key rs.length (Nat.le_refl _)
 rwa [List.take_length] at this
theorem zhl (n:Nat) (S:Nat→Bool):Hall.need n (fun _=>2) S=2 * (zdz n S).length:=by
 rw [zje]
 unfold Hall.need
 have:Hall.sm n (fun p=>if S p=true then 2 else 0)=Hall.sm n (fun p=>Hall.b2 (S p)+Hall.b2 (S p)):=by
  apply Hall.sm_congr
  intro i _
  cases S i <;> rfl
 rw [this,Hall.sm_add]
 omega
theorem zjg {hs:List Int} {rs:List (List Int)} (h0:∀ i,i < rs.length→0≤(rs.getD i []).getD 1 0) :
  Hall.Ok hs.length rs.length (limN rs) (fun _=>2) (zbb hs rs)↔∀ xs,SetM hs.length xs→agB hs rs xs=false:=by
 constructor
 ·intro h xs hx
  have e:=zhQ hx
  have h1:=h (fun i=>decide (1+(i:Int)∈xs))
  have h2:=ze6 (hs:=hs) h0 hs.length (fun i=>decide (1+(i:Int)∈xs))
  rw [zhl,e] at h1
  rw [e] at h2
  unfold agB
  rw [decide_eq_false]
  omega
 ·intro h S
  have h1:=h _ (zjd hs.length S)
  unfold agB at h1
  have h2:=of_decide_eq_false h1
  rw [ze6 h0] at h2
  rw [zhl]
  omega
theorem len2 {l:List Int} (h:l.length=2):l=[l.getD 0 0,l.getD 1 0]:=by
 match l,h with
 | [a,b],_=>rfl
theorem zfp (rows:List (List Int)) (x:Int):cntB rows x=Hall.sm rows.length (fun p=>Hall.b2 (decide (x∈rows.getD p []))):=by
 rw [zcD,zfX]
structure zjh (hs:List Int) (rs rows:List (List Int)):Prop where
 len:rows.length=hs.length
 two:∀ k,k < hs.length→(rows.getD k []).length=2
 lo:∀ k,k < hs.length→1≤(rows.getD k []).getD 0 0
 lt:∀ k,k < hs.length→(rows.getD k []).getD 0 0 < (rows.getD k []).getD 1 0
 hi:∀ k,k < hs.length→(rows.getD k []).getD 1 0≤(rs.length:Int)
 a:∀ k,k < hs.length→(rs.getD ((rows.getD k []).getD 0 0-1).toNat []).getD 0 0≠hs.getD k 0
 b:∀ k,k < hs.length→(rs.getD ((rows.getD k []).getD 1 0-1).toNat []).getD 0 0≠hs.getD k 0
 lim:∀ k,k < rs.length→(cntB rows ((k:Int)+1):Int)≤(rs.getD k []).getD 1 0
theorem zbJ {rs:List (List Int)} {h:Int} {row:List Int}:zb8 rs h row=true ↔
  row.length=2∧1≤row.getD 0 0∧row.getD 0 0 < row.getD 1 0∧row.getD 1 0≤(rs.length:Int)∧(rs.getD (row.getD 0 0-1).toNat []).getD 0 0≠h∧(rs.getD (row.getD 1 0-1).toNat []).getD 0 0≠h:=by
 unfold zb8
 constructor
 ·intro z
  simp only [Bool.and_eq_true,decide_eq_true_eq] at z
  obtain ⟨⟨z1,z2⟩,z3⟩:=z
  rw [len2 z1] at z2
  simp only [List.all_cons,List.all_nil,Bool.and_eq_true,decide_eq_true_eq,Bool.not_eq_true',decide_eq_false_iff_not] at z2
  obtain ⟨⟨⟨a1,a2⟩,a3⟩,⟨⟨b1,b2⟩,b3⟩,_⟩:=z2
  exact ⟨z1,a1,z3,b2,a3,b3⟩
 ·rintro ⟨z1,a1,z3,b2,a3,b3⟩
  have e:=len2 z1
  generalize row.getD 0 0=x at *
  generalize row.getD 1 0=y at *
  subst e
  simp only [List.all_cons,List.all_nil,Bool.and_eq_true,decide_eq_true_eq,Bool.not_eq_true',decide_eq_false_iff_not]
  refine ⟨⟨rfl,⟨⟨⟨by omega,by omega⟩,a3⟩,⟨⟨by omega,by omega⟩,b3⟩,trivial⟩⟩,z3⟩
theorem zdg {hs:List Int} {rs rows:List (List Int)}:zaS hs rs rows=true↔zjh hs rs rows:=by
 unfold zaS
 constructor
 ·intro z
  simp only [Bool.and_eq_true,decide_eq_true_eq] at z
  obtain ⟨⟨z1,z2⟩,z3⟩:=z
  have h2:∀ k,k < hs.length→_:=fun k hk=>zbJ.mp (List.all_eq_true.mp z2 k (List.mem_range.mpr hk))
  refine ⟨z1,fun k hk=>(h2 k hk).1,fun k hk=>(h2 k hk).2.1,fun k hk=>(h2 k hk).2.2.1,fun k hk=>(h2 k hk).2.2.2.1,fun k hk=>(h2 k hk).2.2.2.2.1,fun k hk=>(h2 k hk).2.2.2.2.2,fun k hk=>?_⟩
  have:=List.all_eq_true.mp z3 k (List.mem_range.mpr hk)
  have e:(0:Int)+(k:Int)+1=(k:Int)+1:=by omega
  rw [e] at this
  exact of_decide_eq_true this
 ·intro h
  simp only [Bool.and_eq_true,decide_eq_true_eq]
  refine ⟨⟨h.len,za8 fun k hk=>zbJ.mpr ⟨h.two k hk,h.lo k hk,h.lt k hk,h.hi k hk,h.a k hk,h.b k hk⟩⟩,za8 fun k hk=>?_⟩
  have e:(0:Int)+(k:Int)+1=(k:Int)+1:=by omega
  rw [e]
  exact decide_eq_true (h.lim k hk)
theorem zhR {hs:List Int} {rs rows:List (List Int)} (h:zjh hs rs rows) :
  Hall.Deal hs.length rs.length (limN rs) (zbb hs rs) (fun p=>(((rows.getD p []).getD 0 0-1).toNat,((rows.getD p []).getD 1 0-1).toNat)):=by
 refine ⟨fun p hp=>?_,fun p hp=>?_,fun p hp=>?_,fun p hp=>?_,fun r hr=>?_⟩
 ·have:=h.lo p hp;have:=h.lt p hp
  show ((rows.getD p []).getD 0 0-1).toNat < ((rows.getD p []).getD 1 0-1).toNat
  omega
 ·have:=h.lo p hp;have:=h.lt p hp;have:=h.hi p hp
  show ((rows.getD p []).getD 1 0-1).toNat < rs.length
  omega
 ·show zbb hs rs p _=true
  unfold zbb;rw [decide_eq_false (h.a p hp)];rfl
 ·show zbb hs rs p _=true
  unfold zbb;rw [decide_eq_false (h.b p hp)];rfl
 ·have h1:=h.lim r hr
  rw [zfp,h.len] at h1
  have h2:Hall.sm hs.length (fun p=>Hall.b2 (r == ((rows.getD p []).getD 0 0-1).toNat || r == ((rows.getD p []).getD 1 0-1).toNat))=Hall.sm hs.length (fun p=>Hall.b2 (decide ((r:Int)+1∈rows.getD p []))):=by
   apply Hall.sm_congr
   intro p hp
   congr 1
   have e:=len2 (h.two p hp)
   have l1:=h.lo p hp
   have l2:=h.lt p hp
   generalize (rows.getD p []).getD 0 0=x at *
   generalize (rows.getD p []).getD 1 0=y at *
   rw [e]
   by_cases e1:(r:Int)+1=x
   ·have:(r == (x-1).toNat)=true:=by simp;omega
    rw [this];simp [e1]
   ·by_cases e2:(r:Int)+1=y
    ·have:(r == (y-1).toNat)=true:=by simp;omega
     rw [this];simp [e2]
    ·have t1:(r == (x-1).toNat)=false:=by simp;omega
     have t2:(r == (y-1).toNat)=false:=by simp;omega
     rw [t1,t2];simp [e1,e2]
  show Hall.sm hs.length (fun p=>Hall.b2 (r == ((rows.getD p []).getD 0 0-1).toNat || r == ((rows.getD p []).getD 1 0-1).toNat))≤_
  rw [h2]
  unfold limN
  omega
theorem zhS {hs:List Int} {rs:List (List Int)} {D:Nat→Nat×Nat} (h0:∀ i,i < rs.length→0≤(rs.getD i []).getD 1 0)
  (h:Hall.Deal hs.length rs.length (limN rs) (zbb hs rs) D):zjh hs rs ((List.range hs.length).map fun p=>[((D p).1:Int)+1,((D p).2:Int)+1]):=by
 have g:∀ k,k < hs.length→((List.range hs.length).map fun p=>[((D p).1:Int)+1,((D p).2:Int)+1]).getD k []=[((D k).1:Int)+1,((D k).2:Int)+1]:=fun k hk=>zau hk
 refine ⟨by simp,fun k hk=>?_,fun k hk=>?_,fun k hk=>?_,fun k hk=>?_,fun k hk=>?_,fun k hk=>?_,fun k hk=>?_⟩
 ·rw [g k hk];rfl
 ·rw [g k hk];show 1≤((D k).1:Int)+1;omega
 ·rw [g k hk];have:=h.lt k hk;show ((D k).1:Int)+1 < ((D k).2:Int)+1;omega
 ·rw [g k hk];have:=h.hi k hk;show ((D k).2:Int)+1≤_;omega
 ·rw [g k hk]
  have:=h.a k hk
  unfold zbb at this
  have e:(((D k).1:Int)+1-1).toNat=(D k).1:=by omega
  show (rs.getD (((D k).1:Int)+1-1).toNat []).getD 0 0≠_
  rw [e]
  simpa using this
 ·rw [g k hk]
  have:=h.b k hk
  unfold zbb at this
  have e:(((D k).2:Int)+1-1).toNat=(D k).2:=by omega
  show (rs.getD (((D k).2:Int)+1-1).toNat []).getD 0 0≠_
  rw [e]
  simpa using this
 ·have h1:=h.lim k hk
  rw [zfp,List.length_map,List.length_range]
  have h2:Hall.sm hs.length (fun p=>Hall.b2 (decide ((k:Int)+1∈((List.range hs.length).map fun p=>[((D p).1:Int)+1,((D p).2:Int)+1]).getD p [])))=Hall.sm hs.length (fun p=>Hall.b2 (k == (D p).1 || k == (D p).2)):=by
   apply Hall.sm_congr
   intro p hp
   congr 1
   rw [g p hp]
   by_cases e1:k=(D p).1
   ·have:(k == (D p).1)=true:=by simp [e1]
    rw [this];simp [← e1]
   ·by_cases e2:k=(D p).2
    ·have:(k == (D p).2)=true:=by simp [e2]
     rw [this];simp [← e2]
    ·have t1:(k == (D p).1)=false:=by simp [e1]
     have t2:(k == (D p).2)=false:=by simp [e2]
     rw [t1,t2]
     have n1:¬((k:Int)=((D p).1:Int)):=by omega
     have n2:¬((k:Int)=((D p).2:Int)):=by omega
     simp [n1,n2]
  rw [h2]
  have:=h0 k hk
  unfold limN at h1
  omega
def nbB:List (List Int)→List (List Int)→Bool
 | t::ts,r::rs=>if t.getD 0 0=r.getD 0 0 then (if t.getD 1 0=r.getD 1 0 then nbB ts rs else decide (t.getD 1 0 < r.getD 1 0)) else decide (t.getD 0 0 < r.getD 0 0)
 | _,_=>true
theorem zhm {ts rs:List (List Int)}:∀ (k:Nat),(∀ j,j < k→(ts.getD j []).getD 0 0=(rs.getD j []).getD 0 0∧(ts.getD j []).getD 1 0=(rs.getD j []).getD 1 0)→k≤ts.length→k≤rs.length→nbB ts rs=nbB (ts.drop k) (rs.drop k):=by
 intro k
 induction k generalizing ts rs with
 | zero=>intro _ _ _;rfl
 | succ k ih =>
   intro h h1 h2
   cases ts with
   | nil=>simp at h1
   | cons x xs =>
     cases rs with
     | nil=>simp at h2
     | cons y ys =>
       obtain ⟨h3,h4⟩:=h 0 (by omega)
       rw [List.drop_succ_cons,List.drop_succ_cons,← ih (fun j hj=>h (j+1) (by omega)) (by simpa using h1) (by simpa using h2)]
       have h3':x.getD 0 0=y.getD 0 0:=h3
       have h4':x.getD 1 0=y.getD 1 0:=h4
       show (if x.getD 0 0=y.getD 0 0 then _ else _)=_
       rw [if_pos h3',if_pos h4']
theorem zei {hs:List Int} {rs:List (List Int)} (h0:∀ i,i < rs.length→0≤(rs.getD i []).getD 1 0) :
  (∃ rows,zaS hs rs rows=true)↔∀ xs,SetM hs.length xs→agB hs rs xs=false:=by
 rw [← zjg h0,← Hall.deal_iff]
 constructor
 ·rintro ⟨rows,h⟩
  exact ⟨_,zhR (zdg.mp h)⟩
 ·rintro ⟨D,h⟩
  exact ⟨_,zdg.mpr (zhS h0 h)⟩
def zbB (hs:List Int) (rs:List (List Int)):Option (List Int)→Prop
 | none=>∀ ys,SetM hs.length ys→agB hs rs ys=false
 | some xs=>SetM hs.length xs∧agB hs rs xs=true∧∀ ys,SetM hs.length ys→agB hs rs ys=true→zcP ys xs=false
def zbx (hs:List Int) (rs:List (List Int)):Option (List (List Int))→Prop
 | none=>∀ rows,zaS hs rs rows=false
 | some t=>zaS hs rs t=true∧∀ rows,zaS hs rs rows=true→nbB t rows=true
theorem zej {α:Type} {xs:List α} {d:α} {i k:Nat} (h:i < k):(xs.take k).getD i d=xs.getD i d:=by
 rw [List.getD_eq_getElem?_getD,List.getD_eq_getElem?_getD,List.getElem?_take,if_pos h]
theorem InB.take {hs:List Int} {rs:List (List Int)} (B:InB hs rs) (k:Nat):InB hs (rs.take k):=by
 have hl:(rs.take k).length≤rs.length:=by rw [List.length_take];omega
 have hk:∀ i,i < (rs.take k).length→i < k∧i < rs.length:=fun i hi=>by rw [List.length_take] at hi;omega
 refine ⟨B.lp,by have:=B.lr;omega,B.hh,fun i hi=>?_,fun i hi=>?_,fun i hi=>?_⟩ <;> rw [zej (hk i hi).1]
 ·exact B.r2 i (hk i hi).2
 ·exact B.rh i (hk i hi).2
 ·exact B.rl i (hk i hi).2
theorem InB.takeH {hs:List Int} {rs:List (List Int)} (B:InB hs rs) (k:Nat):InB (hs.take k) rs:=by
 have hl:(hs.take k).length≤hs.length:=by rw [List.length_take];omega
 refine ⟨by have:=B.lp;omega,B.lr,fun i hi=>?_,B.r2,B.rh,B.rl⟩
 rw [List.length_take] at hi
 rw [zej (by omega)]
 exact B.hh i (by omega)
theorem LL.push {K:PySem.W.Frag} {H:Hp} {p q:Addr} {rs:List (List Int)} {r:List Int} {ps:List Addr} (e:H p=some (.lst (ps.map V.ref++[.ref q]))) (hl:ps.length=rs.length) (hq:H q=some (.lst (r.map V.int)))
  (hall:∀ i,i < rs.length→H (ps.getD i 0)=some (.lst ((rs.getD i []).map V.int))):LL K H p (rs++[r]):=by
 have e':ps.map V.ref++[.ref q]=(ps++[q]).map V.ref:=by simp
 rw [e'] at e
 refine ⟨ps++[q],SqL.of e,by simp [hl],fun i hi=>?_⟩
 by_cases h:i < rs.length
 ·rw [zaB (by omega),zaB h];exact hall i h
 ·have h2:i=rs.length:=by simp only [List.length_append,List.length_cons,List.length_nil] at hi;omega
  subst h2
  rw [zaC,← hl,zaC];exact hq
theorem lexB_trans:∀ {xs ys zs:List Int},xs.length=ys.length→ys.length=zs.length→lexB xs ys=true→lexB ys zs=true→lexB xs zs=true
 | x::xs,y::ys,z::zs,l1,l2,h1,h2=>by
   unfold lexB at *
   by_cases e1:x=y
   ·rw [if_pos e1] at h1
    by_cases e2:y=z
    ·rw [if_pos e2] at h2
     rw [if_pos (e1.trans e2)]
     exact lexB_trans (by simpa using l1) (by simpa using l2) h1 h2
    ·rw [if_neg e2] at h2
     have:=of_decide_eq_true h2
     rw [if_neg (by omega)]
     exact decide_eq_true (by omega)
   ·rw [if_neg e1] at h1
    have h1':=of_decide_eq_true h1
    by_cases e2:y=z
    ·rw [if_neg (by omega)]
     exact decide_eq_true (by omega)
    ·rw [if_neg e2] at h2
     have:=of_decide_eq_true h2
     rw [if_neg (by omega)]
     exact decide_eq_true (by omega)
 | [],_,_,_,_,h1,_=>by unfold lexB at h1;cases h1
 | _::_,[],_,_,_,h1,_=>by unfold lexB at h1;cases h1
 | _::_,_::_,[],_,_,_,h2=>by unfold lexB at h2;cases h2
theorem zdM {xs ys zs:List Int} (h1:zcP xs ys=true) (h2:zcP ys zs=true):zcP xs zs=true:=by
 unfold zcP at *
 by_cases e1:(xs.length:Int)=ys.length
 ·rw [if_pos e1] at h1
  by_cases e2:(ys.length:Int)=zs.length
  ·rw [if_pos e2] at h2
   rw [if_pos (e1.trans e2)]
   exact lexB_trans (by omega) (by omega) h1 h2
  ·rw [if_neg e2] at h2
   have:=of_decide_eq_true h2
   rw [if_neg (by omega)]
   exact decide_eq_true (by omega)
 ·rw [if_neg e1] at h1
  have h1':=of_decide_eq_true h1
  by_cases e2:(ys.length:Int)=zs.length
  ·rw [if_neg (by omega)]
   exact decide_eq_true (by omega)
  ·rw [if_neg e2] at h2
   have:=of_decide_eq_true h2
   rw [if_neg (by omega)]
   exact decide_eq_true (by omega)
theorem lexB_self:∀ (xs:List Int),lexB xs xs=false
 | []=>rfl
 | x::xs=>by unfold lexB;rw [if_pos rfl];exact lexB_self xs
theorem zek (xs:List Int):zcP xs xs=false:=by
 unfold zcP;rw [if_pos rfl];exact lexB_self xs
def zf0 (m:Int):Int→List Int→Bool
 | _,[]=>true
 | l,x::r=>decide (l < x) && decide (x≤m) && zf0 m x r
theorem zdA {m:Int}:∀ {l:Int} {xs:List Int},zf0 m l xs=true→xs.Pairwise (· < ·)∧∀ x∈xs,l < x∧x≤m
 | l,[],_=>⟨List.Pairwise.nil,by simp⟩
 | l,x::r,h=>by
   unfold zf0 at h
   simp only [Bool.and_eq_true,decide_eq_true_eq] at h
   obtain ⟨⟨h1,h2⟩,h3⟩:=h
   obtain ⟨p,b⟩:=zdA h3
   refine ⟨List.pairwise_cons.mpr ⟨fun y hy=>(b y hy).1,p⟩,fun y hy=>?_⟩
   rcases List.mem_cons.mp hy with rfl | hy
   ·exact ⟨h1,h2⟩
   ·have:=b y hy;omega
def zel (x y s:Int):Bool:=decide (x-y≤s∧y-x≤s)
def min2 (x y:Int):Int:=if y < x then y else x
def max2 (x y:Int):Int:=if y > x then y else x
def zj8 (x y s:Int):List Int:=if zel x y s then (if (x+y) % 2=1 then [x+y,2] else [(x+y) / 2,1]) else [min2 x y,1]
def mid3 (x y z:Int):Int:=x+y+z-max2 (max2 x y) z-min2 (min2 x y) z
theorem zj9 (x y z:Int):mid3 x y z=x∨mid3 x y z=y∨mid3 x y z=z:=by
 unfold mid3 min2 max2
 repeat' split
 all_goals omega
def zbC (rs rows:List (List Int)):List Int:=(List.range rs.length).map fun k=>(rs.getD k []).getD 1 0-(cntB rows ((k:Int)+1):Int)
structure Low (top bottom t b:Int):Prop where
 t0:0≤t
 b1:1≤b
 eq:t * bottom=top * b
 co:Int.gcd t b=1
 tl:t≤top
 bl:b≤bottom
def leV (m:Int):V→Bool
 | .int i=>decide (i≤m)
 | _=>false
def neV (hs:List Int) (h:Int):V→Bool
 | .int x=>!decide (hs.getD (x-1).toNat 0=h)
 | _=>false
theorem zlJ (hs:List Int) (h:Int) (xs:List Int):((xs.map V.int).filter (neV hs h)).length=(xs.filter fun x=>!decide (h=hs.getD (x-1).toNat 0)).length:=by
 rw [List.filter_map,List.length_map]
 congr 1
 apply List.filter_congr
 intro x _
 show (!decide _)=(!decide _)
 congr 1
 exact decide_eq_decide.mpr ⟨Eq.symm,Eq.symm⟩
theorem zf1 (hs:List Int) (h l:Int) (xs:List Int) (h0:0≤l):zbq hs [h,l] xs=min l (((xs.map V.int).filter (neV hs h)).length:Int):=by
 unfold zbq
 rw [zdf hs [h,l] xs 0 h0,zlJ]
 show min l (0+_)=_
 rw [Int.zero_add]
 rfl
end Prf
namespace Prf
open PySem PySem.Spec PyProof.Rows L2
end Prf
namespace L2
open PySem PySem.Spec PyProof.Rows
theorem sum_rng:∀ (ns:List Int) (B:Int),0≤B→(∀ x∈ns,0≤x∧x≤B)→0≤ns.sum∧ns.sum≤B * ns.length
 | [],B,hB,_=>by simp
 | n::ns,B,hB,h=>by
   have h1:=h n List.mem_cons_self
   have h2:=sum_rng ns B hB fun x hx=>h x (List.mem_cons_of_mem _ hx)
   rw [List.sum_cons,List.length_cons]
   have e:B * ((ns.length+1:Nat):Int)=B * ns.length+B:=by
    rw [Int.natCast_add,Int.mul_add];simp
   omega
section
variable {X:Cx} {K:PySem.W.Frag}
def cSum (K:PySem.W.Frag):List V→Hp→VK→Prop:=fun xs H Q=>∃ (a:Addr) (ns:List Int),xs=[.ref a]∧SqL K H a (ns.map V.int)∧(∀ x∈ns,0≤x∧x≤1000000)∧ns.length≤1000∧Q (.int ns.sum) H
theorem zf2 (hK:X.K=K) (hc:X.calm=true):zcs X (.builtin "sum") (cSum K):=by
 subst hK
 intro pins s σ H xs us Q I r h
 obtain ⟨a,ns,rfl,hl,hb,hz,q⟩:=h
 obtain ⟨u,rfl,ru⟩:=r.one
 cases ru
 obtain ⟨its,rv,pl,_⟩:=I.list hl
 have hi:=intsAre_of rv
 have ha:AllInts its.toArray:=hi.allInts
 obtain ⟨zs,ez⟩:=ha.items
 have en:zs.toList.map (·.1)=ns:=by
  have h1:=nums_intItems zs
  rw [← ez] at h1
  rw [← h1]
  exact hi.numsOf
 refine sum_intList (xs:=zs) (I.ok.hd hc) (by rw [← ez];exact pl.isList) (fun j hj=>?_) fun h' tk t' k=>⟨.int ns.sum,H,I.kept k,⟨t',?_⟩,q⟩
 ·rw [numAt_eq,preSum_eq,en]
  have hjn:j < ns.length:=by rw [← en];simpa using hj
  have h0:=hb (ns.getD j 0) (by rw [List.getD_eq_getElem?_getD,List.getElem?_eq_getElem hjn];exact List.getElem_mem hjn)
  have h1:=sum_rng (ns.take (j+1)) 1000000 (by decide) fun x hx=>hb x (List.mem_of_mem_take hx)
  have h2:((ns.take (j+1)).length:Int)≤1000:=by rw [List.length_take];omega
  exact ⟨⟨by omega,by omega⟩,⟨by omega,by omega⟩⟩
 ·rw [preSum_eq,en,List.take_of_length_le (by rw [← en];simp)]
def zmG (K:PySem.W.Frag):List V→Hp→VK→Prop:=fun xs H Q=>∃ (a:Addr) (ns:List Int),xs=[.ref a]∧SqL K H a (ns.map V.int)∧0 < ns.length∧∀ m∈ns,(∀ x∈ns,m≤x)→Q (.int m) H
theorem zji (hK:X.K=K) (hc:X.calm=true):zcs X (.builtin "min") (zmG K):=by
 subst hK
 intro pins s σ H xs us Q I r h
 obtain ⟨a,ns,rfl,hl,hz,q⟩:=h
 obtain ⟨u,rfl,ru⟩:=r.one
 cases ru
 obtain ⟨its,rv,pl,_⟩:=I.list hl
 have hi:=intsAre_of rv
 have ha:AllInts its.toArray:=hi.allInts
 obtain ⟨zs,ez⟩:=ha.items
 have en:zs.toList.map (·.1)=ns:=by
  have h1:=nums_intItems zs
  rw [← ez] at h1
  rw [← h1]
  exact hi.numsOf
 have hs:0 < zs.size:=by
  have:zs.size=ns.length:=by rw [← en];simp
  omega
 refine min_intList (xs:=zs) (I.ok.hd hc) (by rw [← ez];exact pl.isList) hs fun v h' tk hv k=>?_
 obtain ⟨t,rfl⟩:=intItems_at hv
 obtain ⟨h1,h2⟩:=argBest_lt (numAt zs) (zs.size-1)
 refine ⟨.int _,H,I.kept k,⟨t,rfl⟩,q _ ?_ fun x hx=>?_⟩
 ·rw [numAt_eq,← en]
  exact getD_mem (by rw [List.length_map,Array.length_toList];omega)
 ·rw [← en] at hx
  obtain ⟨j,hj,ej⟩:=mem_getD (d:=0) hx
  rw [← ej]
  rw [List.length_map,Array.length_toList] at hj
  rw [← numAt_eq]
  exact h2 j (by omega)
def zjj (K:PySem.W.Frag):List V→Hp→VK→Prop:=fun xs H Q=>∃ (a:Addr) (ns:List Int),xs=[.ref a]∧SqL K H a (ns.map V.int)∧ns.length < 64∧∀ ns':List Int,ns'.Perm ns→ns'.Pairwise (·≤·)→∀ p,H p=none→Q (.ref p) (upd H p (.lst (ns'.map V.int)))
theorem zf3 (hK:X.K=K):zcs X (.builtin "sorted") (zjj K):=by
 subst hK
 intro pins s σ H xs us Q I r h
 obtain ⟨a,ns,rfl,hl,hz,q⟩:=h
 obtain ⟨u,rfl,ru⟩:=r.one
 cases ru
 obtain ⟨its,rv,pl,_⟩:=I.list hl
 have hi:=intsAre_of rv
 have hlen:its.length < 64:=by rw [← rv.length,List.length_map];exact hz
 refine sorted_ints pl.isList hi hlen fun out ns' a1 a2 a3=>?_
 obtain ⟨e,he⟩:=sortedAll_at s.heap its out
 have hf:H (s.heap.objs.size+1)=none:=I.hok.fresh (Nat.le_succ _)
 refine ⟨.ref (s.heap.objs.size+1),_,I.laid (t':=s.toks) (o:=.lst (ns'.map V.int)) (fun b o x=>sortedAll_old x) (Nat.le_succ _) ?_,rfl,q ns' a2 a3 _ hf⟩
 refine ⟨by rw [List.length_map,a2.length_eq,sizeLine_eq];omega,out.toList,e,vals_ints a1,?_⟩
 exact he
def cAll (K:PySem.W.Frag):List V→Hp→VK→Prop:=fun xs H Q=>∃ (a:Addr) (bs:List Bool),xs=[.ref a]∧SqL K H a (bs.map V.bl)∧Q (.bl (bs.all id)) H
theorem all_range (bs:List Bool) (f:Nat→Bool) (h:∀ i,i < bs.length→f i=bs.getD i true):(List.range bs.length).all f=bs.all id:=by
 rw [Bool.eq_iff_iff,List.all_eq_true,List.all_eq_true]
 constructor
 ·intro g x hx
  obtain ⟨i,hi,rfl⟩:=List.getElem_of_mem hx
  have:=g i (List.mem_range.mpr hi)
  rw [h i hi,List.getD_eq_getElem?_getD,List.getElem?_eq_getElem hi] at this
  exact this
 ·intro g i hi
  have hi':=List.mem_range.mp hi
  rw [h i hi',List.getD_eq_getElem?_getD,List.getElem?_eq_getElem hi']
  exact g _ (List.getElem_mem hi')
theorem zjk (hK:X.K=K) (hc:X.calm=true):zcs X (.builtin "all") (cAll K):=by
 subst hK
 intro pins s σ H xs us Q I r h
 obtain ⟨a,bs,rfl,hl,q⟩:=h
 obtain ⟨u,rfl,ru⟩:=r.one
 cases ru
 obtain ⟨its,rv,pl,_⟩:=I.list hl
 have Ls:=pl.isList
 obtain ⟨ol,el,_⟩:=id Ls
 have Ll:=Heap.lt_size el
 have lb:bs.length=its.length:=by have:=rv.length;rw [List.length_map] at this;exact this
 refine call_all_walk (wpAny_pyIter_list Ls ⟨_,_,_,_,_,_,fun i=>bs.getD i true,rfl,Walks.list (A:=X.A.in1) (I.ok.hd hc) s.heap.objs.size a (Nat.ne_of_lt Ll) its.toArray,⟨?_,?_⟩,?_,?_⟩)
 ·exact ⟨_,Heap.get?_push_size _ rfl,rfl,rfl⟩
 ·exact Ls.at fun o x=>Heap.get?_push_of_some _ x
 ·intro i v s' Q' E' hv hq
  rw [List.getElem?_toArray] at hv
  have hi:i < its.length:=(List.getElem?_eq_some_iff.mp hv).1
  obtain ⟨u',hu,ru⟩:=rv.get (i:=i) (x:=.bl (bs.getD i true)) (by rw [List.getElem?_map,List.getElem?_eq_getElem (by omega),List.getD_eq_getElem?_getD,List.getElem?_eq_getElem (by omega)];rfl)
  have e:v=.bool (bs.getD i true):=by
   rw [hu] at hv
   rw [← Option.some.inj hv]
   exact ru
  subst e
  exact wpAny_truthy_bool hq
 ·intro h' tk k
  have e:(List.range its.toArray.size).all (fun i=>bs.getD i true)=bs.all id:=by
   rw [List.size_toArray,← lb]
   exact all_range bs _ fun i _=>rfl
  rw [e]
  exact ⟨.bl _,H,I.kept fun b o x=>k b o (by have:=Nat.ne_of_lt (Heap.lt_size x);simpa using this) (Heap.get?_push_of_some _ x),rfl,q⟩
end
section
variable {σ:St} {H:Hp} {Q:VK} {K:PySem.W.Frag} {a:Addr} {ns:List Int} {bs:List Bool}
theorem zhn (h:SqL K H a (ns.map V.int)) (hb:∀ x∈ns,0≤x∧x≤1000000) (hz:ns.length≤1000) (q:Q (.int ns.sum) H):cSum K [.ref a] H Q:=⟨a,ns,rfl,h,hb,hz,q⟩
theorem zjl (h:SqL K H a (ns.map V.int)) (hz:0 < ns.length) (q:∀ m∈ns,(∀ x∈ns,m≤x)→Q (.int m) H):zmG K [.ref a] H Q:=⟨a,ns,rfl,h,hz,q⟩
theorem zgG (h:SqL K H a (ns.map V.int)) (hz:ns.length < 64) (q:∀ ns':List Int,ns'.Perm ns→ns'.Pairwise (·≤·)→∀ p H2,H p=none→Same H H2→H2 p=some (.lst (ns'.map V.int))→Q (.ref p) H2):zjj K [.ref a] H Q :=
 ⟨a,ns,rfl,h,hz,fun ns' h1 h2 p hp=>q ns' h1 h2 p _ hp (zaQ hp) zar⟩
theorem zka (h:SqL K H a (bs.map V.bl)) (q:Q (.bl (bs.all id)) H):cAll K [.ref a] H Q:=⟨a,bs,rfl,h,q⟩
end
end L2
namespace L2
open PySem PySem.Spec PyProof.Rows
section
variable {σ:St} {H:Hp} {Q:VK} {K:PySem.W.Frag} {js:List Nat} {te:TE} {tc:TT} {J:It} {n k:Nat} {x y:Nat→V} {g:TG} {w:Nat→St}
def zgH (J:It) (k:Nat) (js:List Nat) (g:TG) (tc:TT) (te:TE) (σ:St) (H:Hp) (Q:VK):Prop:=∀ p,H p=none →
 ∃ W:Nat→Nat→St→Hp→Prop,(∃ m,W 0 m (capS k js σ) (upd H p (.lst [])))∧∀ i m σc H,W i m σc H →
  (J.stop i H∧Q (.ref p) H)∨(J.go i H∧∃ N:St→Hp→Prop,(∀ σ' H',N σ' H'→∃ m',m' < m∧W (i+1) m' σ' H')∧∀ x H',J.yld i H x H' →
   g x σc H' fun σ2 H2=>tc σ2 H2 fun b H3=>if b=true then te σ2 H3 fun v H4=>∃ ys,H4 p=some (.lst ys)∧ys.length < sizeLine∧N σ2 (upd H4 p (.lst (ys++[v]))) else N σ2 H3)
theorem zbu (h:zgH J 1 js (zcr 0) tc te σ H Q):zee J js tc te σ H Q:=h
structure zbK (J:It) (n k:Nat) (js:List Nat) (σ:St) (g:TG) (w:Nat→St) (H:Hp):Prop where
 len:∀ i,(w i).length=k
 go:∀ i H',Same H H'→i < n→J.go i H'
 stop:∀ H',Same H H'→J.stop n H'
 yld:∀ i H' v H2 (u:St) (N:St→Hp→Prop),Same H H'→i < n→u.length=k→J.yld i H' v H2→(∀ H3,Same H' H3→N (w i++capV js σ) H3)→g v (u++capV js σ) H2 N
theorem zbK.one (it:Iter J n x H):zbK J n 1 js σ (zcr 0) (fun i=>[some (x i)]) H where
 len:=fun _=>rfl
 go:=it.go
 stop:=it.stop
 yld:=fun i H' v H2 u N s hi hu hy q=>by
  obtain ⟨rfl,rfl⟩:=it.yld i H' v H2 s hi hy
  match u,hu with
  | [a],_=>exact q _ (Same.refl _)
theorem zem (T:zbK J n k js σ g w H) (hz:n≤1000) (c:Nat→Bool) (f:Nat→V)
  (ht:∀ i H' Q',i < n→Same H H'→(∀ H2,Same H' H2→Q' (c i) H2)→tc (w i++capV js σ) H' Q')
  (he:∀ i H' Q',i < n→Same H H'→c i=true→(∀ H2,Same H' H2→Q' (f i) H2)→te (w i++capV js σ) H' Q')
  (hq:∀ p H2,H p=none→Same H H2→H2 p=some (.lst (((List.range n).filter c).map f))→Q (.ref p) H2):zgH J k js g tc te σ H Q:=by
 intro p hp
 refine ⟨fun i m σc H'=>m=n-i∧i≤n∧(∃ u:St,u.length=k∧σc=u++capV js σ)∧Same H H'∧H' p=some (.lst (((List.range i).filter c).map f)),⟨n,by simp,Nat.zero_le _,⟨List.replicate k none,List.length_replicate,rfl⟩,zaQ hp,zar⟩,?_⟩
 rintro i m σc H' ⟨rfl,hi,⟨u,hu,rfl⟩,s,hpp⟩
 have hlen:(((List.range i).filter c).map f).length≤i:=by
  rw [List.length_map]
  exact Nat.le_trans (List.length_filter_le _ _) (by simp)
 have hsl:n < sizeLine:=za0 hz
 by_cases hlt:i < n
 ·refine .inr ⟨T.go i _ s hlt,fun σ' H'=>(∃ u:St,u.length=k∧σ'=u++capV js σ)∧Same H H'∧H' p=some (.lst (((List.range (i+1)).filter c).map f)),fun σ' H' ⟨h1,h2,h3⟩=>⟨n-(i+1),by omega,rfl,hlt,h1,h2,h3⟩,fun v H2 hy=>?_⟩
  have e:(List.range (i+1)).filter c=(List.range i).filter c++if c i=true then [i] else []:=by
   rw [List.range_succ,List.filter_append]
   cases hc:c i <;> simp [hc]
  refine T.yld i H' v H2 u _ s hlt hu hy fun H3 s3=>?_
  refine ht i _ _ hlt (s.trans s3) fun H4 s4=>?_
  have s34:=s3.trans s4
  cases hc:c i with
  | false =>
    rw [if_neg Bool.false_ne_true]
    refine ⟨⟨w i,T.len i,rfl⟩,s.trans s34,?_⟩
    rw [e,hc]
    simpa using s34 _ _ hpp
  | true =>
    rw [if_pos rfl]
    refine he i _ _ hlt (s.trans s34) hc fun H5 s5=>?_
    refine ⟨_,s5 _ _ (s34 _ _ hpp),by omega,⟨w i,T.len i,rfl⟩,zd4 ((s.trans s34).trans s5) hp,?_⟩
    rw [zar,e,hc]
    simp
 ·have e:i=n:=by omega
  subst e
  exact .inl ⟨T.stop _ s,hq p _ hp s hpp⟩
theorem zby (T:zbK J n k js σ g w H) (hz:n≤1000) (f:Nat→List Int)
  (he:∀ i H' Q',i < n→Same H H'→(∀ q H2,H' q=none→Same H' H2→H2 q=some (.lst ((f i).map V.int))→Q' (.ref q) H2)→te (w i++capV js σ) H' Q')
  (hq:∀ p H2,RowsAt H p ((List.range n).map f) H2→Q (.ref p) H2):zgH J k js g tTT te σ H Q:=by
 intro p hp
 refine ⟨fun i m σc H'=>m=n-i∧i≤n∧(∃ u:St,u.length=k∧σc=u++capV js σ)∧RowsAt H p ((List.range i).map f) H',⟨n,by simp,Nat.zero_le _,⟨List.replicate k none,List.length_replicate,rfl⟩,RowsAt.start hp (zaQ hp) zar⟩,?_⟩
 rintro i m σc H' ⟨rfl,hi,⟨u,hu,rfl⟩,R⟩
 have s:=R.same
 have hsl:n < sizeLine:=za0 hz
 by_cases hlt:i < n
 ·refine .inr ⟨T.go i _ s hlt,fun σ' H'=>(∃ u:St,u.length=k∧σ'=u++capV js σ)∧RowsAt H p ((List.range (i+1)).map f) H',fun σ' H' ⟨h1,h2⟩=>⟨n-(i+1),by omega,rfl,hlt,h1,h2⟩,fun v H2 hy=>?_⟩
  refine T.yld i H' v H2 u _ s hlt hu hy fun H3 s3=>?_
  refine r_tt ?_
  rw [if_pos rfl]
  refine he i _ _ hlt (s.trans s3) fun q H4 f4 s4 e4=>?_
  obtain ⟨zs,hzs,hzl⟩:=R.lst
  have hzn:zs.length=i:=by rw [hzl];simp
  have hp4:=s4 _ _ (s3 _ _ hzs)
  refine ⟨zs,hp4,by omega,⟨w i,T.len i,rfl⟩,?_⟩
  rw [List.range_succ,List.map_append]
  exact R.push (s3.free f4) (s3.trans s4) e4 hp4 But.upd zar
 ·have e:i=n:=by omega
  subst e
  exact .inl ⟨T.stop _ s,hq p _ R⟩
end
end L2
namespace L2
open PySem PySem.Spec PyProof.Rows
section
variable {prog:Program} {w:World} {A:Around} {E:Value→Shared→Prop} {s:Shared}
abbrev kwS (v:Value):List (Str×Value):=[(Str.ofString "start",v)]
theorem zhT (a v:Value):checkTypeCall "enumerate" ⟨[a],kwS v⟩=pure ():=by kernel_rfl
theorem zjm (a v:Value):checkBuiltinCall "enumerate.__new__" ⟨[.type "enumerate",a],kwS v⟩=pure ():=by kernel_rfl
theorem zhU (a b v:Value):argsOk "object.__init__" ⟨[a,b],kwS v⟩:=by unfold argsOk;kernel_rfl
theorem zgI (l:Addr) (items:Array Value) (n:Nat) (dct:Option Addr) (sl:Array (Option Value)) (t:Tok) :
  Meets (Builtin.«enumerate.__new__» ⟨[.type "enumerate",.ref l],kwS (.int 1 t)⟩) (fun _ R s=>s.heap.get? l=some { cls:=.type "list",dict:=dct,data:=.seq items n,slots:=sl } ∧
   R (.ok (.ret (.ref (s.heap.push { cls:=.type "list_iterator",data:=.fields #[.ref l,.int 0 0] }).objs.size)))
    { s with heap:=(s.heap.push { cls:=.type "list_iterator",data:=.fields #[.ref l,.int 0 0] }).push { cls:=.type "enumerate",data:=.fields #[.none,.bool false,.ref s.heap.objs.size,rawInt 1,.none,.none] } }) :=
 .of_wp fun prog w A R s ⟨hl,h⟩=>by
  obtain ⟨hp,g,d,tk,os⟩:=s
  have hsub:=sub_enumerate
  have hL:Heap.IsList (Shared.heap ⟨hp,g,d,tk,os⟩) l items:=⟨_,hl,rfl,n,rfl⟩
  wp_walk using AutoSeq1.wpAny_loadPart' hl
  refine wpAny_stack_any fun st=>wpAny_pure ?_
  split
  ·rename_i c _ _ _ _ _
   cases hcc:(c == Value.type "enumerate")
   ·wp_walk using AutoSeq1.wpAny_loadPart' hl,wpAny_pyIter_list hL
    exact ⟨_,rfl,h⟩
   ·wp_walk using AutoSeq1.wpAny_loadPart' hl,wpAny_pyIter_list hL
    exact ⟨_,rfl,h⟩
  ·wp_walk using AutoSeq1.wpAny_loadPart' hl,wpAny_pyIter_list hL
   exact ⟨_,rfl,h⟩
theorem zgJ (self a v:Value):Meets (Builtin.«object.__init__» ⟨[self,a],kwS v⟩) (fun _ R s=>s.TypeIs self "enumerate"∧R (.ok (.ret .none)) s):=by
 refine Meets.of_wp fun prog w A R s hs=>?_
 obtain ⟨hT,hq⟩:=hs
 have hl:=F.called_enumerate.init.lookup
 have hm:=F.called_enumerate.made
 have hne:(some "enumerate.__new__" != some "object.__new__")=true:=by decide
 repeat (any_goals (first | (assumption) | wp_step))
 exact ⟨_,rfl,hq⟩
theorem zhV {l:Addr} {items:Array Value} {t:Tok} {Q:Value→Shared→Prop} (hL:s.heap.IsList l items)
  (h:∀ h',IsEnum h' (s.heap.objs.size+1) s.heap.objs.size 1 .none→h'.IsListIter s.heap.objs.size l 0→(∀ b o,s.heap.get? b=some o→h'.get? b=some o)→Q (.ref (s.heap.objs.size+1)) { s with heap:=h' }) :
  wpAny (model prog w) A (call (.type "enumerate") [.ref l] (kwS (.int 1 t))) Q E s:=by
 obtain ⟨⟨c,dct,dt,sl⟩,hl,hc,n,hd⟩:=hL
 obtain rfl:c=.type "list":=hc
 obtain rfl:dt=.seq items n:=hd
 have ft:=F.called_enumerate
 obtain ⟨c0,tl,hmro⟩:=ft.mro
 have hmade:=ft.made
 have hsub:=ft.sub
 have hct:=zhT (.ref l) (.int 1 t)
 refine wpAny_call (codeAny_of_tree ?_)
 show wpAny _ _ (callAny (.type "enumerate") _) _ _ _
 refine wpAny_pure ⟨Code.quiet_builtin _ (by decide +kernel),codeAny_builtin F.entry_type_call ?_⟩
 rw [Around.under_plain (weight_type_call_type "enumerate" [.ref l] (kwS (.int 1 t))) (units_type_call_type "enumerate" [.ref l] (kwS (.int 1 t)))]
 have n1:=ft.notType
 have n2:=ft.canCreate
 repeat (any_goals (first | (assumption) | wp_step))
 have hz:(s.heap.push { cls:=.type "list_iterator",data:=.fields #[.ref l,.int 0 0] }).objs.size=s.heap.objs.size+1:=Heap.size_push ..
 let R0:Result→Shared→Prop:=fun r s'=>r=.ok (.ret (.ref (s.heap.objs.size+1)))∧∃ h',s'={ s with heap:=h' }∧IsEnum h' (s.heap.objs.size+1) s.heap.objs.size 1 .none∧h'.IsListIter s.heap.objs.size l 0∧(∀ b o,s.heap.get? b=some o→h'.get? b=some o)
 have key:codeAny (model prog w) A.in1 (Code.call (.builtin "enumerate.__new__") ⟨[.type "enumerate",.ref l],kwS (.int 1 t)⟩) R0 s:=by
  refine codeAny_call_builtin ft.plain F.entry_enumerate_new (wpAny_of_eq (zjm _ _) (zgI l items n dct sl t prog w A.in1 R0 s ⟨hl,?_⟩))
  rw [hz]
  refine ⟨rfl,_,rfl,?_,⟨_,Heap.get?_push_of_some _ (Heap.get?_push_size _ rfl),rfl,rfl⟩,fun b o x=>Heap.get?_push_of_some _ (Heap.get?_push_of_some _ x)⟩
  have e:=Heap.get?_push_size (s.heap.push { cls:=.type "list_iterator",data:=.fields #[.ref l,.int 0 0] }) (o:={ cls:=.type "enumerate",data:=.fields #[.none,.bool false,.ref s.heap.objs.size,rawInt 1,.none,.none] }) rfl
  rw [hz] at e
  exact e
 refine codeAny_mono key fun r s1 hr=>?_
 obtain ⟨rfl,h',rfl,a1,a2,a3⟩:=hr
 have hT:Shared.TypeIs { s with heap:=h' } (.ref (s.heap.objs.size+1)) "enumerate":=⟨_,a1,rfl⟩
 have hli:=ft.init.lookup
 have hbi:=ft.init.bind (.ref (s.heap.objs.size+1))
 repeat (any_goals (first | (assumption) | wp_step))
 let R1:Result→Shared→Prop:=fun r s'=>r=.ok (.ret .none)∧s'={ s with heap:=h' }
 have key2:codeAny (model prog w) A.in1 (Code.call (.builtin "object.__init__") ⟨[.ref (s.heap.objs.size+1),.ref l],kwS (.int 1 t)⟩) R1 { s with heap:=h' } :=
  codeAny_call_builtin ft.init.plain F.entry_object_init (ft.init.check _ _ _ _ _ _ _ _ hT (zhU _ _ _) (zgJ _ _ _ prog w A.in1 R1 _ ⟨hT,rfl,rfl⟩))
 refine codeAny_mono key2 fun r s2 hr=>?_
 obtain ⟨rfl,rfl⟩:=hr
 repeat (any_goals (first | (assumption) | wp_step))
 exact h _ a1 a2 a3
theorem zhW {e it l:Addr} {i:Nat} {c:Int} {xs:Array Value} {x old:Value} {Q:Value→Shared→Prop} (he:IsEnum s.heap e it c old) (hit:s.heap.IsListIter it l i) (hl:s.heap.IsList l xs) (hx:xs[i]? = some x) (ne:e≠it)
  (q:∀ k,IsEnumOut k e it (c+1) x s.heap.objs.size→k.IsListIter it l (i+1)→k.get? s.heap.objs.size=some { cls:=.type "tuple",data:=.seq #[.int c s.toks,x] } →
   (∀ b o,b≠e→b≠it→s.heap.get? b=some o→k.get? b=some o)→Q (.ref s.heap.objs.size) { s with heap:=k,toks:=s.toks+1 }) :
  wpAny (model prog w) A (Builtin.«enumerate.__next__» ⟨[.ref e],[]⟩) (fun fin s'=>∃ v,fin=.done (.ret v)∧Q v s') E s:=by
 obtain ⟨g0,ge,dr,tk,os⟩:=s
 have elt:e < g0.objs.size:=Heap.lt_size he
 show wpAny _ _ (field (.ref e) 2 >>= _) _ _ _
 refine wpAny_bind (wpAny_field he rfl (x:=.ref it) rfl (wpAny_bind (wpAny_nextOf_list_item hit hl hx fun g1 i1 b1=>?_)))
 replace b1:Heap.SameBut it g0 g1:=b1
 have e1:IsEnum g1 e it c old:=(b1.2 e ne).trans he
 show wpAny _ _ (field (.ref e) 3 >>= _) _ _ ⟨g1,ge,dr,tk,os⟩
 refine wpAny_bind (wpAny_field e1 rfl (x:=rawInt c) rfl ?_)
 show wpAny _ _ (field (.ref e) 4 >>= _) _ _ ⟨g1,ge,dr,tk,os⟩
 refine wpAny_bind (wpAny_field e1 rfl (x:=.none) rfl ?_)
 show wpAny _ _ (mkInt c >>= _) _ _ ⟨g1,ge,dr,tk,os⟩
 refine wpAny_bind (wpAny_mkInt ?_)
 show wpAny _ _ (setField (.ref e) 3 (rawInt (c+1)) >>= _) _ _ ⟨g1,ge,dr,tk+1,os⟩
 refine wpAny_bind (wpAny_setField_rec e1 (by simp) fun g2 e2 b2=>?_)
 replace b2:Heap.SameBut e g1 g2:=b2
 replace e2:IsEnum g2 e it (c+1) old:=e2
 show wpAny _ _ (setField (.ref e) 4 .none >>= _) _ _ ⟨g2,ge,dr,tk+1,os⟩
 refine wpAny_bind (wpAny_setField_rec e2 (by simp) fun g3 e3 b3=>?_)
 replace b3:Heap.SameBut e g2 g3:=b3
 replace e3:IsEnum g3 e it (c+1) old:=e3
 show wpAny _ _ (newTuple [.int c tk,x] >>= _) _ _ ⟨g3,ge,dr,tk+1,os⟩
 refine wpAny_bind (wpAny_newTuple ?_)
 have z3:g3.objs.size=g0.objs.size:=by rw [b3.1,b2.1,b1.1]
 have keep3:∀ b o,b≠e→b≠it→g0.get? b=some o→g3.get? b=some o:=fun b o n1 n2 y=>b3.extBut b o n1 (b2.extBut b o n1 (b1.extBut b o n2 y))
 have i3:g3.IsListIter it l (i+1):=(i1.extBut b2.extBut ne.symm).extBut b3.extBut ne.symm
 have e4:IsEnum (g3.push { cls:=.type "tuple",data:=.seq #[.int c tk,x] }) e it (c+1) old:=Heap.get?_push_of_some _ e3
 have t4:(g3.push { cls:=.type "tuple",data:=.seq #[.int c tk,x] }).get? g0.objs.size=some { cls:=.type "tuple",data:=.seq #[.int c tk,x] }:=by rw [← z3];exact Heap.get?_push_size _ rfl
 have keep4:∀ b o,b≠e→b≠it→g0.get? b=some o→(g3.push { cls:=.type "tuple",data:=.seq #[.int c tk,x] }).get? b=some o:=fun b o n1 n2 y=>Heap.get?_push_of_some _ (keep3 b o n1 n2 y)
 have i4:(g3.push { cls:=.type "tuple",data:=.seq #[.int c tk,x] }).IsListIter it l (i+1):=i3.at fun o y=>Heap.get?_push_of_some _ y
 rw [z3]
 generalize g3.push { cls:=.type "tuple",data:=.seq #[.int c tk,x] }=g4 at e4 t4 keep4 i4
 show wpAny _ _ (Builtin.SmallTypes.ownedTupleIsFree (.ref e) >>= _) _ _ ⟨g4,ge,dr,tk+1,os⟩
 refine wpAny_bind ?_
 unfold Builtin.SmallTypes.ownedTupleIsFree
 refine wpAny_bind (wpAny_field e4 rfl (x:=.none) rfl (wpAny_pure ?_))
 simp only [if_true]
 refine wpAny_bind (wpAny_rule (wpAny_bind (wpAny_field e4 rfl (x:=old) rfl (wpAny_bind (wpAny_setField_rec e4 (by simp) fun g5 e5 b5=>?_)))))
 replace b5:Heap.SameBut e g4 g5:=b5
 replace e5:IsEnum g5 e it (c+1) x:=e5
 show wpAny _ _ (Builtin.SmallTypes.ownedTupleHandOut (.ref e) (.ref g0.objs.size) >>= _) _ _ ⟨g5,ge,dr,tk+1,os⟩
 refine wpAny_bind ?_
 unfold Builtin.SmallTypes.ownedTupleHandOut
 refine wpAny_bind (wpAny_setField_rec e5 (by simp) fun g6 e6 b6=>?_)
 replace b6:Heap.SameBut e g5 g6:=b6
 replace e6:IsEnumOut g6 e it (c+1) x g0.objs.size:=e6
 refine wpAny_setField_rec e6 (by simp) fun g7 e7 b7=>?_
 replace b7:Heap.SameBut e g6 g7:=b7
 have far:∀ b o,b≠e→g4.get? b=some o→g7.get? b=some o:=fun b o n1 y=>b7.extBut b o n1 (b6.extBut b o n1 (b5.extBut b o n1 y))
 exact wpAny_bind (wpAny_letGo (wpAny_pure ⟨_,rfl,q g7 e7 (i4.at fun o y=>far it o ne.symm y) (far _ _ (Nat.ne_of_gt elt) t4) fun b o n1 n2 y=>far b o n1 (keep4 b o n1 n2 y)⟩))
theorem zhX {e it l:Addr} {i:Nat} {c:Int} {xs:Array Value} {x old:Value} {Q:Option Value→Shared→Prop} (he:IsEnum s.heap e it c old) (hit:s.heap.IsListIter it l i) (hl:s.heap.IsList l xs) (hx:xs[i]? = some x) (ne:e≠it)
  (q:∀ k,IsEnumOut k e it (c+1) x s.heap.objs.size→k.IsListIter it l (i+1)→k.get? s.heap.objs.size=some { cls:=.type "tuple",data:=.seq #[.int c s.toks,x] } →
   (∀ b o,b≠e→b≠it→s.heap.get? b=some o→k.get? b=some o)→Q (some (.ref s.heap.objs.size)) { s with heap:=k,toks:=s.toks+1 }) :
  wpAny (model prog w) A (pyNext (.ref e)) Q E s:=by
 have hT:s.TypeIs (.ref e) "enumerate":=⟨_,he,rfl⟩
 unfold pyNext
 refine wpAny_bind (wpAny_attempt (wpAny_callSpecial?_slot (name:=Str.ofString "__next__") hT F.slot_enumerate_next (wpAny_call_entry F.slot_enumerate_next hT F.entry_enumerate_next ?_ (F.args_enumerate_next_1 _))))
 exact zhW he hit hl hx ne fun k a b d f=>wpAny_pure (q k a b d f)
theorem zjn {e it l:Addr} {i:Nat} {c:Int} {xs:Array Value} {old:Value} {Q:Option Value→Shared→Prop} (hh:A.handled=none) (he:IsEnum s.heap e it c old) (hit:s.heap.IsListIter it l i) (hl:s.heap.IsList l xs) (hx:xs[i]? = none)
  (q:∀ k,Heap.ExtBut it s.heap k→Q none { s with heap:=k }):wpAny (model prog w) A (pyNext (.ref e)) Q E s:=by
 have hT:s.TypeIs (.ref e) "enumerate":=⟨_,he,rfl⟩
 unfold pyNext
 refine wpAny_bind (wpAny_attempt (wpAny_callSpecial?_slot (name:=Str.ofString "__next__") hT F.slot_enumerate_next (wpAny_call_entry F.slot_enumerate_next hT F.entry_enumerate_next ?_ (F.args_enumerate_next_1 _))))
 show wpAny _ _ (field (.ref e) 2 >>= _) _ _ _
 refine wpAny_bind (wpAny_field he rfl (x:=.ref it) rfl (wpAny_bind (wpAny_nextOf_list_end hh hit hl hx fun k y hk hy=>?_)))
 obtain ⟨o,ho,hc⟩:=hy
 exact wpAny_bind (wpAny_isInstance (T:="StopIteration") (b:=true) ⟨o,ho,hc⟩ isSubtype_stop (wpAny_pure (q _ hk)))
theorem zfq {M:Model} {env:Env} {pos:Pos} {T:String} {e:Expr} {rest:List Expr} {kws:List Keyword} {Q:Value→Shared→Prop}
  (h:wpAny M A (spliced (backTo pos (starEach (e::rest) env))) (fun vs s1=>wpAny M A (evalAll ((backToKw pos (keywordEach kws env)).map (·.2)))
   (fun ks s2=>wpAny M A (call (.type T) vs (((backToKw pos (keywordEach kws env)).filterMap (·.1)).zip ks)) Q E s2) E s1) E s)
  (he:backTo pos (starEach (e::rest) env)=(false,eval e env)::backTo pos (starEach rest env)) (hp:(backTo pos (starEach (e::rest) env)).any (·.1)=false)
  (ha:(backToKw pos (keywordEach kws env)).all (·.1.isSome)=true) (hk:(backToKw pos (keywordEach kws env)).any (·.1.isNone)=false) :
  wpAny M A (callWith pos (.type T) [] (backTo pos (starEach (e::rest) env)) (backToKw pos (keywordEach kws env))) Q E s:=by
 have h2:wpAny M A (evalArgs (.type T) true (backTo pos (starEach (e::rest) env)) (backToKw pos (keywordEach kws env))) (fun a s1=>wpAny M A (call (.type T) ([]++a.pos) a.kw) Q E s1) E s:=by
  rw [he] at h ⊢
  exact evalArgs_kwB ha h
 unfold callWith
 refine wpAny_bind (wpAny_holding (wpAny_mono h2 (fun a s1 h1=>wpAny_bind (wpAny_standAt ?_)) fun _ _ z=>z))
 simp only [hp,hk,Bool.or_false]
 exact wpAny_bind (wpAny_pure (wpAny_bind (wpAny_mono h1 (fun r s2 hr=>wpAny_bind (wpAny_holding (wpAny_point (wpAny_pure hr)))) fun _ _ z=>z)))
end
def Ite (K:PySem.W.Frag) (a:Addr) (c:Int):It :=
 ⟨fun i H=>∃ xs x,SqL K H a xs∧xs[i]? = some x,
  fun i H v H'=>∃ T,H T=none∧v=.ref T∧∀ xs,SqL K H a xs→∃ x,xs[i]? = some x∧H'=upd H T (.tup [.int (c+i),x]),
  fun i H=>∃ xs,SqL K H a xs∧xs.length≤i⟩
theorem zf4 {P:Program} {w:World} {K:PySem.W.Frag} {elts:List Expr} {x1:Nat} {tpos:Pos} {l z I:Addr} {c:Int} (hzI:z≠I) (hlz:l≠z) (hlI:l≠I) :
  Turn P w K (.Tuple elts x1 tpos) (Ite K l c) [z,I] z (fun i h=>(∃ old,IsEnum h z I (c+i) old)∧h.IsListIter I l i) where
 mem:=by simp
 obj:=fun i h st b hb=>by
  obtain ⟨⟨old,h1⟩,o2,h2,c2,d2⟩:=st
  simp only [List.mem_cons,List.not_mem_nil,or_false] at hb
  rcases hb with rfl | rfl
  ·exact ⟨_,h1,fun v y=>by cases y⟩
  ·exact ⟨_,h2,fun v y=>by rw [d2] at y;cases y⟩
 keep:=fun i h h' st k=>by
  obtain ⟨⟨old,h1⟩,h2⟩:=st
  exact ⟨⟨old,k z (by simp) _ h1⟩,h2.at fun o e=>k I (by simp) o e⟩
 item:=by
  intro X hP hw hK hc i pins s σ H E Iv hf st hg
  subst hP hw hK
  obtain ⟨xs,x,hq,hx⟩:=hg
  obtain ⟨its,rv,p1,_⟩:=Iv.list hq
  obtain ⟨u,hu,ru⟩:=rv.get hx
  obtain ⟨⟨old,g1⟩,g2⟩:=st
  have hI:I < s.heap.objs.size:=by obtain ⟨_,y,_⟩:=g2;exact Heap.lt_size y
  have hz:z < s.heap.objs.size:=Heap.lt_size g1
  refine zhX g1 g2 p1.isList (x:=u) (by simpa using hu) hzI fun k a1 a2 a3 a4=>⟨_,rfl,?_⟩
  refine wpAny_letOwnedTupleGo_enum a1 fun k2 b1 b2=>?_
  replace b2:Heap.SameBut z k k2:=b2
  have hTn:H s.heap.objs.size=none:=Iv.hok.fresh (Nat.le_refl _)
  have keep:∀ b ob,b∉[z,I]→s.heap.get? b=some ob→k2.get? b=some ob:=fun b ob hb e=>by
   simp only [List.mem_cons,List.not_mem_nil,or_false,not_or] at hb
   exact b2.extBut b ob hb.1 (a4 b ob hb.1 hb.2 e)
  have ei:c+(i:Int)+1=c+((i+1:Nat):Int):=by rw [Int.natCast_add];omega
  have c2:k2.IsListIter I l (i+1):=a2.extBut b2.extBut hzI.symm
  refine ⟨.ref s.heap.objs.size,upd H s.heap.objs.size (.tup [.int (c+i),x]),?_,rfl,⟨_,hTn,rfl,fun xs' q'=>?_⟩,⟨⟨_,by rw [← ei];exact b1⟩,c2⟩,fun b hb=>?_⟩
  ·refine Iv.turnedNew (t':=s.toks+1) (ch:=[z,I]) keep (fun b hb=>⟨hf b hb,?_⟩) (Nat.le_refl _) ?_
   ·simp only [List.mem_cons,List.not_mem_nil,or_false] at hb
    rcases hb with rfl | rfl
    ·exact ⟨_,b1⟩
    ·obtain ⟨o,e,_⟩:=c2;exact ⟨_,e⟩
   ·exact ⟨by show 2≤sizeLine;rw [sizeLine_eq];decide,[.int (c+i) s.toks,u],.cons ⟨_,rfl⟩ (.cons ru .nil),_,b2.extBut _ _ (Nat.ne_of_gt hz) a3,rfl,_,rfl⟩
  ·rw [Iv.list_inj q' hq]
   exact ⟨x,hx,rfl⟩
  ·have:b≠s.heap.objs.size:=by
    simp only [List.mem_cons,List.not_mem_nil,or_false] at hb
    rcases hb with rfl | rfl
    ·exact Nat.ne_of_lt hz
    ·exact Nat.ne_of_lt hI
   rw [zaD this]
   exact (hf b hb).1
 done:=by
  intro X hP hw hK hc i pins s σ H E Iv hf st hg
  subst hP hw hK
  obtain ⟨xs,hq,hx⟩:=hg
  obtain ⟨its,rv,p1,_⟩:=Iv.list hq
  obtain ⟨⟨old,g1⟩,g2⟩:=st
  have hl1:=rv.length
  refine zjn (Iv.ok.hd hc) g1 g2 p1.isList (Array.getElem?_eq_none (by simp;omega)) fun k hk=>⟨rfl,Iv.turnedL (t':=s.toks) (ch:=[z,I]) (fun b ob hb e=>?_) hf⟩
  simp only [List.mem_cons,List.not_mem_nil,or_false,not_or] at hb
  exact hk b ob hb.2 e
 self:=fun _ _ _ _ _ ⟨⟨_,st⟩,_⟩ h=>wpAny_pyIter_enum st h
section
variable {X:Cx} {K:PySem.W.Frag}
def zkb (K:PySem.W.Frag) (c:Int) (ta:TA):TI:=fun σ H R=>ta σ H fun vs H1=>∃ a xs,vs=[.ref a]∧SqL K H1 a xs∧R (Ite K a c) H1
theorem zjo {pins:List (Addr×Obj)} {σ:St} {H:Hp} {s:Shared} {h':Heap} (I:Inv X pins σ H s) (b:Addr) (hb:b∈[s.heap.objs.size+1,s.heap.objs.size]):FpOk X pins H b:=by
 have hge:s.heap.objs.size≤b:=by
  simp only [List.mem_cons,List.not_mem_nil,or_false] at hb
  rcases hb with rfl | rfl
  ·exact Nat.le_succ _
  ·exact Nat.le_refl _
 exact I.fpOk hge (I.hok.fresh hge)
theorem zkc {a:Expr} {ta:TA} {p pos tpos:Pos} {elts:List Expr} {x1:Nat} (hK:X.K=K) (hg:Gl X "enumerate") (hm:X.mg "enumerate" = none) (ha:PA X [a] ta) (hs:starEach [a] X.env=(false,eval a X.env)::starEach [] X.env:=by rfl)
  (hs2:(backTo pos (starEach [] X.env)).any (·.1)=false:=by rfl):PI X (.Tuple elts x1 tpos) (.Call (.Name "enumerate" p) [a] [] pos) (zkb K 0 ta):=by
 subst hK
 intro pins s σ H R I h
 refine Call_ (zda I hg hm boot_enumerate (PyProof.Rows.callWith_type1 (thn (ha pos pins s σ H _ I h) fun us s1 ⟨vs,H1,I1,r1,q1⟩=>?_) hs hs2))
 obtain ⟨l,xs,e,q1,q⟩:=q1
 subst e
 obtain ⟨v1,rfl,ru⟩:=r1.one
 cases ru
 obtain ⟨its,rv,p1,_⟩:=I1.list q1
 obtain ⟨o1,e1,_⟩:=p1.isList
 have L1:=Heap.lt_size e1
 refine call_enumerate_list p1.isList fun k a1 a2 _ a4=>?_
 refine wpAny_pyIter_enum a1 ?_
 have I2:Inv X pins σ H1 { s1 with heap:=k }:=I1.kept (t':=s1.toks) a4
 exact ⟨s1.heap.objs.size+1,_,_,Ite X.K l 0,H1,rfl,I2,zf4 (Nat.succ_ne_self _) (Nat.ne_of_lt (Nat.lt_succ_of_lt L1)) (Nat.ne_of_lt L1),⟨⟨_,a1⟩,a2⟩,zjo (h':=k) I1,q⟩
theorem zkd {a:Expr} {ta:TA} {p pos tpos kpos cpos:Pos} {ci:Nat} {elts:List Expr} {x1:Nat} (hK:X.K=K) (hg:Gl X "enumerate") (hm:X.mg "enumerate" = none) (ha:PA X [a] ta)
  (hb:bootBuiltins "enumerate" = some (.type "enumerate"):=by rfl)
  (he:backTo pos (starEach [a] X.env)=(false,eval a X.env)::backTo pos (starEach [] X.env):=by rfl) (hpl:(backTo pos (starEach [a] X.env)).any (·.1)=false:=by rfl) :
  PI X (.Tuple elts x1 tpos) (.Call (.Name "enumerate" p) [a] [⟨some "start",.Constant (.int 1) ci cpos,kpos⟩] pos) (zkb K 1 ta):=by
 subst hK
 intro pins s σ H R I h
 refine wpAny_Call_Name_kw (zda I hg hm hb ?_ (by decide) (by decide))
 refine zfq (thn (ha pos pins s σ H _ I h) fun us s1 ⟨vs,H1,I1,r1,q1⟩=>thn ((ziE zaf pk_nil) pos pins s1 σ H1 (fun zs H2=>zs=[.int 1]∧H2=H1) I1 ⟨rfl,rfl⟩) fun ws s2 ⟨zs,H2,I2,r2,q2⟩=>?_) he hpl rfl rfl
 obtain ⟨rfl,rfl⟩:=q2
 obtain ⟨l,xs,e,q1,q⟩:=q1
 subst e
 obtain ⟨v1,rfl,ru⟩:=r1.one
 cases ru
 obtain ⟨v2,rfl,tt,rfl⟩:=r2.one
 obtain ⟨its,rv,p1,_⟩:=I2.list q1
 obtain ⟨o1,e1,_⟩:=p1.isList
 have L1:=Heap.lt_size e1
 refine zhV p1.isList fun k a1 a2 a4=>?_
 refine wpAny_pyIter_enum a1 ?_
 have I3:Inv X pins σ H2 { s2 with heap:=k }:=I2.kept (t':=s2.toks) a4
 exact ⟨s2.heap.objs.size+1,_,_,Ite X.K l 1,H2,rfl,I3,zf4 (Nat.succ_ne_self _) (Nat.ne_of_lt (Nat.lt_succ_of_lt L1)) (Nat.ne_of_lt L1),⟨⟨_,a1⟩,a2⟩,zjo (h':=k) I2,q⟩
end
section
variable {σ:St} {H:Hp} {D:Ends} {nx bk ct:St→Hp→Prop} {rt:VK} {K:PySem.W.Frag} {Q:VK} {js:List Nat} {te:TE} {tc:TT} {c:Int} {a b:Addr} {xs ys:List V}
theorem zkW {tl:TA} {g:TG} {tb:TS} (h:tl σ H fun vs H1=>∃ a xs,vs=[.ref a]∧SqL K H1 a xs∧ForI (Ite K a c) g tb D σ H1):tFor (zkb K c tl) g tb D σ H:=h
theorem zjp {tl:TA} {k:Nat} {g:TG} (h:tl σ H fun vs H1=>∃ a xs,vs=[.ref a]∧SqL K H1 a xs∧zgH (Ite K a c) k js g tc te σ H1 Q):zgz (zkb K c tl) k js g tc te σ H Q:=h
theorem zjq {tl:TA} {k:Nat} {g:TG} (h:tl σ H fun vs H1=>∃ a b xs ys,vs=[.ref a,.ref b]∧SqL K H1 a xs∧SqL K H1 b ys∧zgH (Itz K a b) k js g tc te σ H1 Q):zgz (iZip K tl) k js g tc te σ H Q:=h
theorem zho {P:Addr→Prop} (h:SqL K H a xs) (q:P a):∃ b xs,[V.ref a]=[.ref b]∧SqL K H b xs∧P b:=⟨a,xs,rfl,h,q⟩
theorem zlK {i j:Nat} {tb:TS} (Pv:Nat→St→Hp→Prop) (h0:Pv 0 σ H) (hl:∀ i σ H,i≤xs.length→Pv i σ H→SqL K H a xs)
  (hs:∀ k x σ H H' ,xs[k]? = some x→Pv k σ H→Same H H'→tb ⟨Pv (k+1),rt,nx,Pv (k+1)⟩ ((σ.set i (some (.int (c+k)))).set j (some x)) H') (hd:∀ σ H,Pv xs.length σ H→nx σ H) :
  ForI (Ite K a c) (gTup K 2 (zgv (zcr i) (zgv (zcr j) gNil))) tb ⟨nx,rt,bk,ct⟩ σ H:=by
 refine ⟨fun i m σ H=>m=xs.length-i∧i≤xs.length∧Pv i σ H,⟨xs.length,by simp,Nat.zero_le _,h0⟩,?_⟩
 rintro k m σ H ⟨rfl,hi,p⟩
 have q1:=hl k σ H hi p
 by_cases hlt:k < xs.length
 ·refine .inr ⟨⟨xs,xs[k],q1,by simp [hlt]⟩,Pv (k+1),fun σ' H' p'=>⟨xs.length-(k+1),by omega,rfl,hlt,p'⟩,fun v H' yy=>?_⟩
  obtain ⟨T,hT,rfl,yy⟩:=yy
  obtain ⟨x,hx,rfl⟩:=yy xs q1
  exact ⟨T,[.int (c+k),x],rfl,SqT.of zar,rfl,.int (c+k),[x],rfl,x,[],rfl,rfl,hs k x σ H _ hx p (zaQ hT)⟩
 ·have e:k=xs.length:=by omega
  subst e
  exact .inl ⟨⟨xs,q1,Nat.le_refl _⟩,hd σ H p⟩
theorem zbK.enum (h:SqL K H a xs):zbK (Ite K a c) xs.length 2 js σ (gTup K 2 (zgv (zcr 0) (zgv (zcr 1) gNil))) (fun i=>[some (.int (c+i)),some (xs.getD i .non)]) H where
 len:=fun _=>rfl
 go:=fun i H' s hi=>⟨xs,xs[i],s.seq h,by simp [hi]⟩
 stop:=fun H' s=>⟨xs,s.seq h,Nat.le_refl _⟩
 yld:=fun i H' v H2 u N s hi hu hy q=>by
  obtain ⟨T,hT,rfl,yy⟩:=hy
  obtain ⟨x,hx,rfl⟩:=yy xs (s.seq h)
  have ex:xs.getD i .non=x:=by rw [List.getD_eq_getElem?_getD,hx];rfl
  match u,hu with
  | [u1,u2],_ =>
    refine ⟨T,[.int (c+i),x],rfl,SqT.of zar,rfl,.int (c+i),[x],rfl,x,[],rfl,rfl,?_⟩
    have:=q _ (zaQ (o:=.tup [.int (c+i),x]) hT)
    rw [ex] at this
    exact this
theorem zbK.zip (h:SqL K H a xs) (h2:SqL K H b ys) (hl:xs.length=ys.length):zbK (Itz K a b) xs.length 2 js σ (gTup K 2 (zgv (zcr 0) (zgv (zcr 1) gNil))) (fun i=>[some (xs.getD i .non),some (ys.getD i .non)]) H where
 len:=fun _=>rfl
 go:=fun i H' s hi=>⟨xs,ys,xs[i],ys[i],s.seq h,s.seq h2,by simp [hi],by simp [hl▸hi]⟩
 stop:=fun H' s=>⟨xs,ys,s.seq h,s.seq h2,.inl (Nat.le_refl _)⟩
 yld:=fun i H' v H2 u N s hi hu hy q=>by
  obtain ⟨T,hT,rfl,yy⟩:=hy
  obtain ⟨x,y,hx,hy,rfl⟩:=yy xs ys (s.seq h) (s.seq h2)
  have ex:xs.getD i .non=x:=by rw [List.getD_eq_getElem?_getD,hx];rfl
  have ey:ys.getD i .non=y:=by rw [List.getD_eq_getElem?_getD,hy];rfl
  match u,hu with
  | [u1,u2],_ =>
    refine ⟨T,[x,y],rfl,SqT.of zar,rfl,x,[y],rfl,y,[],rfl,rfl,?_⟩
    have:=q _ (zaQ (o:=.tup [x,y]) hT)
    rw [ex,ey] at this
    exact this
end
end L2
namespace Prf
open PySem PySem.Spec PyProof.Rows L2
def b1 (b:Bool):Nat:=if b then 1 else 0
theorem cnt_cons (r:List Int) (rows:List (List Int)) (x:Int):cntB (r::rows) x=b1 (decide (x∈r))+cntB rows x:=by
 unfold cntB b1
 rw [List.filter_cons]
 cases decide (x∈r) <;> simp <;> omega
theorem zgK (x:Int) (row:List Int):∀ (gv:List (List Int)) (p:Nat),p < gv.length→cntB (gv.set p row) x+b1 (decide (x∈gv.getD p []))=cntB gv x+b1 (decide (x∈row))
 | g::gv,0,_=>by
   rw [List.set_cons_zero,cnt_cons,cnt_cons]
   show _+b1 (decide (x∈g))=_
   omega
 | g::gv,p+1,h=>by
   rw [List.set_cons_succ,cnt_cons,cnt_cons]
   have:=zgK x row gv p (by simpa using h)
   show _+b1 (decide (x∈gv.getD p []))=_
   omega
theorem zbg {α:Type} {xs:List α} {d v:α} {i j:Nat} (h:i < xs.length):(xs.set i v).getD j d=if j=i then v else xs.getD j d:=by
 rw [List.getD_eq_getElem?_getD,List.getElem?_set,List.getD_eq_getElem?_getD]
 by_cases e:j=i
 ·subst e;simp [h]
 ·simp [e,Ne.symm e]
structure Vld (al gv:List (List Int)) (lim sp:List Int) (o:Int):Prop where
 lg:gv.length=al.length
 ls:sp.length=lim.length
 nd:∀ q,q < gv.length→(gv.getD q []).Nodup
 sub:∀ q,q < gv.length→∀ r∈gv.getD q [],r∈al.getD q []
 ar:∀ q,q < al.length→∀ r∈al.getD q [],1≤r∧r≤lim.length
 s0:∀ r:Nat,r < lim.length→0≤sp.getD r 0
 eq:∀ r:Nat,r < lim.length→sp.getD r 0+(cntB gv ((r:Int)+1):Int)+(if (r:Int)+1=o then 1 else 0)=lim.getD r 0
theorem Vld.take {al gv:List (List Int)} {lim sp:List Int} {r:Int} (V:Vld al gv lim sp 0) (r1:1≤r) (r2:r≤lim.length) (h:0 < sp.getD (r-1).toNat 0):Vld al gv lim (sp.set (r-1).toNat (sp.getD (r-1).toNat 0-1)) r:=by
 have hi:(r-1).toNat < sp.length:=by have:=V.ls;omega
 refine ⟨V.lg,by rw [List.length_set];exact V.ls,V.nd,V.sub,V.ar,fun k hk=>?_,fun k hk=>?_⟩
 ·rw [zbg hi]
  split
  ·omega
  ·exact V.s0 k hk
 ·have e:=V.eq k hk
  rw [if_neg (by omega)] at e
  rw [zbg hi]
  by_cases ek:k=(r-1).toNat
  ·rw [if_pos ek,if_pos (by omega)]
   subst ek
   omega
  ·rw [if_neg ek,if_neg (by omega)]
   exact e
theorem Vld.push {al gv:List (List Int)} {lim sp:List Int} {r:Int} {p:Nat} (V:Vld al gv lim sp r) (hp:p < gv.length) (hr:r∈al.getD p []) (hn:r∉gv.getD p []):Vld al (gv.set p (gv.getD p []++[r])) lim sp 0:=by
 refine ⟨by rw [List.length_set];exact V.lg,V.ls,fun q hq=>?_,fun q hq=>?_,V.ar,V.s0,fun k hk=>?_⟩
 ·rw [List.length_set] at hq
  rw [zbg hp]
  split
  ·refine List.nodup_append.mpr ⟨V.nd p hp,by simp,fun a ha b hb=>?_⟩
   have:b=r:=by simpa using hb
   subst this
   intro e;subst e;exact hn ha
  ·exact V.nd q hq
 ·rw [List.length_set] at hq
  rw [zbg hp]
  split
  ·rename_i e
   subst e
   intro x hx
   rcases List.mem_append.mp hx with h | h
   ·exact V.sub q hp x h
   ·have:x=r:=by simpa using h
    subst this;exact hr
  ·exact V.sub q hq
 ·have e:=V.eq k hk
  have c:=zgK ((k:Int)+1) (gv.getD p []++[r]) gv p hp
  have l:=V.lg
  have hrr:=V.ar p (by omega) r hr
  rw [if_neg (show ¬(k:Int)+1=0 by omega)]
  by_cases ek:(k:Int)+1=r
  ·rw [if_pos ek] at e
   rw [ek] at c e ⊢
   have d1:decide (r∈gv.getD p [])=false:=decide_eq_false hn
   have d2:decide (r∈gv.getD p []++[r])=true:=decide_eq_true (by simp)
   rw [d1,d2] at c
   have c2:cntB (gv.set p (gv.getD p []++[r])) r+0=cntB gv r+1:=c
   omega
  ·rw [if_neg ek] at e
   have d:decide ((k:Int)+1∈gv.getD p []++[r])=decide ((k:Int)+1∈gv.getD p []):=by
    rw [decide_eq_decide];simp [ek]
   rw [d] at c
   omega
theorem Vld.drop {al gv:List (List Int)} {lim sp:List Int} {r:Int} {p:Nat} (V:Vld al gv lim sp 0) (hp:p < gv.length) (hr:r∈gv.getD p []):Vld al (gv.set p ((gv.getD p []).erase r)) lim sp r:=by
 have ndp:=V.nd p hp
 refine ⟨by rw [List.length_set];exact V.lg,V.ls,fun q hq=>?_,fun q hq=>?_,V.ar,V.s0,fun k hk=>?_⟩
 ·rw [List.length_set] at hq
  rw [zbg hp]
  split
  ·exact ndp.erase r
  ·exact V.nd q hq
 ·rw [List.length_set] at hq
  rw [zbg hp]
  split
  ·rename_i e
   subst e
   intro x hx
   exact V.sub q hp x (List.mem_of_mem_erase hx)
  ·exact V.sub q hq
 ·have e:=V.eq k hk
  have c:=zgK ((k:Int)+1) ((gv.getD p []).erase r) gv p hp
  rw [if_neg (show ¬(k:Int)+1=0 by omega)] at e
  by_cases ek:(k:Int)+1=r
  ·rw [if_pos ek]
   rw [ek] at c e ⊢
   have d1:decide (r∈gv.getD p [])=true:=decide_eq_true hr
   have d2:decide (r∈(gv.getD p []).erase r)=false:=decide_eq_false (by rw [ndp.mem_erase_iff];simp)
   rw [d1,d2] at c
   have c2:cntB (gv.set p ((gv.getD p []).erase r)) r+1=cntB gv r+0:=c
   omega
  ·rw [if_neg ek]
   have d:decide ((k:Int)+1∈(gv.getD p []).erase r)=decide ((k:Int)+1∈gv.getD p []):=by
    rw [decide_eq_decide,ndp.mem_erase_iff];simp [ek]
   rw [d] at c
   omega
def Cov (al gv:List (List Int)) (ks:List Int) (q:Nat):Prop:=∀ r∈al.getD q [],r∈ks∨r∈gv.getD q []
theorem Cov.mono {al gv:List (List Int)} {ks ls:List Int} {q:Nat} (h:Cov al gv ks q) (s:∀ r∈ks,r∈ls):Cov al gv ls q:=fun r hr=>(h r hr).elim (fun z=>.inl (s r z)) .inr
def Cls2 (al gv:List (List Int)) (sp ks ls:List Int):Prop:=(∀ r∈ks,r∈ls)∧∀ r∈ls,r∉ks→sp.getD (r-1).toNat 0=0∧∀ q,q < gv.length→r∈gv.getD q []→Cov al gv ls q
theorem Cls2.refl {al gv:List (List Int)} {sp ks:List Int}:Cls2 al gv sp ks ks:=⟨fun _ h=>h,fun r h n=>absurd h n⟩
theorem Cls2.trans {al gv:List (List Int)} {sp ks ls ms:List Int} (a:Cls2 al gv sp ks ls) (b:Cls2 al gv sp ls ms):Cls2 al gv sp ks ms:=by
 refine ⟨fun r h=>b.1 r (a.1 r h),fun r h n=>?_⟩
 by_cases hl:r∈ls
 ·obtain ⟨h1,h2⟩:=a.2 r hl n
  exact ⟨h1,fun q hq hr=>(h2 q hq hr).mono b.1⟩
 ·exact b.2 r h hl
theorem Cls2.one {al gv:List (List Int)} {sp ks ls:List Int} {x:Int} (b:Cls2 al gv sp (ks++[x]) ls) (h0:sp.getD (x-1).toNat 0=0) (h1:∀ q,q < gv.length→x∈gv.getD q []→Cov al gv ls q):Cls2 al gv sp ks ls:=by
 refine ⟨fun r h=>b.1 r (by simp [h]),fun r h n=>?_⟩
 by_cases e:r=x
 ·subst e;exact ⟨h0,h1⟩
 ·exact b.2 r h (by simp [n,e])
structure Fnd (al gv gv':List (List Int)) (lim sp' ks:List Int) (p:Nat):Prop where
 v:Vld al gv' lim sp' 0
 lg:gv'.length=gv.length
 len:∀ q,q < gv.length→(gv'.getD q []).length=(gv.getD q []).length+if q=p then 1 else 0
 old:∀ r∈ks,∀ q,q < gv.length→(r∈gv'.getD q []↔r∈gv.getD q [])
structure Fre (al gv gv':List (List Int)) (lim sp' ks:List Int) (x:Int):Prop where
 v:Vld al gv' lim sp' x
 lg:gv'.length=gv.length
 len:∀ q,q < gv.length→(gv'.getD q []).length=(gv.getD q []).length
 old:∀ r∈ks,r≠x→∀ q,q < gv.length→(r∈gv'.getD q []↔r∈gv.getD q [])
 own:∀ q,q < gv.length→x∈gv'.getD q []→x∈gv.getD q []
theorem Fre.found {al gv gv':List (List Int)} {lim sp' ks:List Int} {x:Int} {p:Nat} (F:Fre al gv gv' lim sp' (ks++[x]) x) (hp:p < gv.length) (hx:x∈al.getD p []) (hn:x∉gv.getD p []) (hk:x∉ks) :
  Fnd al gv (gv'.set p (gv'.getD p []++[x])) lim sp' ks p:=by
 have l:=F.lg
 have hp':p < gv'.length:=by omega
 refine ⟨F.v.push hp' hx (fun z=>hn (F.own p hp z)),by rw [List.length_set];exact l,fun q hq=>?_,fun r hr q hq=>?_⟩
 ·have:=F.len q hq
  rw [zbg hp']
  by_cases e:q=p
  ·subst e;rw [if_pos rfl,if_pos rfl,List.length_append,List.length_singleton];omega
  ·rw [if_neg e,if_neg e];omega
 ·have hne:r≠x:=fun e=>hk (e▸hr)
  have:=F.old r (by simp [hr]) hne q hq
  rw [zbg hp']
  by_cases e:q=p
  ·subst e;rw [if_pos rfl,List.mem_append,this];simp [hne]
  ·rw [if_neg e];exact this
theorem Fnd.freed {al gv gv':List (List Int)} {lim sp' ks:List Int} {x:Int} {p:Nat} (F:Fnd al gv gv' lim sp' ks p) (hp:p < gv.length) (hx:x∈gv.getD p []) (hk:x∈ks) :
  x∈gv'.getD p []∧Fre al gv (gv'.set p ((gv'.getD p []).erase x)) lim sp' ks x:=by
 have l:=F.lg
 have hp':p < gv'.length:=by omega
 have hx':x∈gv'.getD p []:=(F.old x hk p hp).mpr hx
 have ndp:=F.v.nd p hp'
 refine ⟨hx',F.v.drop hp' hx',by rw [List.length_set];exact l,fun q hq=>?_,fun r hr hne q hq=>?_,fun q hq hq2=>?_⟩
 ·have:=F.len q hq
  rw [zbg hp']
  by_cases e:q=p
  ·subst e
   rw [if_pos rfl,List.length_erase_of_mem hx']
   rw [if_pos rfl] at this
   omega
  ·rw [if_neg e];rw [if_neg e] at this;omega
 ·have:=F.old r hr q hq
  rw [zbg hp']
  by_cases e:q=p
  ·subst e;rw [if_pos rfl,ndp.mem_erase_iff,this];simp [hne]
  ·rw [if_neg e];exact this
 ·rw [zbg hp'] at hq2
  by_cases e:q=p
  ·subst e;exact hx
  ·rw [if_neg e] at hq2
   exact (F.old x hk q hq).mp hq2
theorem Vld.taken {al gv:List (List Int)} {lim sp ks:List Int} {r:Int} (V:Vld al gv lim sp 0) (r1:1≤r) (r2:r≤lim.length) (h:0 < sp.getD (r-1).toNat 0):Fre al gv gv lim (sp.set (r-1).toNat (sp.getD (r-1).toNat 0-1)) ks r :=
 ⟨V.take r1 r2 h,rfl,fun _ _=>rfl,fun _ _ _ _ _=>Iff.rfl,fun _ _ h=>h⟩
theorem zmH {n:Nat} {f:Nat→Bool}:Hall.sm n (fun p=>Hall.b2 (f p))=((List.range n).filter f).length:=zcD f n
theorem zjr {row:List Int} {m:Nat} (nd:row.Nodup) (h:∀ r∈row,1≤r∧r≤m):Hall.sm m (fun r=>Hall.b2 (decide ((r:Int)+1∈row)))=row.length:=by
 rw [zmH]
 have e:(((List.range m).filter fun r:Nat=>decide ((r:Int)+1∈row)).map fun r:Nat=>(r:Int)+1).Perm row:=by
  refine (List.perm_ext_iff_of_nodup ?_ nd).mpr fun x=>?_
  ·unfold List.Nodup
   rw [List.pairwise_map]
   exact (List.nodup_range.filter _).imp fun h e=>h (by omega)
  ·constructor
   ·intro hx
    obtain ⟨r,hr,rfl⟩:=List.mem_map.mp hx
    simpa using (List.mem_filter.mp hr).2
   ·intro hx
    have:=h x hx
    refine List.mem_map.mpr ⟨(x-1).toNat,List.mem_filter.mpr ⟨List.mem_range.mpr (by omega),?_⟩,by omega⟩
    have e:(((x-1).toNat:Nat):Int)+1=x:=by omega
    rw [e];simpa using hx
 have:=e.length_eq
 rw [List.length_map] at this
 exact this
theorem zke {hs:List Int} {rs al gv:List (List Int)} {lim sp:List Int} (h0:∀ i,i < rs.length→0≤(rs.getD i []).getD 1 0) (V:Vld al gv lim sp 0) (hn:al.length=hs.length) (hm:lim.length=rs.length) (hl:∀ r,r < rs.length→lim.getD r 0=(rs.getD r []).getD 1 0)
  (hA:∀ q,q < hs.length→∀ r:Nat,r < rs.length→(r:Int)+1∈al.getD q []→zbb hs rs q r=true) (h2:∀ q,q < hs.length→(gv.getD q []).length=2):∃ rows,zaS hs rs rows=true:=by
 have lg:=V.lg
 rw [zei h0,← zjg h0]
 refine Hall.room_of (B:=fun p r=>decide (p < hs.length) && decide (r < rs.length) && decide ((r:Int)+1∈gv.getD p [])) (fun p r h=>?_) (fun p hp=>?_) fun r hr=>?_
 ·simp only [Bool.and_eq_true,decide_eq_true_eq] at h
  exact hA p h.1.1 r h.1.2 (V.sub p (by omega) _ h.2)
 ·rw [← h2 p hp,← zjr (m:=rs.length) (V.nd p (by omega)) fun r hr=>by have:=V.ar p (by omega) r (V.sub p (by omega) r hr);omega]
  apply Hall.sm_congr
  intro r hr
  rw [decide_eq_true hp,decide_eq_true hr]
  rfl
 ·have e:=V.eq r (by omega)
  have s0:=V.s0 r (by omega)
  rw [if_neg (by omega),hl r hr,zfp] at e
  have:Hall.sm hs.length (fun p=>Hall.b2 (decide (p < hs.length) && decide (r < rs.length) && decide ((r:Int)+1∈gv.getD p [])))=Hall.sm gv.length (fun p=>Hall.b2 (decide ((r:Int)+1∈gv.getD p []))):=by
   rw [show gv.length=hs.length by omega]
   apply Hall.sm_congr
   intro p hp
   rw [decide_eq_true hp,decide_eq_true hr]
   rfl
  rw [this]
  unfold limN
  omega
theorem zjs {hs:List Int} {rs al gv:List (List Int)} {lim sp ls:List Int} {p:Nat} (h0:∀ i,i < rs.length→0≤(rs.getD i []).getD 1 0) (V:Vld al gv lim sp 0) (hn:al.length=hs.length) (hm:lim.length=rs.length) (hl:∀ r,r < rs.length→lim.getD r 0=(rs.getD r []).getD 1 0)
  (hA:∀ q,q < hs.length→∀ r:Nat,r < rs.length→zbb hs rs q r=true→(r:Int)+1∈al.getD q []) (h2:∀ q,q < hs.length→(gv.getD q []).length≤2) (hp:p < hs.length) (hp2:(gv.getD p []).length < 2)
  (C:Cls2 al gv sp [] ls) (hc:Cov al gv ls p):∀ rows,zaS hs rs rows=false:=by
 have lg:=V.lg
 have key:¬Hall.Ok hs.length rs.length (limN rs) (fun _=>2) (zbb hs rs):=by
  intro ok
  let S:Nat→Bool:=fun q=>decide (q=p) || (gv.getD q []).any fun r=>decide (r∈ls)
  have hS:∀ q,q < hs.length→S q=true→Cov al gv ls q:=fun q hq z=>by
   simp only [S,Bool.or_eq_true,decide_eq_true_eq,List.any_eq_true] at z
   rcases z with z | ⟨r,h1,h2⟩
   ·subst z;exact hc
   ·exact (C.2 r h2 (by simp)).2 q (by omega) h1
  have le:=ok S
  have rm:Hall.room hs.length rs.length (limN rs) (zbb hs rs) S≤Hall.sm rs.length (fun r=>Hall.sm hs.length fun q=>Hall.b2 (S q && decide ((r:Int)+1∈gv.getD q []))):=by
   unfold Hall.room
   refine Hall.sm_le fun r hr=>?_
   by_cases hk:(r:Int)+1∈ls
   ·refine Nat.le_trans (Nat.min_le_left _ _) ?_
    have z:=(C.2 _ hk (by simp)).1
    have er:((r:Int)+1-1).toNat=r:=by omega
    rw [er] at z
    have e:=V.eq r (by omega)
    rw [if_neg (by omega),hl r hr,zfp,z] at e
    have:Hall.sm hs.length (fun q=>Hall.b2 (S q && decide ((r:Int)+1∈gv.getD q [])))=Hall.sm gv.length (fun q=>Hall.b2 (decide ((r:Int)+1∈gv.getD q []))):=by
     rw [show gv.length=hs.length by omega]
     apply Hall.sm_congr
     intro q hq
     by_cases h:(r:Int)+1∈gv.getD q []
     ·have:S q=true:=by
       simp only [S,Bool.or_eq_true,List.any_eq_true]
       exact .inr ⟨_,h,decide_eq_true hk⟩
      rw [this];rfl
     ·rw [decide_eq_false h,Bool.and_false]
    rw [this]
    unfold limN
    omega
   ·refine Nat.le_trans (Nat.min_le_right _ _) ?_
    unfold Hall.deg
    refine Hall.sm_le fun q hq=>?_
    cases hs1:S q with
    | false=>simp [Hall.b2]
    | true =>
      cases ha:zbb hs rs q r with
      | false=>simp [Hall.b2]
      | true =>
        have:=(hS q hq hs1 _ (hA q hq r hr ha)).resolve_left hk
        rw [decide_eq_true this]
        exact Nat.le_refl _
  rw [Hall.sm_swap] at rm
  have lt:Hall.sm hs.length (fun q=>Hall.sm rs.length fun r=>Hall.b2 (S q && decide ((r:Int)+1∈gv.getD q []))) < Hall.need hs.length (fun _=>2) S:=by
   unfold Hall.need
   have each:∀ q,q < hs.length→Hall.sm rs.length (fun r=>Hall.b2 (S q && decide ((r:Int)+1∈gv.getD q [])))=if S q=true then (gv.getD q []).length else 0:=fun q hq=>by
    cases hs1:S q with
    | false =>
      rw [if_neg Bool.false_ne_true]
      have:Hall.sm rs.length (fun r=>Hall.b2 (false && decide ((r:Int)+1∈gv.getD q [])))=Hall.sm rs.length (fun _=>0):=Hall.sm_congr fun i _=>rfl
      rw [this,Hall.sm_zero]
    | true =>
      rw [if_pos rfl]
      have:Hall.sm rs.length (fun r=>Hall.b2 (true && decide ((r:Int)+1∈gv.getD q [])))=Hall.sm rs.length (fun r=>Hall.b2 (decide ((r:Int)+1∈gv.getD q []))):=Hall.sm_congr fun i _=>rfl
      rw [this]
      exact zjr (V.nd q (by omega)) fun r hr=>by have:=V.ar q (by omega) r (V.sub q (by omega) r hr);omega
   refine Hall.sm_lt (p:=p) hp (fun q hq=>?_) ?_
   ·rw [each q hq]
    have:=h2 q hq
    split <;> omega
   ·have hsp:S p=true:=by simp [S]
    rw [each p hp,if_pos hsp,if_pos hsp]
    exact hp2
  omega
 intro rows
 rw [Bool.eq_false_iff]
 intro z
 exact key ((zjg h0).mpr ((zei h0).mp ⟨rows,z⟩))
end Prf
namespace L2
open PySem PySem.Spec PyProof.Rows
section
variable {X:Cx} {K:PySem.W.Frag} {o e value:Expr} {f:Str} {pos pos' tpos:Pos} {ta tv:TE}
theorem zaz (hK:X.K=K) (he:PE X e ta) (hb:attributeBase e f X.env (eval e X.env)=eval e X.env:=by rfl):PE X (.Attribute e f pos) (tFld K ta f):=hK▸zmc he hb
theorem zbt (hK:X.K=K) (ha:PE X o ta) (hv:PE X value tv) (hs:swapsWith value (some (.Attribute o f pos')) pos.line X.env=pure false:=by rfl):PS X (.Assign [.Attribute o f pos'] value pos) (sFld K ta tv f):=hK▸zmd ha hv hs
def zmI (K:PySem.W.Frag):V→V→Hp→VK→Prop:=fun x y H Q=>∃ (p:Addr) (ns:List Int) (i:Int),x=.ref p∧y=.int i∧SqL K H p (ns.map V.int)∧0≤i∧i < ns.length∧Q (.int (ns.getD i.toNat 0)) H
theorem zjt (hK:X.K=K):PGet X (zmI K):=by
 subst hK
 intro pins s σ H x y v u Q I rx ry h
 obtain ⟨p,ns,i,rfl,rfl,hq,h0,h1,q⟩:=h
 cases rx
 obtain ⟨t,rfl⟩:=ry
 obtain ⟨its,r,pl,hz⟩:=I.list hq
 have hi:i.toNat < ns.length:=by omega
 obtain ⟨w,ew,rw'⟩:=r.get (i:=i.toNat) (x:=.int (ns.getD i.toNat 0)) (by rw [List.getElem?_map,List.getElem?_eq_getElem hi,List.getD_eq_getElem?_getD,List.getElem?_eq_getElem hi];rfl)
 have hn:=line63
 rw [List.length_map] at hz
 exact getItem_listL pl.isList h0 (by omega) ew ⟨_,H,I,rw',q⟩
theorem zf5 {α β:Type} (f:α→β):∀ (l:List α) (k:Nat),(l.map f).eraseIdx k=(l.eraseIdx k).map f
 | [],_=>rfl
 | _::_,0=>rfl
 | a::l,k+1=>congrArg (f a::·) (zf5 f l k)
def rRemove:V→List V→Hp→VK→Prop:=fun x vs H Q=>∃ (l:Addr) (ns:List Int) (i:Int),x=.ref l∧vs=[.int i]∧H l=some (.lst (ns.map V.int))∧i∈ns∧Q .non (upd H l (.lst ((ns.erase i).map V.int)))
theorem erase_at:∀ {ns:List Int} {i:Int},i∈ns→∃ j,∃ hj:j < ns.length,ns[j]=i∧(∀ m (hm:m < ns.length),m < j→ns[m]≠i)∧ns.erase i=ns.eraseIdx j
 | n::ns,i,h=>by
   by_cases e:n=i
   ·subst e
    exact ⟨0,by simp,rfl,fun m _ h=>absurd h (by omega),by simp⟩
   ·have h':i∈ns:=by
     rcases List.mem_cons.mp h with z | z
     ·exact absurd z.symm e
     ·exact z
    obtain ⟨j,hj,h1,h2,h3⟩:=erase_at h'
    refine ⟨j+1,by simp;exact hj,h1,fun m hm hlt=>?_,?_⟩
    ·cases m with
     | zero=>exact e
     | succ m=>exact h2 m (by simpa using hm) (by omega)
    ·rw [List.erase_cons_tail (by simpa using e),h3]
     rfl
theorem vals_int_at:∀ {ns:List Int} {its:List Value},Vals (ns.map V.int) its→∀ (m:Nat) (h1:m < ns.length) (h2:m < its.length),∃ t,its[m]=.int ns[m] t:=fun {ns its} r m h1 h2=>by
 obtain ⟨u,hu,t,rfl⟩:=r.get (i:=m) (x:=.int ns[m]) (by simp [h1])
 rw [List.getElem?_eq_getElem h2] at hu
 exact ⟨t,Option.some.inj hu⟩
theorem vals_erase:∀ {xs:List V} {us:List Value} (k:Nat),Vals xs us→Vals (xs.eraseIdx k) (us.eraseIdx k)
 | _,_,_,.nil=>.nil
 | _,_,0,.cons _ t=>t
 | _,_,k+1,.cons r t=>.cons r (vals_erase k t)
theorem mt_remove:MtM X "list.remove" rRemove:=by
 intro pins s σ H x vs v us Q I rx rv h
 obtain ⟨l,ns,i,rfl,rfl,hH,hi,q⟩:=h
 cases rx
 obtain ⟨u,rfl,t,rfl⟩:=rv.one
 obtain ⟨z,its,n,r,hl,e⟩:=I.lstM hH
 rw [List.length_map] at hl z
 obtain ⟨j,hj,e1,e2,e3⟩:=erase_at hi
 have at_:∀ (m:Nat) (h:m < its.length),∃ t,its[m]=.int (ns[m]'(by omega)) t:=fun m h=>vals_int_at r m (by omega) h
 refine call_meets F.slot_list_remove ⟨_,e,rfl⟩ F.entry_list_remove (F.args_list_remove_2 _ _)
  (MeetsSeq.list_remove l its.toArray n (.int i t) (fun y=>match y with | .int a _=>a == i | _=>false) (fun y hy=>?_) j (by simpa using (show j < its.length by omega)) ?_ (fun m hm hlt=>?_) (by rw [List.size_toArray];omega)) ⟨e,?_⟩
 ·obtain ⟨m,hm,rfl⟩:=List.getElem_of_mem (by simpa using hy:y∈its)
  obtain ⟨t',et⟩:=at_ m hm
  rw [et]
  exact MeetsSeq.EqGives.int _ _ _ _
 ·obtain ⟨t',et⟩:=at_ j (by omega)
  rw [List.getElem_toArray,et]
  simpa using e1
 ·have hm':m < its.length:=by simpa using hm
  obtain ⟨t',et⟩:=at_ m hm'
  rw [List.getElem_toArray,et]
  simpa using e2 m (by omega) hlt
 ·refine ⟨.non,_,I.lset (its':=its.eraseIdx j) (ys:=(ns.erase i).map V.int) hH e ?_ ?_ ?_,rfl,q⟩
  ·show its.toArray.eraseIdxIfInBounds j=(its.eraseIdx j).toArray
   rw [List.eraseIdxIfInBounds_toArray]
  ·rw [e3,← zf5]
   exact vals_erase j r
  ·rw [List.length_map]
   have:=List.length_erase_le (a:=i) (l:=ns)
   omega
end
section
variable {σ:St} {H:Hp} {Q:VK} {D:Ends} {K:PySem.W.Frag} {ta tv to ti te tb:TE} {f m:Str} {tl:TA} {C a p x:Addr} {nx bk ct:St→Hp→Prop} {rt:VK} {sp:Sp} {E:XK} {fs:List (Str×V)} {dx:Addr} {v:V} {i:Int} {xs:List V} {ns:List Int}
def zju (K:PySem.W.Frag) (f:Str) (x:V) (H1:Hp) (Q:VK):Prop:=∃ a C dx fs v,x=.ref a∧H1 a=some (.ins C dx fs)∧Cls K C∧zbm K C f∧fs.lookup f=some v∧Q v H1
theorem zmJ (h:ta σ H fun x H1=>zju K f x H1 Q):tFld K ta f σ H Q:=h
theorem zhp (h:H a=some (.ins C dx fs)) (c:Cls K C) (n:zbm K C f) (l:fs.lookup f=some v) (q:Q v H):zju K f (.ref a) H Q:=⟨a,C,dx,fs,v,rfl,h,c,n,l,q⟩
def zhq (K:PySem.W.Frag) (f:Str) (y x:V) (H2:Hp) (N:Hp→Prop):Prop:=∃ a C dx fs,x=.ref a∧H2 a=some (.ins C dx fs)∧Cls K C∧zbm K C f∧fs.length < 1000∧N (upd H2 a (.ins C dx (putF f y fs)))
theorem zkX (h:tv σ H fun y H1=>ta σ H1 fun x H2=>zhq K f y x H2 fun H3=>nx σ H3):sFld K ta tv f ⟨nx,rt,bk,ct⟩ σ H:=h
theorem za1 {y:V} {N:Hp→Prop} (h:H a=some (.ins C dx fs)) (c:Cls K C) (n:zbm K C f) (l:fs.length < 1000) (q:∀ H2,But a H H2→H2 a=some (.ins C dx (putF f y fs))→N H2):zhq K f y (.ref a) H N:=⟨a,C,dx,fs,rfl,h,c,n,l,q _ But.upd zar⟩
def za3 (C:Addr) (m:Str) (sp:Sp) (E:XK) (t:TA) (σ:St) (x:V) (H1:Hp) (Q:VK):Prop:=∃ a dx fs,x=.ref a∧H1 a=some (.ins C dx fs)∧fs.lookup m=none∧t σ H1 fun vs H2=>sp (x::(vs++[])) H2 Q E
theorem zkY (h:ta σ H fun x H1=>za3 C m sp E tl σ x H1 Q):zln C m sp [] E ta tl σ H Q:=h
theorem zaG (h:H a=some (.ins C dx fs)) (l:fs.lookup m=none) (q:tl σ H fun vs H2=>sp (.ref a::(vs++[])) H2 Q E):za3 C m sp E tl σ (.ref a) H Q:=⟨a,dx,fs,rfl,h,l,q⟩
def zhr (C:Addr) (sp:Sp) (E:XK) (vs:List V) (H1:Hp) (Q:VK):Prop:=∀ x dx,H1 x=none→H1 dx=none→dx≠x→sp (.ref x::(vs++[])) (upd (upd H1 dx (.own x)) x (.ins C dx [])) (fun v H2=>v=.non∧Q (.ref x) H2) E
theorem zkZ (h:tl σ H fun vs H1=>zhr C sp E vs H1 Q):zlo C sp [] E tl σ H Q:=h
theorem zf6 {vs:List V} (h:∀ x dx H2,H x=none→H dx=none→dx≠x→Same H H2→H2 x=some (.ins C dx [])→sp (.ref x::(vs++[])) H2 (fun v H3=>v=.non∧Q (.ref x) H3) E):zhr C sp E vs H Q :=
 fun x dx hx hd ne=>h x dx _ hx hd ne (fun b u z=>by rw [zaD (zag z hx),zaD (zag z hd)];exact z) zar
theorem zk0 {tget:V→V→Hp→VK→Prop} {tip:TIp} {tset:TSet} (h:to σ H fun o H1=>ti σ H1 fun i H2=>tget o i H2 fun x H3=>te σ H3 fun y H4=>tip x y H4 fun z H5=>tset o i z H5 fun H6=>nx σ H6):zl8 to ti te tget tip tset ⟨nx,rt,bk,ct⟩ σ H:=h
theorem zmK (h:SqL K H p (ns.map V.int)) (h0:0≤i) (h1:i < ns.length) (q:Q (.int (ns.getD i.toNat 0)) H):zmI K (.ref p) (.int i) H Q:=⟨p,ns,i,rfl,rfl,h,h0,h1,q⟩
theorem zmL {g:Int→Int→Int} {j:Int} (q:Q (.int (g i j)) H):ipI g (.int i) (.int j) H Q:=⟨i,j,rfl,rfl,q⟩
theorem zgL (h:H p=some (.lst (ns.map V.int))) (hi:i∈ns) (q:∀ H2,But p H H2→H2 p=some (.lst ((ns.erase i).map V.int))→Q .non H2):rRemove (.ref p) [.int i] H Q:=⟨p,ns,i,rfl,rfl,h,hi,q _ But.upd zar⟩
def kvT (ks:List Int):List (Key×V):=ks.map fun k=>(Sum.inl k,.bl true)
theorem zhs (ks:List Int) (k:Int):(valV (kvT ks) (Sum.inl k:Key)).isSome=decide (k∈ks):=by
 induction ks with
 | nil=>rfl
 | cons y ys ih =>
   show (valV (((Sum.inl y:Key),V.bl true)::kvT ys) (Sum.inl k:Key)).isSome=_
   by_cases e:y=k
   ·subst e
    rw [zd2 rfl]
    simp
   ·rw [zd3 (fun z=>e (Sum.inl.inj z)),ih,decide_eq_decide]
    simp [Ne.symm e]
theorem zkf {ks:List Int} {k:Int} (h:k∉ks):putK (kvT ks) (Sum.inl k:Key) (.bl true)=kvT (ks++[k]):=by
 have:valV (kvT ks) (Sum.inl k:Key)=none:=by
  have:=zhs ks k
  rw [decide_eq_false h] at this
  cases e:valV (kvT ks) (Sum.inl k:Key) with
  | none=>rfl
  | some v=>rw [e] at this;cases this
 rw [zjV _ this]
 unfold kvT
 rw [List.map_append]
 rfl
def zjv (y x:V) (H2:Hp) (Q:VK):Prop:=∃ a o,x=.ref a∧DGet H2 a y o∧Q (.bl o.isSome) H2
theorem zmM (h:ta σ H fun y H1=>tb σ H1 fun x H2=>zjv y x H2 Q):tDIn ta tb σ H Q:=h
theorem zkg {ks:List Int} (h:H a=some (.dK (kvT ks))) (q:Q (.bl (decide (i∈ks))) H):zjv (.int i) (.ref a) H Q :=
 ⟨a,_,rfl,DGet.k (k:=(Sum.inl i:Key)) h,by rw [zhs];exact q⟩
def zht (v x y:V) (H3:Hp) (N:Hp→Prop):Prop:=∃ a H4,x=.ref a∧DPut H3 a y v H4∧N H4
theorem zk1 (h:tv σ H fun v H1=>ta σ H1 fun x H2=>tb σ H2 fun y H3=>zht v x y H3 fun H4=>nx σ H4):zmj ta tb tv ⟨nx,rt,bk,ct⟩ σ H:=h
theorem zjw {ks:List Int} {N:Hp→Prop} (h:H a=some (.dK (kvT ks))) (hz:ks.length≤1000) (hn:i∉ks) (q:∀ H2,But a H H2→H2 a=some (.dK (kvT (ks++[i])))→N H2):zht (.bl true) (.ref a) (.int i) H N:=by
 refine ⟨a,_,rfl,DPut.k (k:=(Sum.inl i:Key)) h (by unfold kvT;rw [List.length_map];exact za0 hz),q _ But.upd ?_⟩
 rw [zar,zkf hn]
theorem zf7 (h:∀ p H2,H p=none→Same H H2→H2 p=some (.dK (kvT []))→Q (.ref p) H2):tDNewK σ H Q:=fun p hp=>h p _ hp (zaQ hp) zar
end
end L2
namespace Prf
open PySem PySem.Spec PyProof.Rows L2
def prsB:List Int→List (List Int)
 | []=>[]
 | x::xs=>(xs.map fun y=>[x,y])++prsB xs
def zkh (a b:List Int):Prop:=a.getD 0 0 < b.getD 0 0∨a.getD 0 0=b.getD 0 0∧a.getD 1 0≤b.getD 1 0
theorem prs_mem:∀ {ns:List Int} {r:List Int},ns.Pairwise (· < ·)→(r∈prsB ns↔∃ x y,r=[x,y]∧x∈ns∧y∈ns∧x < y)
 | [],r,_=>by simp [prsB]
 | n::ns,r,h=>by
   obtain ⟨h1,h2⟩:=List.pairwise_cons.mp h
   unfold prsB
   rw [List.mem_append,prs_mem h2,List.mem_map]
   constructor
   ·rintro (⟨y,hy,rfl⟩ | ⟨x,y,rfl,hx,hy,hlt⟩)
    ·exact ⟨n,y,rfl,by simp,by simp [hy],h1 y hy⟩
    ·exact ⟨x,y,rfl,by simp [hx],by simp [hy],hlt⟩
   ·rintro ⟨x,y,rfl,hx,hy,hlt⟩
    rcases List.mem_cons.mp hx with rfl | hx'
    ·rcases List.mem_cons.mp hy with rfl | hy'
     ·omega
     ·exact .inl ⟨y,hy',rfl⟩
    ·rcases List.mem_cons.mp hy with rfl | hy'
     ·have:=h1 x hx';omega
     ·exact .inr ⟨x,y,rfl,hx',hy',hlt⟩
theorem prs_ord:∀ {ns:List Int},ns.Pairwise (· < ·)→(prsB ns).Pairwise zkh
 | [],_=>List.Pairwise.nil
 | n::ns,h=>by
   obtain ⟨h1,h2⟩:=List.pairwise_cons.mp h
   unfold prsB
   refine List.pairwise_append.mpr ⟨?_,prs_ord h2,fun a ha b hb=>?_⟩
   ·rw [List.pairwise_map]
    exact h2.imp fun h=>.inr ⟨rfl,Int.le_of_lt h⟩
   ·obtain ⟨y,hy,rfl⟩:=List.mem_map.mp ha
    obtain ⟨x,z,rfl,hx,_,_⟩:=(prs_mem h2).mp hb
    exact .inl (h1 x hx)
theorem zki {ns:List Int} {i:Nat} (h:i < ns.length):prsB (ns.drop i)=((ns.drop (i+1)).map fun y=>[ns.getD i 0,y])++prsB (ns.drop (i+1)):=by
 rw [List.drop_eq_getElem_cons h,List.getD_eq_getElem?_getD,List.getElem?_eq_getElem h]
 rfl
theorem prs_len:∀ (ns:List Int),(prsB ns).length≤ns.length * ns.length
 | []=>Nat.le_refl _
 | n::ns=>by
   unfold prsB
   rw [List.length_append,List.length_map,List.length_cons,Nat.add_mul,Nat.mul_add]
   have:=prs_len ns
   omega
theorem cnt_append (a b:List (List Int)) (x:Int):cntB (a++b) x=cntB a x+cntB b x:=by
 unfold cntB
 rw [List.filter_append,List.length_append]
def zf8 (rs:List (List Int)) (ls:List Int):List (List Int):=(List.range rs.length).map fun i=>[(rs.getD i []).getD 0 0,ls.getD i 0]
theorem zcd (rs:List (List Int)) (ls:List Int):(zf8 rs ls).length=rs.length:=by unfold zf8;rw [List.length_map,List.length_range]
theorem zcE {rs:List (List Int)} {ls:List Int} {i:Nat} (h:i < rs.length):(zf8 rs ls).getD i []=[(rs.getD i []).getD 0 0,ls.getD i 0]:=zau h
theorem zfr {rs rows:List (List Int)} {i:Nat} (h:i < rs.length):(zbC rs rows).getD i 0=(rs.getD i []).getD 1 0-(cntB rows ((i:Int)+1):Int):=zau h
theorem zf9 {rs:List (List Int)} {ls:List Int} {h:Int} {row:List Int}:zb8 (zf8 rs ls) h row=true↔zb8 rs h row=true:=by
 rw [zbJ,zbJ,zcd]
 constructor
 ·rintro ⟨h1,h2,h3,h4,h5,h6⟩
  rw [zcE (by omega)] at h5 h6
  exact ⟨h1,h2,h3,h4,h5,h6⟩
 ·rintro ⟨h1,h2,h3,h4,h5,h6⟩
  refine ⟨h1,h2,h3,h4,?_,?_⟩
  ·rw [zcE (by omega)];exact h5
  ·rw [zcE (by omega)];exact h6
def zb4 (hs:List Int) (rs rows:List (List Int)):Prop:=rows.length≤hs.length∧∀ k,k < rows.length→zb8 rs (hs.getD k 0) (rows.getD k [])=true
def Ext (hs:List Int) (rs rows:List (List Int)):Prop:=∃ more,zaS hs rs (rows++more)=true
theorem zbd {hs:List Int} {rs rows:List (List Int)}:zaS hs rs rows=true↔rows.length=hs.length∧(∀ k,k < hs.length→zb8 rs (hs.getD k 0) (rows.getD k [])=true)∧∀ k,k < rs.length→(cntB rows ((k:Int)+1):Int)≤(rs.getD k []).getD 1 0:=by
 unfold zaS
 simp only [Bool.and_eq_true,decide_eq_true_eq,List.all_eq_true,List.mem_range]
 have e0:∀ k:Nat,(0:Int)+(k:Int)+1=(k:Int)+1:=fun k=>by omega
 constructor
 ·rintro ⟨⟨h1,h2⟩,h3⟩
  exact ⟨h1,h2,fun k hk=>by have:=h3 k hk;rwa [e0] at this⟩
 ·rintro ⟨h1,h2,h3⟩
  exact ⟨⟨h1,h2⟩,fun k hk=>by rw [e0];exact h3 k hk⟩
theorem zce {α:Type} {xs ys:List α} {d:α} {i:Nat} (h:xs.length≤i):(xs++ys).getD i d=ys.getD (i-xs.length) d:=by
 rw [List.getD_eq_getElem?_getD,List.getD_eq_getElem?_getD,List.getElem?_append_right h]
theorem zen {α:Type} {xs:List α} {d:α} {i k:Nat}:(xs.drop k).getD i d=xs.getD (k+i) d:=by
 rw [List.getD_eq_getElem?_getD,List.getD_eq_getElem?_getD,List.getElem?_drop]
theorem zmN {hs:List Int} {rs rows:List (List Int)} (P:zb4 hs rs rows):Ext hs rs rows↔(∀ k,k < rs.length→(cntB rows ((k:Int)+1):Int)≤(rs.getD k []).getD 1 0)∧∃ more,zaS (hs.drop rows.length) (zf8 rs (zbC rs rows)) more=true:=by
 obtain ⟨pl,pp⟩:=P
 constructor
 ·rintro ⟨more,h⟩
  obtain ⟨h1,h2,h3⟩:=zbd.mp h
  rw [List.length_append] at h1
  refine ⟨fun k hk=>?_,more,zbd.mpr ⟨by rw [List.length_drop];omega,fun k hk=>?_,fun k hk=>?_⟩⟩
  ·have:=h3 k hk
   rw [cnt_append] at this
   omega
  ·rw [List.length_drop] at hk
   have:=h2 (rows.length+k) (by omega)
   rw [zce (by omega),Nat.add_sub_cancel_left] at this
   rw [zen]
   exact zf9.mpr this
  ·rw [zcd] at hk
   have:=h3 k hk
   rw [cnt_append] at this
   rw [zcE hk,zfr hk]
   show (cntB more ((k:Int)+1):Int)≤(rs.getD k []).getD 1 0-(cntB rows ((k:Int)+1):Int)
   omega
 ·rintro ⟨h0,more,h⟩
  obtain ⟨h1,h2,h3⟩:=zbd.mp h
  rw [List.length_drop] at h1 h2
  refine ⟨more,zbd.mpr ⟨by rw [List.length_append];omega,fun k hk=>?_,fun k hk=>?_⟩⟩
  ·by_cases e:k < rows.length
   ·rw [zaB e]
    exact pp k e
   ·rw [zce (by omega)]
    have:=h2 (k-rows.length) (by omega)
    rw [zen] at this
    have e2:rows.length+(k-rows.length)=k:=by omega
    rw [e2] at this
    exact zf9.mp this
  ·have:=h3 k (by rw [zcd];exact hk)
   rw [zcE hk,zfr hk] at this
   have t2:(cntB more ((k:Int)+1):Int)≤(rs.getD k []).getD 1 0-(cntB rows ((k:Int)+1):Int):=this
   rw [cnt_append]
   omega
theorem zmO {hs:List Int} {rs rows:List (List Int)} (B:InB hs rs) (h0:∀ k,k < rs.length→(cntB rows ((k:Int)+1):Int)≤(rs.getD k []).getD 1 0) (n:Nat):InB (hs.drop n) (zf8 rs (zbC rs rows)):=by
 have lp:=B.lp
 have lr:=B.lr
 refine ⟨by rw [List.length_drop];omega,by rw [zcd];exact lr,fun i hi=>?_,fun i hi=>?_,fun i hi=>?_,fun i hi=>?_⟩
 ·rw [List.length_drop] at hi
  rw [zen]
  exact B.hh _ (by omega)
 ·rw [zcd] at hi
  rw [zcE hi];rfl
 ·rw [zcd] at hi
  rw [zcE hi];exact B.rh i hi
 ·rw [zcd] at hi
  have:=h0 i hi
  have:=B.rl i hi
  rw [zcE hi,zfr hi]
  show 0≤(rs.getD i []).getD 1 0-(cntB rows ((i:Int)+1):Int)∧(rs.getD i []).getD 1 0-(cntB rows ((i:Int)+1):Int)≤30
  omega
theorem zhu {row:List Int}:∀ {t full:List (List Int)},nbB t full=true→((∀ j,j < t.length→(t.getD j []).getD 0 0=(full.getD j []).getD 0 0∧(t.getD j []).getD 1 0=(full.getD j []).getD 1 0)→t.length < full.length→zkh row (full.getD t.length []))→nbB (t++[row]) full=true
 | [],[],_,_=>rfl
 | [],f::fs,_,h=>by
   have h1:=h (fun j hj=>absurd hj (by simp)) (by simp)
   have h2:zkh row f:=h1
   show (if row.getD 0 0=f.getD 0 0 then (if row.getD 1 0=f.getD 1 0 then nbB [] fs else decide (row.getD 1 0 < f.getD 1 0)) else decide (row.getD 0 0 < f.getD 0 0))=true
   unfold zkh at h2
   by_cases e:row.getD 0 0=f.getD 0 0
   ·rw [if_pos e]
    by_cases e2:row.getD 1 0=f.getD 1 0
    ·rw [if_pos e2];rfl
    ·rw [if_neg e2];exact decide_eq_true (by omega)
   ·rw [if_neg e];exact decide_eq_true (by omega)
 | t::ts,[],_,_=>rfl
 | t::ts,f::fs,hn,h=>by
   have hn':(if t.getD 0 0=f.getD 0 0 then (if t.getD 1 0=f.getD 1 0 then nbB ts fs else decide (t.getD 1 0 < f.getD 1 0)) else decide (t.getD 0 0 < f.getD 0 0))=true:=hn
   show (if t.getD 0 0=f.getD 0 0 then (if t.getD 1 0=f.getD 1 0 then nbB (ts++[row]) fs else decide (t.getD 1 0 < f.getD 1 0)) else decide (t.getD 0 0 < f.getD 0 0))=true
   by_cases e:t.getD 0 0=f.getD 0 0
   ·rw [if_pos e] at hn' ⊢
    by_cases e2:t.getD 1 0=f.getD 1 0
    ·rw [if_pos e2] at hn' ⊢
     refine zhu hn' fun hj hl=>?_
     refine h (fun j hj'=>?_) (by simpa using hl)
     cases j with
     | zero=>exact ⟨e,e2⟩
     | succ j=>exact hj j (by simpa using hj')
    ·rw [if_neg e2] at hn' ⊢;exact hn'
   ·rw [if_neg e] at hn' ⊢;exact hn'
theorem zmP {a b:List Int} (ha:a.length=2) (hb:b.length=2) (h0:a.getD 0 0=b.getD 0 0) (h1:a.getD 1 0=b.getD 1 0):a=b:=by
 rw [len2 ha,len2 hb,h0,h1]
end Prf
namespace L2
open PySem PySem.Spec PyProof.Rows
section
variable {σ:St} {H:Hp} {Q:VK} {K:PySem.W.Frag} {ta tb:TE} {a:Addr} {i:Int} {v:V}
def zhv (y x:V) (H2:Hp) (Q:VK):Prop:=∃ a o,x=.ref a∧DGet H2 a y o∧Q (.bl (!o.isSome)) H2
theorem zk2 (h:ta σ H fun y H1=>tb σ H1 fun x H2=>zhv y x H2 Q):ziR ta tb σ H Q:=h
theorem zjx {kvs:List (Key×V)} (h:H a=some (.dK kvs)) (q:Q (.bl (!(valV kvs (Sum.inl i:Key)).isSome)) H):zhv (.int i) (.ref a) H Q:=⟨a,_,rfl,DGet.k (k:=Sum.inl i) h,q⟩
def zhw (x y:V) (H2:Hp) (Q:VK):Prop:=∃ a v,x=.ref a∧DGet H2 a y (some v)∧Q v H2
theorem zk3 (h:ta σ H fun x H1=>tb σ H1 fun y H2=>zhw x y H2 Q):zmi ta tb σ H Q:=h
theorem zjy {kvs:List (Key×V)} (h:H a=some (.dK kvs)) (e:valV kvs (Sum.inl i:Key)=some v) (q:Q v H):zhw (.ref a) (.int i) H Q:=⟨a,v,rfl,e▸DGet.k (k:=Sum.inl i) h,q⟩
end
end L2
namespace Prf
open PySem PySem.Spec PyProof.Rows L2
structure ExS where
 hs:List Int
 rs:List (List Int)
 step:Int
 dl:Option (List (List Int)×List (List Int))
def ExS.nm (s:ExS):List (List Int):=(s.dl.map (·.1)).getD []
def ExS.en (s:ExS):List (List Int):=(s.dl.map (·.2)).getD []
def zcf (en:List (List Int)) (k:Nat) (r:Int):Option Int:=((en.filter fun e=>decide (e.getD 0 0=(k:Int)+1) && decide (e.getD 1 0=r)).getLast?).map fun e=>e.getD 2 0
theorem zmQ (k:Nat) (r:Int):zcf [] k r=none:=rfl
def exFs (va vb vs vd vc ve:V):List (Str×V):=[("paper_houses",va),("reader_rows",vb),("widest_step",vs),("is_dealt",vd),("named_readers",vc),("entered_points",ve)]
section
variable {va vb vs vd vc ve v:V}
theorem exFs_mk:putF "entered_points" ve (putF "named_readers" vc (putF "is_dealt" vd (putF "widest_step" vs (putF "reader_rows" vb (putF "paper_houses" va [])))))=exFs va vb vs vd vc ve:=by
 unfold exFs
 repeat (first | rw [if_neg (by decide +kernel)] | simp only [putF])
theorem exFs_a:(exFs va vb vs vd vc ve).lookup ("paper_houses" : Str)=some va:=by rw [← exFs_mk];simp only [zaA];repeat (first | rw [if_pos trivial] | rw [if_pos rfl] | rw [if_neg (by decide +kernel)])
theorem exFs_b:(exFs va vb vs vd vc ve).lookup ("reader_rows" : Str)=some vb:=by rw [← exFs_mk];simp only [zaA];repeat (first | rw [if_pos trivial] | rw [if_pos rfl] | rw [if_neg (by decide +kernel)])
theorem exFs_s:(exFs va vb vs vd vc ve).lookup ("widest_step" : Str)=some vs:=by rw [← exFs_mk];simp only [zaA];repeat (first | rw [if_pos trivial] | rw [if_pos rfl] | rw [if_neg (by decide +kernel)])
theorem exFs_d:(exFs va vb vs vd vc ve).lookup ("is_dealt" : Str)=some vd:=by rw [← exFs_mk];simp only [zaA];repeat (first | rw [if_pos trivial] | rw [if_pos rfl] | rw [if_neg (by decide +kernel)])
theorem exFs_c:(exFs va vb vs vd vc ve).lookup ("named_readers" : Str)=some vc:=by rw [← exFs_mk];simp only [zaA];repeat (first | rw [if_pos trivial] | rw [if_pos rfl] | rw [if_neg (by decide +kernel)])
theorem exFs_e:(exFs va vb vs vd vc ve).lookup ("entered_points" : Str)=some ve:=by rw [← exFs_mk];simp only [zaA];repeat (first | rw [if_pos trivial] | rw [if_pos rfl] | rw [if_neg (by decide +kernel)])
theorem exFs_ps:putF "widest_step" v (exFs va vb vs vd vc ve)=exFs va vb v vd vc ve:=by
 unfold exFs;simp only [putF];repeat (first | rw [if_pos trivial] | rw [if_pos rfl] | rw [if_neg (by decide +kernel)])
theorem exFs_pd:putF "is_dealt" v (exFs va vb vs vd vc ve)=exFs va vb vs v vc ve:=by
 unfold exFs;simp only [putF];repeat (first | rw [if_pos trivial] | rw [if_pos rfl] | rw [if_neg (by decide +kernel)])
theorem exFs_pc:putF "named_readers" v (exFs va vb vs vd vc ve)=exFs va vb vs vd v ve:=by
 unfold exFs;simp only [putF];repeat (first | rw [if_pos trivial] | rw [if_pos rfl] | rw [if_neg (by decide +kernel)])
theorem exFs_pe:putF "entered_points" v (exFs va vb vs vd vc ve)=exFs va vb vs vd vc v:=by
 unfold exFs;simp only [putF];repeat (first | rw [if_pos trivial] | rw [if_pos rfl] | rw [if_neg (by decide +kernel)])
end
def exFields:List Str:=["paper_houses","reader_rows","widest_step","is_dealt","named_readers","entered_points"]
theorem zlL {va vb vs vd vc ve:V} {m:Str} (h:m∉exFields):(exFs va vb vs vd vc ve).lookup m=none:=by
 have hn:∀ f∈exFields,¬m=f:=fun f hf z=>h (z▸hf)
 rw [← exFs_mk]
 simp only [zaA]
 rw [if_neg (hn _ (by decide +kernel)),if_neg (hn _ (by decide +kernel)),if_neg (hn _ (by decide +kernel)),if_neg (hn _ (by decide +kernel)),if_neg (hn _ (by decide +kernel)),if_neg (hn _ (by decide +kernel))]
 rfl
def zfs (n:Nat) (en:List (List Int)) (k:Nat) (row:List Int):Prop:=∃ f s:Int,1≤f∧f < s∧s≤n∧(row=[f,s]∨∃ t:Int,row=[f,s,t]∧1≤t∧t≤n∧t≠f∧t≠s∧(zcf en k f).isSome=true∧(zcf en k s).isSome=true)
structure Wf (st:ExS):Prop where
 ln:st.dl.isSome=true→st.nm.length=st.hs.length
 row:∀ k,k < st.nm.length→zfs st.rs.length st.en k (st.nm.getD k [])
 pts:∀ k r p,zcf st.en k r=some p→0≤p∧p≤100
 stp:0≤st.step∧st.step≤100
structure ExAd where
 x:Addr
 dx:Addr
 a:Addr
 b:Addr
 c:Addr
 d:Addr
 ps:List Addr
 qs:List Addr
 ds:List Addr
def ExAd.own (e:ExAd):List Addr:=e.x::e.a::e.b::e.c::e.d::(e.ps++(e.qs++e.ds))
structure ExIn (C:Addr) (H:Hp) (e:ExAd) (st:ExS) (kvs:List (List (Key×V))):Prop where
 ob:H e.x=some (.ins C e.dx (exFs (.ref e.a) (.ref e.b) (.int st.step) (.bl st.dl.isSome) (.ref e.c) (.ref e.d)))
 ha:H e.a=some (.lst (st.hs.map V.int))
 hb:H e.b=some (.lst (e.ps.map V.ref))
 hc:H e.c=some (.lst (e.qs.map V.ref))
 hd:H e.d=some (.lst (e.ds.map V.ref))
 lp:e.ps.length=st.rs.length
 lq:e.qs.length=st.nm.length
 ld:e.ds.length=st.nm.length
 rp:∀ i,i < st.rs.length→H (e.ps.getD i 0)=some (.lst ((st.rs.getD i []).map V.int))
 rq:∀ i,i < st.nm.length→H (e.qs.getD i 0)=some (.lst ((st.nm.getD i []).map V.int))
 rd:∀ i,i < st.nm.length→H (e.ds.getD i 0)=some (.dK (kvs.getD i []))
 vk:∀ i,i < st.nm.length→∀ r:Int,valV (kvs.getD i []) (Sum.inl r:Key)=(zcf st.en i r).map V.int
 sk:∀ i,i < st.nm.length→(kvs.getD i []).length≤st.en.length
 lk:kvs.length=st.nm.length
 nd:e.own.Nodup
 wf:Wf st
def ExAt (C:Addr) (H:Hp) (x:Addr) (F:Addr→Prop) (st:ExS):Prop:=∃ e kvs,e.x=x∧(∀ b,F b↔b∈e.own)∧ExIn C H e st kvs
theorem zgM {ps:List Addr} {i:Nat} (h:i < ps.length):ps.getD i 0∈ps:=by
 rw [List.getD_eq_getElem?_getD,List.getElem?_eq_getElem h];exact List.getElem_mem h
section
variable {C x:Addr} {H H':Hp} {e:ExAd} {st:ExS} {kvs:List (List (Key×V))} {F:Addr→Prop}
theorem own_x:e.x∈e.own:=List.mem_cons_self
theorem own_a:e.a∈e.own:=List.mem_cons_of_mem _ List.mem_cons_self
theorem own_b:e.b∈e.own:=List.mem_cons_of_mem _ (List.mem_cons_of_mem _ List.mem_cons_self)
theorem own_c:e.c∈e.own:=List.mem_cons_of_mem _ (List.mem_cons_of_mem _ (List.mem_cons_of_mem _ List.mem_cons_self))
theorem own_d:e.d∈e.own:=List.mem_cons_of_mem _ (List.mem_cons_of_mem _ (List.mem_cons_of_mem _ (List.mem_cons_of_mem _ List.mem_cons_self)))
theorem zlM {b:Addr} (h:b∈e.ps++(e.qs++e.ds)):b∈e.own:=List.mem_cons_of_mem _ (List.mem_cons_of_mem _ (List.mem_cons_of_mem _ (List.mem_cons_of_mem _ (List.mem_cons_of_mem _ h))))
theorem zkj {b:Addr} (h:b∈e.ps):b∈e.own:=zlM (List.mem_append_left _ h)
theorem zlN {b:Addr} (h:b∈e.qs):b∈e.own:=zlM (List.mem_append_right _ (List.mem_append_left _ h))
theorem zjz {b:Addr} (h:b∈e.ds):b∈e.own:=zlM (List.mem_append_right _ (List.mem_append_right _ h))
theorem ExIn.keep (E:ExIn C H e st kvs) (k:∀ b o,b∈e.own→H b=some o→H' b=some o):ExIn C H' e st kvs :=
 ⟨k _ _ own_x E.ob,k _ _ own_a E.ha,k _ _ own_b E.hb,k _ _ own_c E.hc,k _ _ own_d E.hd,E.lp,E.lq,E.ld,fun i hi=>k _ _ (zkj (zgM (by rw [E.lp];exact hi))) (E.rp i hi),fun i hi=>k _ _ (zlN (zgM (by rw [E.lq];exact hi))) (E.rq i hi),fun i hi=>k _ _ (zjz (zgM (by rw [E.ld];exact hi))) (E.rd i hi),E.vk,E.sk,E.lk,E.nd,E.wf⟩
theorem ExIn.mem (E:ExIn C H e st kvs) {b:Addr} (h:b∈e.own):∃ o,H b=some o:=by
 unfold ExAd.own at h
 simp only [List.mem_cons,List.mem_append] at h
 rcases h with h | h | h | h | h | h | h | h
 ·exact ⟨_,h▸E.ob⟩
 ·exact ⟨_,h▸E.ha⟩
 ·exact ⟨_,h▸E.hb⟩
 ·exact ⟨_,h▸E.hc⟩
 ·exact ⟨_,h▸E.hd⟩
 ·obtain ⟨i,hi,ei⟩:=L2.mem_getD (d:=0) h
  exact ⟨_,ei▸E.rp i (by have:=E.lp;omega)⟩
 ·obtain ⟨i,hi,ei⟩:=L2.mem_getD (d:=0) h
  exact ⟨_,ei▸E.rq i (by have:=E.lq;omega)⟩
 ·obtain ⟨i,hi,ei⟩:=L2.mem_getD (d:=0) h
  exact ⟨_,ei▸E.rd i (by have:=E.ld;omega)⟩
theorem ExAt.keep (E:ExAt C H x F st) (k:∀ b o,F b→H b=some o→H' b=some o):ExAt C H' x F st:=by
 obtain ⟨e,kvs,hx,hF,I⟩:=E
 exact ⟨e,kvs,hx,hF,I.keep fun b o hb eb=>k b o ((hF b).mpr hb) eb⟩
def exMeths:List Str:=["bring_paper","bring_reader","set_step","deal","enter","papers","readers","step","dealt","dealing","against","due","marks","left","refuse_behind_dealing","refuse_ahead_of_dealing","refuse_not_due","due_readers","points_for","mark_for","name_third","needs_third"]
theorem zhY {m:Str} (h:m∈exMeths):m∉exFields:=by
 revert m
 have:exMeths.all (fun m=>!exFields.contains m)=true:=by decide +kernel
 intro m h z
 have:=List.all_eq_true.mp this m h
 simp only [Bool.not_eq_true',← Bool.not_eq_true,List.contains_iff_mem] at this
 exact this z
theorem ExAt.ob (E:ExAt C H x F st):∃ dx fs,H x=some (.ins C dx fs)∧∀ m∈exMeths,fs.lookup m=none:=by
 obtain ⟨e,kvs,rfl,hF,I⟩:=E
 exact ⟨_,_,I.ob,fun m hm=>zlL (zhY hm)⟩
end
structure ExFr (H H':Hp) (F F':Addr→Prop):Prop where
 kp:∀ b o,H b=some o→¬F b→H' b=some o
 fp:∀ b,F' b→F b∨H b=none
section
variable {C x:Addr} {H H':Hp} {e:ExAd} {st:ExS} {kvs:List (List (Key×V))} {F F':Addr→Prop}
theorem ExFr.but {p:Addr} (b:But p H H') (hp:F p) (fp:∀ b,F' b→F b∨H b=none):ExFr H H' F F':=⟨fun c o e n=>by rw [b c (fun z=>n (z▸hp))];exact e,fp⟩
theorem ExAt.same (E:ExAt C H x F st) (s:Same H H'):ExAt C H' x F st:=E.keep fun b o _ e=>s b o e
theorem ExIn.new (E:ExIn C H e st kvs) {b:Addr} (h:H b=none):b∉e.own:=fun z=>by obtain ⟨o,e⟩:=E.mem z;rw [h] at e;cases e
end
theorem ExFr.nf {H0 H H':Hp} {F F':Addr→Prop} (f:ExFr H H' F F') (s:Same H0 H) (n:∀ c o,H0 c=some o→¬F c):(∀ c o,H0 c=some o→¬F' c)∧Same H0 H' :=
 ⟨fun c o e z=>(f.fp c z).elim (n c o e) fun z=>(by rw [s c o e] at z;cases z),fun c o e=>f.kp c o (s c o e) (n c o e)⟩
end Prf
namespace L2
open PySem PySem.Spec PyProof.Rows
section
variable {σ:St} {H:Hp} {Q:VK} {K:PySem.W.Frag} {js:List Nat} {te:TE} {J:It} {n k:Nat} {g:TG} {w:Nat→St} {x:Nat→V}
theorem zhx (T:zbK J n k js σ g w H) (hz:n≤1000) (R:Addr→Nat→V→Hp→Prop) (S:List V→V→Prop)
  (st:∀ p i v H1 H2,R p i v H1→(∀ b o,H1 b=some o→b≠p→H2 b=some o)→R p i v H2)
  (he:∀ p ys i H' Q',i < n→H p=none→Same H H'→H' p=some (.lst ys)→ys.length=i→(∀ j,j < i→R p j (ys.getD j .non) H')→(∀ v H2,Same H' H2→R p i v H2→S ys v→Q' v H2)→te (w i++capV js σ) H' Q')
  (hq:∀ p vs H2,H p=none→Same H H2→H2 p=some (.lst vs)→vs.length=n→(∀ i,i < n→R p i (vs.getD i .non) H2)→(∀ i,i < n→S (vs.take i) (vs.getD i .non))→Q (.ref p) H2):zgH J k js g tTT te σ H Q:=by
 intro p hp
 refine ⟨fun i m σc H'=>m=n-i∧i≤n∧(∃ u:St,u.length=k∧σc=u++capV js σ)∧Same H H'∧∃ vs:List V,vs.length=i∧H' p=some (.lst vs)∧(∀ j,j < i→R p j (vs.getD j .non) H')∧∀ j,j < i→S (vs.take j) (vs.getD j .non),⟨n,by simp,Nat.zero_le _,⟨List.replicate k none,List.length_replicate,rfl⟩,zaQ hp,[],rfl,zar,fun j hj=>absurd hj (by omega),fun j hj=>absurd hj (by omega)⟩,?_⟩
 rintro i m σc H' ⟨rfl,hi,⟨u,hu,rfl⟩,s,vs,hvl,hpp,hR,hS⟩
 have hsl:n < sizeLine:=za0 hz
 by_cases hlt:i < n
 ·refine .inr ⟨T.go i _ s hlt,fun σ' H'=>(∃ u:St,u.length=k∧σ'=u++capV js σ)∧Same H H'∧∃ vs:List V,vs.length=i+1∧H' p=some (.lst vs)∧(∀ j,j < i+1→R p j (vs.getD j .non) H')∧∀ j,j < i+1→S (vs.take j) (vs.getD j .non),fun σ' H' ⟨h1,h2,h3⟩=>⟨n-(i+1),by omega,rfl,hlt,h1,h2,h3⟩,fun v H2 hy=>?_⟩
  refine T.yld i H' v H2 u _ s hlt hu hy fun H3 s3=>?_
  refine r_tt ?_
  rw [if_pos rfl]
  have hpp3:=s3 _ _ hpp
  refine he p vs i _ _ hlt hp (s.trans s3) hpp3 hvl (fun j hj=>st p j _ _ _ (hR j hj) fun b o e _=>s3 b o e) fun v H5 s5 hv sv=>?_
  refine ⟨vs,s5 _ _ hpp3,by omega,⟨w i,T.len i,rfl⟩,zd4 ((s.trans s3).trans s5) hp,vs++[v],by rw [List.length_append,hvl];rfl,zar,fun j hj=>?_,fun j hj=>?_⟩
  ·by_cases hji:j < i
   ·rw [zaB (by omega)]
    exact st p j _ _ _ (hR j hji) fun b o e nb=>by rw [zaD nb];exact s5 _ _ (s3 _ _ e)
   ·have e0:j=vs.length:=by omega
    subst e0
    rw [zaC]
    exact st p _ _ _ _ (hvl▸hv) fun b o e nb=>by rw [zaD nb];exact e
  ·by_cases hji:j < i
   ·rw [zaB (by omega),List.take_append_of_le_length (by omega)]
    exact hS j hji
   ·have e0:j=vs.length:=by omega
    subst e0
    rw [zaC,List.take_append_of_le_length (Nat.le_refl _),List.take_length]
    exact sv
 ·have e:i=n:=by omega
  subst e
  exact .inl ⟨T.stop _ s,hq p vs _ hp s hpp hvl hR hS⟩
theorem zcF {xs:List Int} {i:Nat} (h:i < xs.length):(xs.map V.int).getD i .non=.int (xs.getD i 0):=by
 rw [List.getD_eq_getElem?_getD,List.getElem?_map,List.getElem?_eq_getElem h,List.getD_eq_getElem?_getD,List.getElem?_eq_getElem h];rfl
theorem zjA {xs:List Addr} {i:Nat} (h:i < xs.length):(xs.map V.ref).getD i .non=.ref (xs.getD i 0):=by
 rw [List.getD_eq_getElem?_getD,List.getElem?_map,List.getElem?_eq_getElem h,List.getD_eq_getElem?_getD,List.getElem?_eq_getElem h];rfl
theorem zjB {xs ys:List Int} (h:ys.length=xs.length):(List.range xs.length).map (fun i=>[xs.getD i 0,ys.getD i 0])=(xs.zip ys).map fun p=>[p.1,p.2]:=by
 refine List.ext_getElem (by simp [h]) fun i h1 h2=>?_
 have h3:i < xs.length:=by simpa using h1
 rw [List.getElem_map,List.getElem_map,List.getElem_range,List.getElem_zip,List.getD_eq_getElem?_getD,List.getElem?_eq_getElem h3,List.getD_eq_getElem?_getD,List.getElem?_eq_getElem (by omega)]
 rfl
theorem zbE {f:Str} {v:V}:∀ {fs:List (Str×V)} {n:Nat},fs.length < n→(putF f v fs).length < n+1
 | [],n,h=>by show 1 < n+1;have:0 < n:=h;omega
 | (g,x)::r,n,h=>by
  show (if g=f then (g,v)::r else (g,x)::putF f v r).length < n+1
  have h':r.length+1 < n:=h
  split
  ·show r.length+1 < n+1;omega
  ·show (putF f v r).length+1 < n+1
   have:=zbE (f:=f) (v:=v) (fs:=r) (n:=n-1) (by omega)
   omega
theorem zbv {α:Type} (xs:List α) (d:α):(List.range xs.length).map (fun i=>xs.getD i d)=xs:=by
 refine List.ext_getElem (by simp) fun i h1 h2=>?_
 simp at h1 ⊢
 rw [List.getElem?_eq_getElem h1];rfl
theorem zhZ {a:Addr} {rs:List (List Int)} (h:LL K H a rs) (hz:rs.length≤1000) (hq:∀ p H2,RowsAt H p rs H2→Q (.ref p) H2):zee (Itl K a) js tTT (tCB (zlx K) (zfh (tVar 0) tNil)) σ H Q:=by
 obtain ⟨ps,h1,h2,h3⟩:=h
 refine zbu (zby (zbK.one (za6 h1)) (by rw [List.length_map];omega) (fun i=>rs.getD i []) (fun i H' Q' hi s q=>?_) fun p H2 R=>?_)
 ·rw [List.length_map] at hi
  have e:(ps.map V.ref).getD i .non=.ref (ps.getD i 0):=by
   rw [List.getD_eq_getElem?_getD,List.getElem?_map,List.getElem?_eq_getElem hi,List.getD_eq_getElem?_getD,List.getElem?_eq_getElem hi];rfl
  rw [e]
  refine r_cb (ze3 (zfm (i:=0) rfl (zcN ?_)))
  exact zfR (SqL.of (s _ _ (h3 i (by omega)))) fun l H2 f s2 e2=>q l H2 f s2 e2
 ·rw [List.length_map,h2,zbv] at R
  exact hq p H2 R
theorem zkk {p b:Addr} {xs ys:List V} (h:H p=some (.lst xs)) (h':H b=some (.lst ys)) (hz:xs.length+ys.length≤1000000) (q:∀ H2,But p H H2→H2 p=some (.lst (xs++ys))→Q .non H2):rExtend (.ref p) [.ref b] H Q :=
 ⟨p,b,xs,ys,rfl,rfl,h,h',by rw [sizeLine_eq];omega,q _ But.upd zar⟩
theorem RowsAt.ext {B H H2 H3:Hp} {p p2:Addr} {rs rs2:List (List Int)} (R:RowsAt B p rs H) (R2:RowsAt H p2 rs2 H2) :
  ∃ zs zs2:List V,H2 p=some (.lst zs)∧H2 p2=some (.lst zs2)∧zs.length=rs.length∧zs2.length=rs2.length∧(But p H2 H3→H3 p=some (.lst (zs++zs2))→RowsAt B p (rs++rs2) H3):=by
 obtain ⟨sb,hp,ps,h1,h2,nd,h3⟩:=R
 obtain ⟨sb2,hp2,qs,k1,k2,nd2,k3⟩:=R2
 refine ⟨_,_,sb2 _ _ h1,k1,by rw [List.length_map];exact h2,by rw [List.length_map];exact k2,fun b e=>?_⟩
 have ne:∀ i,i < rs2.length→qs.getD i 0≠p:=fun i hi z=>by have:=(k3 i hi).2.1;rw [z,h1] at this;cases this
 refine ⟨(sb.trans sb2).but b hp,hp,ps++qs,by rw [e,List.map_append],by rw [List.length_append,List.length_append,h2,k2],?_,fun i hi=>?_⟩
 ·refine List.nodup_append.mpr ⟨nd,nd2,fun x hx y hy z=>?_⟩
  subst z
  obtain ⟨i,hi,ei⟩:=L2.mem_getD (d:=0) hx
  obtain ⟨j,hj,ej⟩:=L2.mem_getD (d:=0) hy
  have a1:=(h3 i (by omega)).1
  have a2:=(k3 j (by omega)).2.1
  rw [ei] at a1
  rw [ej,a1] at a2
  cases a2
 ·rw [List.length_append] at hi
  by_cases hlt:i < rs.length
  ·rw [zaB (by omega),zaB hlt]
   obtain ⟨a1,a2,a3⟩:=h3 i hlt
   exact ⟨by rw [b _ a3];exact sb2 _ _ a1,a2,a3⟩
  ·obtain ⟨j,rfl⟩:∃ j,i=rs.length+j:=⟨i-rs.length,by omega⟩
   have e1:(ps++qs).getD (rs.length+j) 0=qs.getD j 0:=by
    rw [List.getD_eq_getElem?_getD,List.getD_eq_getElem?_getD,List.getElem?_append_right (by omega)]
    congr 2;omega
   have e2:(rs++rs2).getD (rs.length+j) []=rs2.getD j []:=by
    rw [List.getD_eq_getElem?_getD,List.getD_eq_getElem?_getD,List.getElem?_append_right (by omega)]
    congr 2;omega
   rw [e1,e2]
   obtain ⟨a1,a2,a3⟩:=k3 j (by omega)
   exact ⟨by rw [b _ (ne j (by omega))];exact a1,sb.free a2,ne j (by omega)⟩
theorem zh0 (T:zbK J n k js σ g w H) (hz:n≤1000) (he:te=tDNewK)
  (hq:∀ p (ds:List Addr) H2,H p=none→Same H H2→H2 p=some (.lst (ds.map V.ref))→ds.length=n→ds.Nodup→(∀ i,i < n→H2 (ds.getD i 0)=some (.dK [])∧H (ds.getD i 0)=none∧ds.getD i 0≠p)→Q (.ref p) H2):zgH J k js g tTT te σ H Q:=by
 subst he
 refine zhx T hz (fun p i v H2=>∃ q,v=.ref q∧H2 q=some (.dK [])∧H q=none∧q≠p) (fun ys v=>v∉ys) ?_ ?_ ?_
 ·rintro p i v H1 H2 ⟨q,rfl,h1,h2,h3⟩ k
  exact ⟨q,rfl,k _ _ h1 h3,h2,h3⟩
 ·intro p ys i H' Q' hi hp s hpp hl hR q
  refine zf7 fun d H2 hd s2 e2=>q _ _ s2 ⟨d,rfl,e2,s.free hd,(zag hpp hd).symm⟩ fun hm=>?_
  obtain ⟨j,hj,ej⟩:=L2.mem_getD (d:=V.non) hm
  obtain ⟨q',e1,e3,_⟩:=hR j (by omega)
  rw [ej] at e1
  have:d=q':=by injection e1
  rw [← this,hd] at e3
  cases e3
 ·intro p vs H2 hp s hpp hl hR hS
  have:∃ ds:List Addr,vs=ds.map V.ref:=by
   refine ⟨vs.map fun v=>match v with | .ref a=>a | _=>0,?_⟩
   rw [List.map_map]
   refine (List.map_id _).symm.trans (List.map_congr_left fun v hv=>?_)
   obtain ⟨j,hj,ej⟩:=L2.mem_getD (d:=V.non) hv
   obtain ⟨q',e1,_⟩:=hR j (by omega)
   rw [ej] at e1
   subst e1
   rfl
  obtain ⟨ds,rfl⟩:=this
  rw [List.length_map] at hl
  have ed:∀ i,i < n→(ds.map V.ref).getD i .non=.ref (ds.getD i 0):=fun i hi=>by
   rw [List.getD_eq_getElem?_getD,List.getElem?_map,List.getElem?_eq_getElem (by omega),List.getD_eq_getElem?_getD,List.getElem?_eq_getElem (by omega)];rfl
  refine hq p ds H2 hp s hpp hl ?_ fun i hi=>?_
  ·refine List.pairwise_iff_getElem.mpr fun i j hi hj hlt e=>?_
   have:=hS j (by omega)
   rw [ed j (by omega)] at this
   refine this ?_
   rw [← List.map_take]
   refine List.mem_map.mpr ⟨ds[i],?_,?_⟩
   ·exact List.mem_iff_getElem.mpr ⟨i,by rw [List.length_take];omega,by rw [List.getElem_take]⟩
   ·rw [List.getD_eq_getElem?_getD,List.getElem?_eq_getElem hj,e];rfl
  ·obtain ⟨q',e1,e2,e3,e4⟩:=hR i hi
   rw [ed i hi] at e1
   have:ds.getD i 0=q':=by injection e1
   rw [this]
   exact ⟨e2,e3,e4⟩
end
end L2
namespace Prf
open PySem PySem.Spec PyProof.Rows L2
section
variable {C x:Addr} {H H' H1 H2 H3:Hp} {e:ExAd} {st:ExS} {kvs:List (List (Key×V))} {F F':Addr→Prop}
structure ExNd (e:ExAd):Prop where
 xa:e.x≠e.a
 xb:e.x≠e.b
 xc:e.x≠e.c
 xd:e.x≠e.d
 xp:e.x∉e.ps
 xq:e.x∉e.qs
 xs:e.x∉e.ds
 ab:e.a≠e.b
 ac:e.a≠e.c
 ad:e.a≠e.d
 ap:e.a∉e.ps
 aq:e.a∉e.qs
 as:e.a∉e.ds
 bc:e.b≠e.c
 bd:e.b≠e.d
 bp:e.b∉e.ps
 bq:e.b∉e.qs
 bs:e.b∉e.ds
 cd:e.c≠e.d
 cp:e.c∉e.ps
 cq:e.c∉e.qs
 cs:e.c∉e.ds
 dp:e.d∉e.ps
 dq:e.d∉e.qs
 ds:e.d∉e.ds
 np:e.ps.Nodup
 nq:e.qs.Nodup
 nds:e.ds.Nodup
 pq:∀ b,b∈e.ps→b∉e.qs
 pds:∀ b,b∈e.ps→b∉e.ds
 qds:∀ b,b∈e.qs→b∉e.ds
theorem nd_iff:e.own.Nodup↔ExNd e:=by
 unfold ExAd.own
 simp only [List.nodup_cons,List.mem_cons,List.mem_append,List.nodup_append,not_or]
 constructor
 ·rintro ⟨⟨xa,xb,xc,xd,xp,xq,xs⟩,⟨ab,ac,ad,ap,aq,as⟩,⟨bc,bd,bp,bq,bs⟩,⟨cd,cp,cq,cs⟩,⟨dp,dq,ds⟩,np,⟨nq,nds,qd⟩,pqd⟩
  exact ⟨xa,xb,xc,xd,xp,xq,xs,ab,ac,ad,ap,aq,as,bc,bd,bp,bq,bs,cd,cp,cq,cs,dp,dq,ds,np,nq,nds,fun b h h'=>pqd b h b (.inl h') rfl,fun b h h'=>pqd b h b (.inr h') rfl,fun b h h'=>qd b h b h' rfl⟩
 ·intro N
  exact ⟨⟨N.xa,N.xb,N.xc,N.xd,N.xp,N.xq,N.xs⟩,⟨N.ab,N.ac,N.ad,N.ap,N.aq,N.as⟩,⟨N.bc,N.bd,N.bp,N.bq,N.bs⟩,⟨N.cd,N.cp,N.cq,N.cs⟩,⟨N.dp,N.dq,N.ds⟩,N.np,⟨N.nq,N.nds,fun a h b h' z=>N.qds a h (z▸h')⟩,fun a h b h' z=>h'.elim (fun h'=>N.pq a h (z▸h')) fun h'=>N.pds a h (z▸h')⟩
theorem zfs.mono {n n' k:Nat} {en en':List (List Int)} {row:List Int} (h:zfs n en k row) (hn:n≤n') (he:∀ r,(zcf en k r).isSome=true→(zcf en' k r).isSome=true):zfs n' en' k row:=by
 obtain ⟨f,s,h1,h2,h3,h4⟩:=h
 refine ⟨f,s,h1,h2,by omega,?_⟩
 rcases h4 with h4 | ⟨t,h4,t1,t2,t3,t4,t5,t6⟩
 ·exact .inl h4
 ·exact .inr ⟨t,h4,t1,by omega,t3,t4,he _ t5,he _ t6⟩
theorem zfs.len {n k:Nat} {en:List (List Int)} {row:List Int} (h:zfs n en k row):row.length=2∨row.length=3:=by
 obtain ⟨f,s,h1,h2,h3,h4 | ⟨t,h4,_⟩⟩:=h
 ·exact .inl (by rw [h4];rfl)
 ·exact .inr (by rw [h4];rfl)
theorem zfs.rng {n k:Nat} {en:List (List Int)} {row:List Int} (h:zfs n en k row) {r:Int} (hr:r∈row):1≤r∧r≤n:=by
 obtain ⟨f,s,h1,h2,h3,h4 | ⟨t,h4,t1,t2,_⟩⟩:=h
 ·rw [h4] at hr
  simp only [List.mem_cons,List.not_mem_nil,or_false] at hr
  omega
 ·rw [h4] at hr
  simp only [List.mem_cons,List.not_mem_nil,or_false] at hr
  omega
theorem Wf.ofStep {st:ExS} (w:Wf st) {s:Int} (h:0≤s∧s≤100):Wf { st with step:=s }:=⟨w.ln,w.row,w.pts,h⟩
theorem zlO {st:ExS} (h:st.dl=none):st.nm=[]:=by unfold ExS.nm;rw [h];rfl
theorem Wf.ofPaper {st:ExS} (w:Wf st) (hd:st.dl=none) {h:Int}:Wf { st with hs:=st.hs++[h] }:=⟨fun z=>(by rw [show ({ st with hs:=st.hs++[h] }:ExS).dl=st.dl from rfl,hd] at z;cases z),w.row,w.pts,w.stp⟩
theorem Wf.ofReader {st:ExS} (w:Wf st) {r:List Int}:Wf { st with rs:=st.rs++[r] }:=⟨w.ln,fun k hk=>(w.row k hk).mono (by show _≤(st.rs++[r]).length;rw [List.length_append];omega) fun _ z=>z,w.pts,w.stp⟩
theorem Wf.ofDeal {st:ExS} (w:Wf st) {rows:List (List Int)} (h:zaS st.hs st.rs rows=true):Wf { st with dl:=some (rows,[]) }:=by
 obtain ⟨h1,h2,h3⟩:=zbd.mp h
 refine ⟨fun _=>h1,fun k hk=>?_,fun k r p z=>(by cases z),w.stp⟩
 have hk':k < rows.length:=hk
 have hp:=h2 k (by omega)
 show zfs st.rs.length [] k (rows.getD k [])
 unfold zb8 at hp
 simp only [Bool.and_eq_true,decide_eq_true_eq,List.all_eq_true] at hp
 obtain ⟨⟨l2,ha⟩,hlt⟩:=hp
 match hr:rows.getD k [],l2 with
 | [f,s],_ =>
   rw [hr] at ha hlt
   have hf:=ha f (by simp)
   have hs:=ha s (by simp)
   have hlt':f < s:=hlt
   exact ⟨f,s,by omega,hlt',by omega,.inl rfl⟩
theorem ExIn.N (E:ExIn C H e st kvs):ExNd e:=nd_iff.mp E.nd
theorem ExIn.at (E:ExIn C H e st kvs):ExAt C H e.x (fun b=>b∈e.own) st:=⟨e,kvs,rfl,fun _=>Iff.rfl,E⟩
theorem zbe {b p:Addr} {l:List Addr} (h:p∉l) (hb:b∈l):b≠p:=fun z=>h (z▸hb)
theorem ExIn.ip (E:ExIn C H e st kvs) {i:Nat} (hi:i < st.rs.length):e.ps.getD i 0∈e.ps:=zgM (by have:=E.lp;omega)
theorem ExIn.iq (E:ExIn C H e st kvs) {i:Nat} (hi:i < st.nm.length):e.qs.getD i 0∈e.qs:=zgM (by have:=E.lq;omega)
theorem ExIn.is (E:ExIn C H e st kvs) {i:Nat} (hi:i < st.nm.length):e.ds.getD i 0∈e.ds:=zgM (by have:=E.ld;omega)
theorem ExIn.setStep (E:ExIn C H e st kvs) {s:Int} (b:But e.x H H') (h:H' e.x=some (.ins C e.dx (putF "widest_step" (.int s) (exFs (.ref e.a) (.ref e.b) (.int st.step) (.bl st.dl.isSome) (.ref e.c) (.ref e.d))))) (wf:0≤s∧s≤100):ExIn C H' e { st with step:=s } kvs:=by
 have N:=E.N
 rw [exFs_ps] at h
 exact ⟨h,by rw [b _ N.xa.symm];exact E.ha,by rw [b _ N.xb.symm];exact E.hb,by rw [b _ N.xc.symm];exact E.hc,by rw [b _ N.xd.symm];exact E.hd,E.lp,E.lq,E.ld,fun i hi=>by rw [b _ (zbe N.xp (E.ip hi))];exact E.rp i hi,fun i hi=>by rw [b _ (zbe N.xq (E.iq hi))];exact E.rq i hi,fun i hi=>by rw [b _ (zbe N.xs (E.is hi))];exact E.rd i hi,E.vk,E.sk,E.lk,E.nd,E.wf.ofStep wf⟩
theorem ExIn.paper (E:ExIn C H e st kvs) (hd:st.dl=none) {h:Int} (b:But e.a H H') (h1:H' e.a=some (.lst (st.hs.map V.int++[.int h]))):ExIn C H' e { st with hs:=st.hs++[h] } kvs:=by
 have N:=E.N
 exact ⟨by rw [b _ N.xa];exact E.ob,by rw [h1,List.map_append];rfl,by rw [b _ N.ab.symm];exact E.hb,by rw [b _ N.ac.symm];exact E.hc,by rw [b _ N.ad.symm];exact E.hd,E.lp,E.lq,E.ld,fun i hi=>by rw [b _ (zbe N.ap (E.ip hi))];exact E.rp i hi,fun i hi=>by rw [b _ (zbe N.aq (E.iq hi))];exact E.rq i hi,fun i hi=>by rw [b _ (zbe N.as (E.is hi))];exact E.rd i hi,E.vk,E.sk,E.lk,E.nd,E.wf.ofPaper hd⟩
theorem ExIn.reader (E:ExIn C H e st kvs) {row:List Int} {r:Addr} (hr:r∉e.own) (er:H r=some (.lst (row.map V.int))) (b:But e.b H H') (h1:H' e.b=some (.lst (e.ps.map V.ref++[.ref r]))):ExIn C H' { e with ps:=e.ps++[r] } { st with rs:=st.rs++[row] } kvs:=by
 have N:=E.N
 have lp:=E.lp
 have nrb:r≠e.b:=fun z=>hr (z▸own_b)
 refine ⟨by rw [b _ N.xb];exact E.ob,by rw [b _ N.ab];exact E.ha,by rw [h1,List.map_append];rfl,by rw [b _ N.bc.symm];exact E.hc,by rw [b _ N.bd.symm];exact E.hd,by show (e.ps++[r]).length=(st.rs++[row]).length;rw [List.length_append,List.length_append,lp];rfl,E.lq,E.ld,fun i hi=>?_,fun i hi=>by rw [b _ (zbe N.bq (E.iq hi))];exact E.rq i hi,fun i hi=>by rw [b _ (zbe N.bs (E.is hi))];exact E.rd i hi,E.vk,E.sk,E.lk,?_,E.wf.ofReader⟩
 ·have hi':i < (st.rs++[row]).length:=hi
  rw [List.length_append,List.length_singleton] at hi'
  show H' ((e.ps++[r]).getD i 0)=some (.lst (((st.rs++[row]).getD i []).map V.int))
  by_cases z:i < st.rs.length
  ·rw [zaB (by omega),zaB z,b _ (zbe N.bp (E.ip z))]
   exact E.rp i z
  ·have z':i=st.rs.length:=by omega
   subst z'
   rw [zaC,← lp,zaC,b _ nrb]
   exact er
 ·refine nd_iff.mpr ⟨N.xa,N.xb,N.xc,N.xd,?_,N.xq,N.xs,N.ab,N.ac,N.ad,?_,N.aq,N.as,N.bc,N.bd,?_,N.bq,N.bs,N.cd,?_,N.cq,N.cs,?_,N.dq,N.ds,?_,N.nq,N.nds,?_,?_,N.qds⟩
  ·exact fun h=>(List.mem_append.mp h).elim N.xp fun h=>hr (List.mem_singleton.mp h▸own_x)
  ·exact fun h=>(List.mem_append.mp h).elim N.ap fun h=>hr (List.mem_singleton.mp h▸own_a)
  ·exact fun h=>(List.mem_append.mp h).elim N.bp fun h=>hr (List.mem_singleton.mp h▸own_b)
  ·exact fun h=>(List.mem_append.mp h).elim N.cp fun h=>hr (List.mem_singleton.mp h▸own_c)
  ·exact fun h=>(List.mem_append.mp h).elim N.dp fun h=>hr (List.mem_singleton.mp h▸own_d)
  ·exact List.nodup_append.mpr ⟨N.np,by simp,fun c hc d hd z=>hr (by rw [← List.mem_singleton.mp hd,← z];exact zkj hc)⟩
  ·exact fun c hc=>(List.mem_append.mp hc).elim (N.pq c) fun h z=>hr (by rw [← List.mem_singleton.mp h];exact zlN z)
  ·exact fun c hc=>(List.mem_append.mp hc).elim (N.pds c) fun h z=>hr (by rw [← List.mem_singleton.mp h];exact zjz z)
theorem zh1 {r b:Addr} (h:b∈({ e with ps:=e.ps++[r] }:ExAd).own):b∈e.own∨b=r:=by
 unfold ExAd.own at h ⊢
 simp only [List.mem_cons,List.mem_append,List.not_mem_nil,or_false] at h ⊢
 rcases h with h | h | h | h | h | (h | h) | h | h <;> simp [h]
theorem zft (E:ExIn C H e st kvs) {b:Addr} (h:H b=none):b≠e.x∧b≠e.a∧b≠e.b∧b≠e.c∧b≠e.d∧b∉e.ps∧b∉e.qs∧b∉e.ds:=by
 have n:=E.new h
 exact ⟨fun z=>n (z▸own_x),fun z=>n (z▸own_a),fun z=>n (z▸own_b),fun z=>n (z▸own_c),fun z=>n (z▸own_d),fun z=>n (zkj z),fun z=>n (zlN z),fun z=>n (zjz z)⟩
theorem ExIn.deal {p q:Addr} {rows:List (List Int)} {ds:List Addr} {H5:Hp} (E:ExIn C H e st kvs) (hr:zaS st.hs st.rs rows=true) (R:RowsAt H p rows H1) (k:∀ b o,H1 b=some o→b≠e.x→H5 b=some o)
  (hx:H5 e.x=some (.ins C e.dx (exFs (.ref e.a) (.ref e.b) (.int st.step) (.bl true) (.ref p) (.ref q)))) (hq:H5 q=some (.lst (ds.map V.ref))) (nq:H1 q=none) (ld:ds.length=rows.length) (nd:ds.Nodup)
  (hd:∀ i,i < rows.length→H5 (ds.getD i 0)=some (.dK [])∧H1 (ds.getD i 0)=none∧ds.getD i 0≠q) :
  ∃ e',e'.x=e.x∧ExIn C H5 e' { st with dl:=some (rows,[]) } (rows.map fun _=>[])∧∀ b∈e'.own,b∈e.own∨H b=none:=by
 obtain ⟨s,np,qs,hp,lq,ndq,hrow⟩:=R
 have N:=E.N
 have hf:∀ {b o},H b=some o→b≠e.x→H5 b=some o:=fun h n=>k _ _ (s _ _ h) n
 have mq:∀ b∈qs,H b=none∧b≠p∧∃ o,H1 b=some o:=fun b hb=>by
  obtain ⟨i,hi,ei⟩:=L2.mem_getD (d:=0) hb
  obtain ⟨h1,h2,h3⟩:=hrow i (by omega)
  rw [ei] at h1 h2 h3
  exact ⟨h2,h3,_,h1⟩
 have md:∀ b∈ds,H1 b=none∧b≠q:=fun b hb=>by
  obtain ⟨i,hi,ei⟩:=L2.mem_getD (d:=0) hb
  obtain ⟨h1,h2,h3⟩:=hd i (by omega)
  rw [ei] at h1 h2 h3
  exact ⟨h2,h3⟩
 have nqH:H q=none:=s.free nq
 have P:=zft E np
 have Q:=zft E nqH
 have D:=fun {b} hb=>zft E (s.free (md b hb).1)
 have M:=fun {b} hb=>zft E (mq b hb).1
 refine ⟨{ e with c:=p,d:=q,qs:=qs,ds:=ds },rfl,⟨hx,hf E.ha N.xa.symm,hf E.hb N.xb.symm,k _ _ hp P.1,hq,E.lp,lq,ld,fun i hi=>hf (E.rp i hi) (zbe N.xp (E.ip hi)),fun i hi=>?_,fun i hi=>?_,fun i hi r=>?_,fun i hi=>?_,by show (rows.map fun _=>_).length=rows.length;rw [List.length_map],nd_iff.mpr ?_,E.wf.ofDeal hr⟩,?_⟩
 ·exact k _ _ (hrow i hi).1 (M (zgM (show i < qs.length by rw [lq];exact hi))).1
 ·have hi':i < rows.length:=hi
  have e0:(rows.map fun _=>([]:List (Key×V))).getD i []=[]:=by rw [List.getD_eq_getElem?_getD,List.getElem?_map,List.getElem?_eq_getElem hi'];rfl
  rw [e0]
  exact (hd i hi).1
 ·have hi':i < rows.length:=hi
  have e0:(rows.map fun _=>([]:List (Key×V))).getD i []=[]:=by rw [List.getD_eq_getElem?_getD,List.getElem?_map,List.getElem?_eq_getElem hi'];rfl
  rw [e0]
  rfl
 ·have hi':i < rows.length:=hi
  have e0:(rows.map fun _=>([]:List (Key×V))).getD i []=[]:=by rw [List.getD_eq_getElem?_getD,List.getElem?_map,List.getElem?_eq_getElem hi'];rfl
  rw [e0]
  exact Nat.zero_le _
 ·exact ⟨N.xa,N.xb,P.1.symm,Q.1.symm,N.xp,fun h=>(M h).1 rfl,fun h=>(D h).1 rfl,N.ab,P.2.1.symm,Q.2.1.symm,N.ap,fun h=>(M h).2.1 rfl,fun h=>(D h).2.1 rfl,P.2.2.1.symm,Q.2.2.1.symm,N.bp,fun h=>(M h).2.2.1 rfl,fun h=>(D h).2.2.1 rfl,
   fun z=>(by rw [← show p=q from z,hp] at nq;cases nq),P.2.2.2.2.2.1,fun h=>(mq _ h).2.1 rfl,fun h=>(by have:=(md _ h).1;rw [hp] at this;cases this),Q.2.2.2.2.2.1,fun h=>(by obtain ⟨o,z⟩:=(mq _ h).2.2;rw [nq] at z;cases z),fun h=>(md _ h).2 rfl,N.np,ndq,nd,
   fun b h h'=>(M h').2.2.2.2.2.1 h,fun b h h'=>(D h').2.2.2.2.2.1 h,fun b h h'=>(by obtain ⟨o,z⟩:=(mq _ h).2.2;rw [(md _ h').1] at z;cases z)⟩
 ·intro b hb
  unfold ExAd.own at hb
  simp only [List.mem_cons,List.mem_append] at hb
  rcases hb with h | h | h | h | h | h | h | h
  ·exact .inl (h▸own_x)
  ·exact .inl (h▸own_a)
  ·exact .inl (h▸own_b)
  ·exact .inr (h▸np)
  ·exact .inr (h▸nqH)
  ·exact .inl (zkj h)
  ·exact .inr (mq _ h).1
  ·exact .inr (s.free (md _ h).1)
end
theorem Wf.n10 {st:ExS} (w:Wf st) (B:InB st.hs st.rs):st.nm.length≤10:=by
 cases h:st.dl with
 | none=>rw [zlO h];exact Nat.zero_le _
 | some d=>rw [w.ln (by rw [h];rfl)];exact B.lp
theorem ExAt.wf {C x:Addr} {H:Hp} {F:Addr→Prop} {st:ExS} (E:ExAt C H x F st):Wf st:=by
 obtain ⟨e,kvs,_,_,I⟩:=E
 exact I.wf
def zbc (nm en:List (List Int)) (k:Nat):List Int:=(nm.getD k []).filter fun r=>(zcf en k r).isNone
def dueB (nm en:List (List Int)):List (List Int):=(List.range nm.length).flatMap fun k=>(zbc nm en k).map fun r=>[(k:Int)+1,r]
def dueS (st:ExS):List (List Int):=dueB st.nm st.en
def ptsOf (nm en:List (List Int)) (k:Nat):List Int:=(nm.getD k []).map fun r=>(zcf en k r).getD 0
def zkl (st:ExS):List Int:=zbC st.rs st.nm
def MarkB (xs:List Int) (s:Int):List Int:=if xs.length=2 then zj8 (xs.getD 0 0) (xs.getD 1 0) s else [mid3 (xs.getD 0 0) (xs.getD 1 0) (xs.getD 2 0),1]
def zb9 (nm en:List (List Int)) (step:Int) (k:Nat):Option (Int×Int×List (List Int)):=if zbc nm en k=[] then some ((MarkB (ptsOf nm en k) step).getD 0 0,(MarkB (ptsOf nm en k) step).getD 1 0,((nm.getD k []).zip (ptsOf nm en k)).map fun p=>[p.1,p.2]) else none
def zdh (st:ExS):List (Option (Int×Int×List (List Int))):=match st.dl with
 | none=>(List.range st.hs.length).map fun _=>none
 | some (nm,en)=>(List.range st.hs.length).map (zb9 nm en st.step)
abbrev Mk3:=Option (Int×Int×List (List Int))
def zeo (B:Hp) (v:V) (m:Mk3) (H:Hp):Prop:=match m with
 | none=>v=.non
 | some (t,b,rows)=>∃ (q r:Addr) (ps:List Addr),v=.ref q∧B q=none∧B r=none∧H q=some (.lst [.int t,.int b,.ref r])∧H r=some (.lst (ps.map V.ref))∧ps.length=rows.length∧∀ j,j < rows.length→B (ps.getD j 0)=none∧H (ps.getD j 0)=some (.lst ((rows.getD j []).map V.int))
structure zfu (B:Hp) (p:Addr) (ms:List Mk3) (H:Hp):Prop where
 same:Same B H
 new:B p=none
 vals:∃ vs:List V,H p=some (.lst vs)∧vs.length=ms.length∧∀ i,i < ms.length→zeo B (vs.getD i .non) (ms.getD i none) H
theorem zdi (nm en:List (List Int)) (i:Nat) (h:i < nm.length):((List.range (i+1)).flatMap fun k=>(zbc nm en k).map fun r=>[(k:Int)+1,r])=((List.range i).flatMap fun k=>(zbc nm en k).map fun r=>[(k:Int)+1,r])++(zbc nm en i).map fun r=>[(i:Int)+1,r]:=by
 rw [List.range_succ,List.flatMap_append,List.flatMap_singleton]
theorem zlP (nm en:List (List Int)) (k:Nat):(zbc nm en k).length≤(nm.getD k []).length:=List.length_filter_le _ _
theorem zlQ (nm en:List (List Int)) (k:Nat):(ptsOf nm en k).length=(nm.getD k []).length:=by unfold ptsOf;rw [List.length_map]
theorem zkm {nm en:List (List Int)} {k:Nat} (h:zbc nm en k=[]) {r:Int} (hr:r∈nm.getD k []):∃ p,zcf en k r=some p:=by
 cases e:zcf en k r with
 | some p=>exact ⟨p,rfl⟩
 | none =>
   have:r∈zbc nm en k:=List.mem_filter.mpr ⟨hr,by rw [e];rfl⟩
   rw [h] at this
   cases this
theorem Wf.ptsOf {st:ExS} (w:Wf st) {k:Nat} {p:Int} (h:p∈ptsOf st.nm st.en k):0≤p∧p≤100:=by
 unfold Prf.ptsOf at h
 obtain ⟨r,hr,rfl⟩:=List.mem_map.mp h
 cases e:zcf st.en k r with
 | none=>exact ⟨by decide,by decide⟩
 | some p=>exact w.pts k r p e
def zc3 (B:Hp) (p:Addr) (v:V) (m:Mk3) (H:Hp):Prop:=match m with
 | none=>v=.non
 | some (t,b,rows)=>∃ (q r:Addr) (ps:List Addr),v=.ref q∧(B q=none∧q≠p)∧(B r=none∧r≠p)∧H q=some (.lst [.int t,.int b,.ref r])∧H r=some (.lst (ps.map V.ref))∧ps.length=rows.length∧∀ j,j < rows.length→(B (ps.getD j 0)=none∧ps.getD j 0≠p)∧H (ps.getD j 0)=some (.lst ((rows.getD j []).map V.int))
theorem zc3.keep {B H1 H2:Hp} {p:Addr} {v:V} {m:Mk3} (h:zc3 B p v m H1) (k:∀ b o,H1 b=some o→b≠p→H2 b=some o):zc3 B p v m H2:=by
 match m,h with
 | none,h=>exact h
 | some (t,b,rows),⟨q,r,ps,h1,h2,h3,h4,h5,h6,h7⟩=>exact ⟨q,r,ps,h1,h2,h3,k _ _ h4 h2.2,k _ _ h5 h3.2,h6,fun j hj=>⟨(h7 j hj).1,k _ _ (h7 j hj).2 (h7 j hj).1.2⟩⟩
theorem zc3.is {B H1:Hp} {p:Addr} {v:V} {m:Mk3} (h:zc3 B p v m H1):zeo B v m H1:=by
 match m,h with
 | none,h=>exact h
 | some (t,b,rows),⟨q,r,ps,h1,h2,h3,h4,h5,h6,h7⟩=>exact ⟨q,r,ps,h1,h2.1,h3.1,h4,h5,h6,fun j hj=>⟨(h7 j hj).1.1,(h7 j hj).2⟩⟩
theorem zeo.new {B H0 H1:Hp} {p:Addr} {v:V} {m:Mk3} {ys:List V} (h:zeo H0 v m H1) (s:Same B H0) (hp:H0 p=some (.lst ys)):zc3 B p v m H1:=by
 match m,h with
 | none,h=>exact h
 | some (t,b,rows),⟨q,r,ps,h1,h2,h3,h4,h5,h6,h7⟩=>exact ⟨q,r,ps,h1,⟨s.free h2,(zag hp h2).symm⟩,⟨s.free h3,(zag hp h3).symm⟩,h4,h5,h6,fun j hj=>⟨⟨s.free (h7 j hj).1,(zag hp (h7 j hj).1).symm⟩,(h7 j hj).2⟩⟩
end Prf
namespace L2
open PySem PySem.Spec PyProof.Rows
section
variable {X:Cx} {K:PySem.W.Frag}
variable {H:Hp} {Q:VK} {a:Addr} {ns:List Int}
end
end L2
namespace Prf
open PySem PySem.Spec PyProof.Rows L2
theorem zlR {nm en:List (List Int)} {x:List Int} (h:x∈dueB nm en):∃ k r,k < nm.length∧r∈zbc nm en k∧x=[(k:Int)+1,r]:=by
 unfold dueB at h
 obtain ⟨k,hk,h2⟩:=List.mem_flatMap.mp h
 obtain ⟨r,hr,e⟩:=List.mem_map.mp h2
 exact ⟨k,r,List.mem_range.mp hk,hr,e.symm⟩
theorem _root_.L2.RowsAt.mono {B H H':Hp} {p:Addr} {rs:List (List Int)} (R:RowsAt B p rs H) (s:Same H H'):RowsAt B p rs H':=by
 obtain ⟨a,b,ps,h1,h2,h3,h4⟩:=R
 exact ⟨a.trans s,b,ps,s _ _ h1,h2,h3,fun i hi=>⟨s _ _ (h4 i hi).1,(h4 i hi).2⟩⟩
section
variable {H H':Hp} {l:LdA} {hs:List Int} {rs nm en:List (List Int)} {K:PySem.W.Frag}
end
end Prf
namespace L2
open PySem PySem.Spec PyProof.Rows
section
variable {X:Cx} {K:PySem.W.Frag}
def rEqE (K:PySem.W.Frag):R2:=fun x y H Q=>∃ a b xs,x=.ref a∧y=.ref b∧SqL K H a xs∧SqL K H b []∧Q (.bl (decide (xs=[]))) H
def rNeE (K:PySem.W.Frag):R2:=fun x y H Q=>∃ a b xs,x=.ref a∧y=.ref b∧SqL K H a xs∧SqL K H b []∧Q (.bl (!decide (xs=[]))) H
theorem zmR (hu:X.A.units < cLine):OpR X (compareOp .Eq) (rEqE X.K):=by
 intro pins s σ H x y v u Q I rx ry h
 obtain ⟨a,b,xs,rfl,rfl,h1,h2,q⟩:=h
 cases rx
 cases ry
 obtain ⟨its1,r1,p1,z1⟩:=I.list h1
 obtain ⟨its2,r2,p2,z2⟩:=I.list h2
 have l1:=r1.length
 have l2:its2.length=0:=r2.length.symm
 by_cases hl:xs=[]
 ·subst hl
  have l1':its1.length=0:=l1.symm
  refine SeqAt.eq_listAt (e:=fun _=>true) p1.isList p2.isList (by simp;omega) hu (fun j h1 h2=>by simp at h1;omega) ⟨.bl _,H,I,rfl,?_⟩
  rw [List.size_toArray,l1']
  rw [decide_eq_true rfl] at q
  exact q
 ·have:xs.length≠0:=fun z=>hl (List.eq_nil_of_length_eq_zero z)
  refine SeqAt.eq_list_lengthsAt p1.isList p2.isList (by simp;omega) hu ⟨.bl false,H,I,rfl,?_⟩
  rw [decide_eq_false hl] at q
  exact q
theorem zmS (hu:X.A.units < cLine):OpR X (compareOp .NotEq) (rNeE X.K):=by
 intro pins s σ H x y v u Q I rx ry h
 obtain ⟨a,b,xs,rfl,rfl,h1,h2,q⟩:=h
 cases rx
 cases ry
 obtain ⟨its1,r1,p1,z1⟩:=I.list h1
 obtain ⟨its2,r2,p2,z2⟩:=I.list h2
 have l1:=r1.length
 have l2:its2.length=0:=r2.length.symm
 by_cases hl:xs=[]
 ·subst hl
  have l1':its1.length=0:=l1.symm
  refine SeqAt.RcNeAt.lists (e:=fun _=>true) p1.isList p2.isList (by simp;omega) hu (fun j h1 h2=>by simp at h1;omega) _ _ _ _ ⟨.bl _,H,I,rfl,?_⟩
  rw [List.size_toArray,l1']
  rw [decide_eq_true rfl] at q
  exact q
 ·have:xs.length≠0:=fun z=>hl (List.eq_nil_of_length_eq_zero z)
  refine SeqAt.RcNeAt.lists_lengths p1.isList p2.isList (by simp;omega) hu _ _ _ _ ⟨.bl true,H,I,rfl,?_⟩
  rw [decide_eq_false hl] at q
  exact q
def rEq2 (K:PySem.W.Frag):R2:=fun x y H Q=>zj0 K x y H Q∨rEqE K x y H Q
def rNe2 (K:PySem.W.Frag):R2:=fun x y H Q=>rNeG K x y H Q∨rNeE K x y H Q
theorem zdj (h:X.K=K) (hu:X.A.units < cLine):OpR X (compareOp .Eq) (rEq2 K):=(zly h hu).or (h▸zmR hu)
theorem zcS (h:X.K=K) (hu:X.A.units < cLine):OpR X (compareOp .NotEq) (rNe2 K):=(zmm h).or (h▸zmS hu)
section
variable {H:Hp} {Q:VK} {i j:Int}
theorem zk4 (q:Q (.bl (decide (i=j))) H):rEq2 K (.int i) (.int j) H Q:=.inl (zlz q)
theorem zk5 {a b:Bool} (q:Q (.bl (decide (a=b))) H):rEq2 K (.bl a) (.bl b) H Q:=.inl (zlA q)
theorem zk6 (q:Q (.bl (!decide (i=j))) H):rNe2 K (.int i) (.int j) H Q:=.inl (ziX q)
end
end
end L2
namespace Prf
open PySem PySem.Spec PyProof.Rows L2
theorem zkn {hs:List Int} {rs tt:List (List Int)} (h:zaS hs rs tt=true):tt.map (List.take 2)=tt:=by
 have RP:=zdg.mp h
 refine (List.map_congr_left fun r hr=>?_).trans (List.map_id tt)
 obtain ⟨i,hi,e⟩:=L2.mem_getD (d:=[]) hr
 have:=RP.two i (by rw [← RP.len];exact hi)
 rw [e] at this
 show r.take 2=r
 rw [List.take_of_length_le (by omega)]
theorem zfv (nm:List (List Int)) (k:Nat):zbc nm [] k=nm.getD k []:=by
 unfold zbc
 exact List.filter_eq_self.mpr fun r _=>rfl
theorem zfw {B H:Hp} {p:Addr} {ms:List Mk3} (M:zfu B p ms H) (h:∀ i,i < ms.length→ms.getD i none=none):H p=some (.lst (List.replicate ms.length .non)):=by
 obtain ⟨_,_,vs,e,hl,hv⟩:=M
 have:vs=List.replicate ms.length .non:=by
  refine List.ext_getElem (by rw [List.length_replicate];exact hl) fun i h1 h2=>?_
  have:=hv i (by omega)
  rw [h i (by omega)] at this
  have t2:vs.getD i .non=.non:=this
  rw [List.getD_eq_getElem?_getD,List.getElem?_eq_getElem h1] at t2
  rw [List.getElem_replicate]
  exact t2
 rw [e,this]
end Prf
namespace L2
open PySem PySem.Spec PyProof.Rows
section
variable {X:Cx} {K:PySem.W.Frag}
def rInN (K:PySem.W.Frag) (neg:Bool):R2:=fun x y H Q=>x=.non∧∃ p vs,y=.ref p∧SqL K H p vs∧(∀ v∈vs,∃ q ys,v=.ref q∧SqL K H q ys)∧Q (.bl neg) H
def rInR (K:PySem.W.Frag) (neg:Bool):R2:=fun x y H Q=>∃ (a p:Addr) (xs:List Int) (rows:List (List Int)),x=.ref a∧y=.ref p∧H a=some (.lst (xs.map V.int))∧LL K H p rows∧Q (.bl (if neg then !decide (xs∈rows) else decide (xs∈rows))) H
theorem zmT {pins:List (Addr×Obj)} {σ:St} {H:Hp} {s:Shared} {vs:List V} {its:List Value} (hu:X.A.units+1 < cLine) (I:Inv X pins σ H s) (r:Vals vs its) (h:∀ v∈vs,∃ q ys,v=.ref q∧SqL X.K H q ys):∀ y∈its.toArray,SeqAt.EqAt X.A.in1 s y .none false:=fun y hy=>by
 have hy':y∈its:=by simpa using hy
 obtain ⟨i,hi,e⟩:=List.getElem_of_mem hy'
 have hl:=r.length
 obtain ⟨u,hu1,hu2⟩:=r.get (i:=i) (x:=vs[i]'(by omega)) (List.getElem?_eq_getElem (by omega))
 rw [List.getElem?_eq_getElem hi] at hu1
 have e2:u=y:=by rw [← e];exact (Option.some.inj hu1).symm
 subst e2
 obtain ⟨q,ys,hq,hs⟩:=h _ (List.getElem_mem (show i < vs.length by omega))
 rw [hq] at hu2
 cases hu2
 obtain ⟨_,_,pl,_⟩:=I.list hs
 exact SeqAt.EqAt.list_none pl.isList hu
theorem zmU (hu:X.A.units+1 < cLine):OpR X (compareOp .In) (rInN X.K false):=by
 intro pins s σ H x y v u Q I rx ry h
 obtain ⟨rfl,p,vs,rfl,hq,hv,q⟩:=h
 cases rx
 cases ry
 obtain ⟨its,r,pl,hz⟩:=I.list hq
 refine SeqAt.in_listAt (fun _=>false) pl.isList (zmT hu I r hv) ⟨.bl _,H,I,rfl,?_⟩
 rw [show its.toArray.any (fun _=>false)=false by simp]
 exact q
def rowE (H:Hp) (xs:List Int):Value→Bool
 | .ref q=>match H q with
   | some (.lst vs)=>decide (vs=xs.map V.int)
   | _=>false
 | _=>false
theorem map_int_inj:∀ {xs ys:List Int},xs.map V.int=ys.map V.int→xs=ys
 | [],[],_=>rfl
 | [],_::_,h=>by simp at h
 | _::_,[],h=>by simp at h
 | x::xs,y::ys,h=>by
   rw [List.map_cons,List.map_cons] at h
   injection h with h1 h2
   injection h1 with h1
   rw [h1,map_int_inj h2]
theorem znh {pins:List (Addr×Obj)} {σ:St} {H:Hp} {s:Shared} {a q:Addr} {xs ys:List Int} {A:Around} (hu:A.units < cLine) (I:Inv X pins σ H s) (ha:H a=some (.lst (xs.map V.int))) (hq:H q=some (.lst (ys.map V.int))):SeqAt.EqAt A s (.ref q) (.ref a) (decide (ys=xs)):=by
 by_cases e:q=a
 ·subst e
  rw [ha] at hq
  have:=map_int_inj (HO.lst.inj (Option.some.inj hq))
  rw [decide_eq_true this.symm]
  exact SeqAt.EqAt.same _
 ·obtain ⟨its1,r1,p1,z1⟩:=I.list (SqL.of (K:=X.K) hq)
  obtain ⟨its2,r2,p2,z2⟩:=I.list (SqL.of (K:=X.K) ha)
  have l1:=r1.length
  have l2:=r2.length
  rw [List.length_map] at l1 l2
  refine SeqAt.EqAt.of_refs e ?_
  by_cases hl:ys.length=xs.length
  ·have key:=SeqAt.RcAt.lists (A:=A) (e:=fun j=>eqV ((ys.map V.int).getD j .non) ((xs.map V.int).getD j .non)) p1.isList p2.isList (by simp;omega) hu (fun j h1 h2=>?_)
   ·have e1:its1.toArray.size=(ys.map V.int).length:=by simp;omega
    rw [e1,eqVs_all (by simp;omega),eqVs_ints] at key
    exact key
   ·simp only [List.size_toArray] at h1 h2
    have e1:(ys.map V.int)[j]? = some ((ys.map V.int).getD j .non):=by rw [List.getD_eq_getElem?_getD,List.getElem?_eq_getElem (by simp;omega)];rfl
    have e2:(xs.map V.int)[j]? = some ((xs.map V.int).getD j .non):=by rw [List.getD_eq_getElem?_getD,List.getElem?_eq_getElem (by simp;omega)];rfl
    obtain ⟨u1,a1,b1⟩:=r1.get e1
    obtain ⟨u2,a2,b2⟩:=r2.get e2
    have c1:its1.toArray[j]=u1:=by simpa [List.getElem?_eq_getElem h1] using a1
    have c2:its2.toArray[j]=u2:=by simpa [List.getElem?_eq_getElem h2] using a2
    rw [c1,c2]
    have fl:∀ zs:List Int,(zs.map V.int).all flatV=true:=fun zs=>by simp [flatV]
    exact ziI b1 b2 (List.all_eq_true.mp (fl _) _ (List.mem_of_getElem? e1)) (List.all_eq_true.mp (fl _) _ (List.mem_of_getElem? e2))
  ·rw [decide_eq_false (fun z=>hl (by rw [z]))]
   exact SeqAt.RcAt.lists_lengths p1.isList p2.isList (by simp;omega) hu
theorem zh2 {pins:List (Addr×Obj)} {σ:St} {H:Hp} {s:Shared} {a:Addr} {xs:List Int} {rows:List (List Int)} {ps:List Addr} {its:List Value} (hu:X.A.units+1 < cLine) (I:Inv X pins σ H s) (ha:H a=some (.lst (xs.map V.int))) (r:Vals (ps.map V.ref) its) (hl:ps.length=rows.length)
  (hr:∀ i,i < rows.length→H (ps.getD i 0)=some (.lst ((rows.getD i []).map V.int))):(∀ y∈its.toArray,SeqAt.EqAt X.A.in1 s y (.ref a) (rowE H xs y))∧its.toArray.any (rowE H xs)=decide (xs∈rows):=by
 have hlen:=r.length
 rw [List.length_map] at hlen
 have at_:∀ i (hi:i < its.length),its[i]=.ref (ps.getD i 0):=fun i hi=>by
  obtain ⟨u,hu1,hu2⟩:=r.get (i:=i) (x:=.ref (ps.getD i 0)) (by rw [List.getElem?_map,List.getElem?_eq_getElem (by omega),List.getD_eq_getElem?_getD,List.getElem?_eq_getElem (by omega)];rfl)
  rw [List.getElem?_eq_getElem hi] at hu1
  cases hu2
  exact Option.some.inj hu1
 have ev:∀ i,i < rows.length→rowE H xs (.ref (ps.getD i 0))=decide (rows.getD i []=xs):=fun i hi=>by
  unfold rowE
  simp only [hr i hi]
  rw [decide_eq_decide]
  exact ⟨map_int_inj,fun z=>by rw [z]⟩
 refine ⟨fun y hy=>?_,?_⟩
 ·obtain ⟨i,hi,e⟩:=List.getElem_of_mem (show y∈its by simpa using hy)
  rw [← e,at_ i hi,ev i (by omega)]
  exact znh (A:=X.A.in1) hu I ha (hr i (by omega))
 ·rw [show its.toArray.any (rowE H xs)=its.any (rowE H xs) by simp,Bool.eq_iff_iff,List.any_eq_true,decide_eq_true_eq]
  constructor
  ·rintro ⟨y,hy,e⟩
   obtain ⟨i,hi,e'⟩:=List.getElem_of_mem hy
   rw [← e',at_ i hi,ev i (by omega)] at e
   rw [← of_decide_eq_true e]
   rw [List.getD_eq_getElem?_getD,List.getElem?_eq_getElem (show i < rows.length by omega)]
   exact List.getElem_mem _
  ·intro h
   obtain ⟨i,hi,e⟩:=L2.mem_getD (d:=[]) h
   refine ⟨its[i]'(by omega),List.getElem_mem _,?_⟩
   rw [at_ i (by omega),ev i hi,decide_eq_true e]
theorem zmV (hu:X.A.units+1 < cLine):OpR X (compareOp .In) (rInR X.K false):=by
 intro pins s σ H x y v u Q I rx ry h
 obtain ⟨a,p,xs,rows,rfl,rfl,ha,⟨ps,hp,hl,hr⟩,q⟩:=h
 cases rx
 cases ry
 obtain ⟨its,r,pl,hz⟩:=I.list hp
 obtain ⟨h1,h2⟩:=zh2 hu I ha r hl hr
 refine SeqAt.in_listAt (rowE H xs) pl.isList h1 ⟨.bl _,H,I,rfl,?_⟩
 rw [h2]
 exact q
def rIn2 (K:PySem.W.Frag) (neg:Bool):R2:=fun x y H Q=>rIn K neg x y H Q∨(rInN K neg x y H Q∨rInR K neg x y H Q)
theorem ze7 (h:X.K=K) (hu:X.A.units+1 < cLine):OpR X (compareOp .In) (rIn2 K false):=(zml h).or ((h▸zmU hu).or (h▸zmV hu))
end
section
variable {H:Hp} {K:PySem.W.Frag} {Q:VK} {i:Int} {a p:Addr}
theorem zk7 {xs:List Int} (h:SqL K H a (xs.map V.int)) (q:Q (.bl (decide (i∈xs))) H):rIn2 K false (.int i) (.ref a) H Q:=.inl (zng h q)
end
end L2
namespace Prf
open PySem PySem.Spec PyProof.Rows L2
end Prf
open PySem PySem.Spec PyProof.Rows L2
local macro_rules | `(tactic| walk_at "ne")=>`(tactic| first | assumption | (exact Ne.symm (by assumption)) | (exact zag (by assumption) (by assumption)) | (exact Ne.symm (zag (by assumption) (by assumption))))
local macro_rules | `(tactic| walk_at "hp")=>`(tactic| first | assumption | (exact zar) | (exact SqL.of zar) | (exact SqL.of (by assumption)) | (exact Eq.trans (zaD (by walk_at "ne")) (by walk_at "hp")) | (exact SqL.of (Eq.trans (zaD (by walk_at "ne")) (by walk_at "hp"))))
local macro_rules | `(tactic| walk_at "ty")=>`(tactic| first | (exact TyOf.int _) | (exact TyOf.bl _) | (exact TyOf.non) | (exact TyOf.str _) | (exact TyOf.lst (by walk_at "hp")))
local macro_rules | `(tactic| walk_at "ix")=>`(tactic| first | (exact zcM (by omega) (by omega)) | (exact zhf (by omega) (by omega)) | (exact rfl))
local macro_rules | `(tactic| walk_at "rd1")=>`(tactic| first
 | (with_reducible refine zhN ?_) | (with_reducible refine zms ?_) | (with_reducible refine zmt ?_) | (with_reducible refine zmr ?_) | (with_reducible refine zkG ?_) | (with_reducible refine zkH ?_) | (with_reducible refine r_break ?_) | (with_reducible refine ziU ?_)
 | (with_reducible refine r_op ?_) | ((with_reducible refine' zfm ?rv ?_);(case rv=>exact rfl)) | (with_reducible refine r_c ?_)
 | (with_reducible refine r_I0 ?_) | (with_reducible refine zkM ?_) | (with_reducible refine zk4 ?_) | (with_reducible refine zk5 ?_) | (with_reducible refine zk6 ?_) | (with_reducible refine r_ne2B ?_) | (with_reducible refine r_eqGI ?_) | (with_reducible refine ziX ?_) | (with_reducible refine r_eqGB ?_) | (with_reducible refine r_neGB ?_)
 | (with_reducible refine r_cb ?_) | (with_reducible refine ze3 ?_) | (with_reducible refine zcN ?_) | (with_reducible refine zkB ?_) | (with_reducible refine zmo ?_) | (with_reducible refine r_bm ?_)
 | (with_reducible refine zkC ?_) | (with_reducible refine r_orV ?_) | (with_reducible refine zkD ?_) | (with_reducible refine zkE ?_) | (with_reducible refine zkF ?_) | (with_reducible refine r_tB ?_)
 | (with_reducible refine zmp ?_) | (with_reducible refine r_or ?_) | (with_reducible refine zmq ?_) | (with_reducible refine r_if ?_) | (with_reducible refine r_tt ?_) | (with_reducible refine ziV ?_) | (with_reducible refine ziW ?_)
 | ((with_reducible refine' zk7 ?h1 ?_);(case h1=>walk_at "hp")) | ((with_reducible refine' r_notIn2I ?h1 ?_);(case h1=>walk_at "hp")) | (with_reducible refine r_forZ ?_)
 | (with_reducible refine zmD ?_) | (with_reducible refine zkV ?_)
 | (with_reducible refine zkP ?_) | (with_reducible refine zkQ ?_) | ((with_reducible refine' zkR ?h1 ?h2 ?_);(case h1=>omega);(case h2=>omega)) | ((with_reducible refine' r_pow ?h1 ?_);(case h1=>exact ⟨by decide,by decide,by decide⟩))
 | ((with_reducible refine' zkU ?h1 ?_);(case h1=>first | (exact .inl (.inr ⟨by decide,by decide⟩)) | (exact .inl (.inl ⟨by omega,by omega⟩)) | (exact .inl (.inr ⟨by omega,by omega⟩)) | (exact .inr ⟨⟨by omega,by omega⟩,by omega,by omega⟩)))
 | (with_reducible refine r_lr ?_) | (with_reducible refine r_sl ?_) | (with_reducible refine zi5 ?_) | (with_reducible refine zkS ?_) | (with_reducible refine zi6 ?_) | (with_reducible refine zhh ?_) | (with_reducible refine zkT ?_)
 | (with_reducible refine zkO ?_) | ((with_reducible refine' zhg ?h1 ?_);(case h1=>walk_at "hp"))
 | (with_reducible refine r_for3 ?_) | (with_reducible refine r_tun ?_) | (with_reducible refine r_un ?_)
 | (with_reducible refine zkI ?_) | (with_reducible refine zkJ ?_) | (with_reducible refine zkN ?_) | (with_reducible refine ziZ ?_) | (with_reducible refine zi0 ?_) | (with_reducible refine zi1 ?_) | (with_reducible refine zkW ?_) | (with_reducible refine zjp ?_) | (with_reducible refine zjq ?_)
 | (with_reducible refine zmJ ?_) | (with_reducible refine zkX ?_) | (with_reducible refine zkY ?_) | (with_reducible refine zkZ ?_) | (with_reducible refine zk0 ?_) | (with_reducible refine zmL ?_) | (with_reducible refine zmM ?_) | (with_reducible refine zk2 ?_) | (with_reducible refine zk3 ?_) | (with_reducible refine zk1 ?_)
 | ((with_reducible refine' zhp ?h1 ?h2 ?h3 ?h4 ?_);(case h1=>assumption);(case h2=>assumption);(case h3=>assumption);(case h4=>assumption))
 | ((with_reducible refine' zmw ?h1 ?_);(case h1=>omega)) | ((with_reducible refine' r_div ?h1 ?h2 ?_);(case h1=>omega);(case h2=>omega)) | ((with_reducible refine' r_mul ?h1 ?_);(case h1=>first | (exact .inr ⟨by decide,by decide⟩) | (exact .inl ⟨by omega,by omega⟩) | (exact .inr ⟨by omega,by omega⟩))) | ((with_reducible refine' zmx ?h1 ?_);(case h1=>walk_at "hp"))
 | ((with_reducible refine' zhM ?h1 ?h2 ?_);(case h1=>walk_at "hp");(case h2=>walk_at "ix"))
 | ((with_reducible refine' zkK ?h1 ?_);(case h1=>walk_at "hp")) | ((with_reducible refine' zkL ?h1 ?_);(case h1=>walk_at "hp")) | ((with_reducible refine' zmu ?h1 ?_);(case h1=>walk_at "hp"))
 | ((with_reducible refine' zmv ?h1 ?h2 ?_);(case h1=>walk_at "ty");(case h2=>rfl)))
local macro_rules | `(tactic| walk_at "rd")=>`(tactic| repeat (walk_at "rd1"))
local macro_rules | `(tactic| walk_at "st")=>`(tactic| repeat ((fail_if_success (with_reducible refine zhN ?_));walk_at "rd1"))
local macro_rules | `(tactic| walk_at "rdk")=>`(tactic| repeat (first | walk_at "rd1" | (with_reducible refine iteF ?_) | (with_reducible refine iteT ?_) | (refine zct (fun h=>absurd h (by omega)) (fun _=>?_)) | (refine zct (fun _=>?_) (fun h=>absurd (by omega) h))))
namespace Prf
open PySem PySem.Spec PyProof.Rows L2
def top (i:Nat):Stmt:=PySem.Challenge.pw_secondread_k25_dealt.main.body.getD i (.Pass ⟨0,0,0,0⟩)
abbrev s_law_at:Stmt:=top 50
theorem sc_law_at:zan ["_law_script","_law_k"] ["_law_script","_law_k"] (zab s_law_at):=⟨rfl,rfl,rfl,by decide +kernel,rfl,by decide +kernel,by decide +kernel⟩
abbrev s_law_planted:Stmt:=top 55
theorem sc_law_planted:zan ["_law_script","_law_first","_law_least","_law_shape","_law_count","_law_few","_law_spare_here","_law_staff","_law_homes","_law_rows_here","_law_k","_law_cell","_law_one","_law_two","_law_fit","_law_used"] ["_law_script","_law_first","_law_least"] (zab s_law_planted):=⟨rfl,rfl,rfl,by decide +kernel,rfl,by decide +kernel,by decide +kernel⟩
abbrev s_law_step:Stmt:=top 61
theorem sc_law_step:zan ["_law_cell"] ["_law_cell"] (zab s_law_step):=⟨rfl,rfl,rfl,by decide +kernel,rfl,by decide +kernel,by decide +kernel⟩
abbrev s_Exam___init__:Stmt:=zaX (top 48) 0
theorem sc_Exam___init__:zan ["self"] ["self"] (zab s_Exam___init__):=⟨rfl,rfl,rfl,by decide +kernel,rfl,by decide +kernel,by decide +kernel⟩
abbrev s_Exam_refuse_behind_dealing:Stmt:=zaX (top 48) 15
theorem sc_Exam_refuse_behind_dealing:zan ["self"] ["self"] (zab s_Exam_refuse_behind_dealing):=⟨rfl,rfl,rfl,by decide +kernel,rfl,by decide +kernel,by decide +kernel⟩
abbrev s_refuse_out_of_bounds:Stmt:=top 45
theorem sc_refuse_out_of_bounds:zan ["number","most"] ["number","most"] (zab s_refuse_out_of_bounds):=⟨rfl,rfl,rfl,by decide +kernel,rfl,by decide +kernel,by decide +kernel⟩
abbrev s_Exam_set_step:Stmt:=zaX (top 48) 3
theorem sc_Exam_set_step:zan ["self","step"] ["self","step"] (zab s_Exam_set_step):=⟨rfl,rfl,rfl,by decide +kernel,rfl,by decide +kernel,by decide +kernel⟩
abbrev s_refuse_unknown:Stmt:=top 44
theorem sc_refuse_unknown:zan ["number","least","most"] ["number","least","most"] (zab s_refuse_unknown):=⟨rfl,rfl,rfl,by decide +kernel,rfl,by decide +kernel,by decide +kernel⟩
abbrev s_refuse_full:Stmt:=top 46
theorem sc_refuse_full:zan ["many","most"] ["many","most"] (zab s_refuse_full):=⟨rfl,rfl,rfl,by decide +kernel,rfl,by decide +kernel,by decide +kernel⟩
abbrev s_Exam_bring_paper:Stmt:=zaX (top 48) 1
theorem sc_Exam_bring_paper:zan ["self","house"] ["self","house"] (zab s_Exam_bring_paper):=⟨rfl,rfl,rfl,by decide +kernel,rfl,by decide +kernel,by decide +kernel⟩
abbrev s_Exam_bring_reader:Stmt:=zaX (top 48) 2
theorem sc_Exam_bring_reader:zan ["self","house","limit"] ["self","house","limit"] (zab s_Exam_bring_reader):=⟨rfl,rfl,rfl,by decide +kernel,rfl,by decide +kernel,by decide +kernel⟩
abbrev s_law_exam:Stmt:=top 59
theorem sc_law_exam:zan ["_law_homes","_law_staff","_law_step_here","_law_turn","_law_exam_here","_law_house","_law_one"] ["_law_homes","_law_staff","_law_step_here","_law_turn"] (zab s_law_exam):=⟨rfl,rfl,rfl,by decide +kernel,rfl,by decide +kernel,by decide +kernel⟩
abbrev s_law_truth:Stmt:=top 52
theorem sc_law_truth:zan ["_law_found","_law_due"] ["_law_found","_law_due"] (zab s_law_truth):=⟨rfl,rfl,rfl,by decide +kernel,rfl,by decide +kernel,by decide +kernel⟩
abbrev s_pairs_of:Stmt:=top 28
theorem sc_pairs_of:zan ["numbers","pairs","place","first","second"] ["numbers"] (zab s_pairs_of):=⟨rfl,rfl,rfl,by decide +kernel,rfl,by decide +kernel,by decide +kernel⟩
abbrev s_may_read:Stmt:=top 2
theorem sc_may_read:zan ["papers","readers","paper","reader","reader_house"] ["papers","readers","paper","reader"] (zab s_may_read):=⟨rfl,rfl,rfl,by decide +kernel,rfl,by decide +kernel,by decide +kernel⟩
abbrev s_readers_for:Stmt:=top 3
theorem sc_readers_for:zan ["papers","readers","paper"] ["papers","readers","paper"] (zab s_readers_for):=⟨rfl,rfl,rfl,by decide +kernel,rfl,by decide +kernel,by decide +kernel⟩
abbrev s_times_in:Stmt:=top 25
theorem sc_times_in:zan ["rows","reader"] ["rows","reader"] (zab s_times_in):=⟨rfl,rfl,rfl,by decide +kernel,rfl,by decide +kernel,by decide +kernel⟩
abbrev s_left_after:Stmt:=top 24
theorem sc_left_after:zan ["readers","rows"] ["readers","rows"] (zab s_left_after):=⟨rfl,rfl,rfl,by decide +kernel,rfl,by decide +kernel,by decide +kernel⟩
abbrev s_keeps_to_limits:Stmt:=top 23
theorem sc_keeps_to_limits:zan ["readers","rows"] ["readers","rows"] (zab s_keeps_to_limits):=⟨rfl,rfl,rfl,by decide +kernel,rfl,by decide +kernel,by decide +kernel⟩
abbrev s_Attempt___init__:Stmt:=zaX (top 21) 0
theorem sc_Attempt___init__:zan ["self","papers","readers"] ["self","papers","readers"] (zab s_Attempt___init__):=⟨rfl,rfl,rfl,by decide +kernel,rfl,by decide +kernel,by decide +kernel⟩
abbrev s_Attempt_free_reading:Stmt:=zaX (top 21) 2
theorem sc_Attempt_free_reading:zan ["self","reader","asked","paper"] ["self","reader","asked"] (zab s_Attempt_free_reading):=⟨rfl,rfl,rfl,by decide +kernel,rfl,by decide +kernel,by decide +kernel⟩
abbrev s_Attempt_find_reader:Stmt:=zaX (top 21) 1
theorem sc_Attempt_find_reader:zan ["self","paper","asked","reader"] ["self","paper","asked"] (zab s_Attempt_find_reader):=⟨rfl,rfl,rfl,by decide +kernel,rfl,by decide +kernel,by decide +kernel⟩
abbrev s_readers_suffice:Stmt:=top 20
theorem sc_readers_suffice:zan ["papers","readers","attempt","paper","turn"] ["papers","readers"] (zab s_readers_suffice):=⟨rfl,rfl,rfl,by decide +kernel,rfl,by decide +kernel,by decide +kernel⟩
abbrev s_with_limits:Stmt:=top 30
theorem sc_with_limits:zan ["readers","limits"] ["readers","limits"] (zab s_with_limits):=⟨rfl,rfl,rfl,by decide +kernel,rfl,by decide +kernel,by decide +kernel⟩
abbrev s_can_go_on:Stmt:=top 29
theorem sc_can_go_on:zan ["papers","readers","rows"] ["papers","readers","rows"] (zab s_can_go_on):=⟨rfl,rfl,rfl,by decide +kernel,rfl,by decide +kernel,by decide +kernel⟩
abbrev s_first_row_behind:Stmt:=top 27
theorem sc_first_row_behind:zan ["papers","readers","rows","paper","row"] ["papers","readers","rows"] (zab s_first_row_behind):=⟨rfl,rfl,rfl,by decide +kernel,rfl,by decide +kernel,by decide +kernel⟩
abbrev s_first_dealing:Stmt:=top 26
theorem sc_first_dealing:zan ["papers","readers","rows","row"] ["papers","readers"] (zab s_first_dealing):=⟨rfl,rfl,rfl,by decide +kernel,rfl,by decide +kernel,by decide +kernel⟩
abbrev s_Exam_deal:Stmt:=zaX (top 48) 4
theorem sc_Exam_deal:zan ["self","rows"] ["self"] (zab s_Exam_deal):=⟨rfl,rfl,rfl,by decide +kernel,rfl,by decide +kernel,by decide +kernel⟩
abbrev s_Exam_dealing:Stmt:=zaX (top 48) 10
theorem sc_Exam_dealing:zan ["self"] ["self"] (zab s_Exam_dealing):=⟨rfl,rfl,rfl,by decide +kernel,rfl,by decide +kernel,by decide +kernel⟩
abbrev s_law_not_behind:Stmt:=top 58
theorem sc_law_not_behind:zan ["_law_told","_law_rival","_law_k","_law_j"] ["_law_told","_law_rival"] (zab s_law_not_behind):=⟨rfl,rfl,rfl,by decide +kernel,rfl,by decide +kernel,by decide +kernel⟩
abbrev s_law_whole:Stmt:=top 51
theorem sc_law_whole:zan ["_law_found"] ["_law_found"] (zab s_law_whole):=⟨rfl,rfl,rfl,by decide +kernel,rfl,by decide +kernel,by decide +kernel⟩
abbrev s_law_pair:Stmt:=top 56
theorem sc_law_pair:zan ["_law_staff","_law_house","_law_row_here","_law_one"] ["_law_staff","_law_house","_law_row_here"] (zab s_law_pair):=⟨rfl,rfl,rfl,by decide +kernel,rfl,by decide +kernel,by decide +kernel⟩
abbrev s_law_right:Stmt:=top 57
theorem sc_law_right:zan ["_law_homes","_law_staff","_law_rows_here","_law_k"] ["_law_homes","_law_staff","_law_rows_here"] (zab s_law_right):=⟨rfl,rfl,rfl,by decide +kernel,rfl,by decide +kernel,by decide +kernel⟩
abbrev s_law_row:Stmt:=top 53
theorem sc_law_row:zan ["_law_found","_law_due","_law_k"] ["_law_found","_law_due"] (zab s_law_row):=⟨rfl,rfl,rfl,by decide +kernel,rfl,by decide +kernel,by decide +kernel⟩
abbrev s_law_rows:Stmt:=top 54
theorem sc_law_rows:zan ["_law_found","_law_due","_law_k"] ["_law_found","_law_due"] (zab s_law_rows):=⟨rfl,rfl,rfl,by decide +kernel,rfl,by decide +kernel,by decide +kernel⟩
abbrev s_Exam_readers:Stmt:=zaX (top 48) 7
theorem sc_Exam_readers:zan ["self"] ["self"] (zab s_Exam_readers):=⟨rfl,rfl,rfl,by decide +kernel,rfl,by decide +kernel,by decide +kernel⟩
abbrev s_Exam_papers:Stmt:=zaX (top 48) 6
theorem sc_Exam_papers:zan ["self"] ["self"] (zab s_Exam_papers):=⟨rfl,rfl,rfl,by decide +kernel,rfl,by decide +kernel,by decide +kernel⟩
abbrev s_greatest_of:Stmt:=top 7
theorem sc_greatest_of:zan ["chosen"] ["chosen"] (zab s_greatest_of):=⟨rfl,rfl,rfl,by decide +kernel,rfl,by decide +kernel,by decide +kernel⟩
abbrev s_sets_one_larger:Stmt:=top 6
theorem sc_sets_one_larger:zan ["of_one_size","many","larger","chosen","paper"] ["of_one_size","many"] (zab s_sets_one_larger):=⟨rfl,rfl,rfl,by decide +kernel,rfl,by decide +kernel,by decide +kernel⟩
abbrev s_sets_of:Stmt:=top 5
theorem sc_sets_of:zan ["many","told","of_one_size"] ["many"] (zab s_sets_of):=⟨rfl,rfl,rfl,by decide +kernel,rfl,by decide +kernel,by decide +kernel⟩
abbrev s_room_of:Stmt:=top 10
theorem sc_room_of:zan ["papers","readers","chosen","reader","limit","may_be_read"] ["papers","readers","chosen","reader"] (zab s_room_of):=⟨rfl,rfl,rfl,by decide +kernel,rfl,by decide +kernel,by decide +kernel⟩
abbrev s_room:Stmt:=top 9
theorem sc_room:zan ["papers","readers","chosen"] ["papers","readers","chosen"] (zab s_room):=⟨rfl,rfl,rfl,by decide +kernel,rfl,by decide +kernel,by decide +kernel⟩
abbrev s_is_against:Stmt:=top 11
theorem sc_is_against:zan ["papers","readers","chosen"] ["papers","readers","chosen"] (zab s_is_against):=⟨rfl,rfl,rfl,by decide +kernel,rfl,by decide +kernel,by decide +kernel⟩
abbrev s_first_against:Stmt:=top 12
theorem sc_first_against:zan ["papers","readers","chosen"] ["papers","readers"] (zab s_first_against):=⟨rfl,rfl,rfl,by decide +kernel,rfl,by decide +kernel,by decide +kernel⟩
abbrev s_Exam_against:Stmt:=zaX (top 48) 11
theorem sc_Exam_against:zan ["self"] ["self"] (zab s_Exam_against):=⟨rfl,rfl,rfl,by decide +kernel,rfl,by decide +kernel,by decide +kernel⟩
abbrev s_Exam_dealt:Stmt:=zaX (top 48) 9
theorem sc_Exam_dealt:zan ["self"] ["self"] (zab s_Exam_dealt):=⟨rfl,rfl,rfl,by decide +kernel,rfl,by decide +kernel,by decide +kernel⟩
abbrev s_Exam_step:Stmt:=zaX (top 48) 8
theorem sc_Exam_step:zan ["self"] ["self"] (zab s_Exam_step):=⟨rfl,rfl,rfl,by decide +kernel,rfl,by decide +kernel,by decide +kernel⟩
abbrev s_law_kept:Stmt:=top 62
theorem sc_law_kept:zan ["_law_exam_here","_law_homes","_law_staff","_law_step_here","_law_names"] ["_law_exam_here","_law_homes","_law_staff","_law_step_here","_law_names"] (zab s_law_kept):=⟨rfl,rfl,rfl,by decide +kernel,rfl,by decide +kernel,by decide +kernel⟩
abbrev s_Exam_due_readers:Stmt:=zaX (top 48) 18
theorem sc_Exam_due_readers:zan ["self","paper","entered"] ["self","paper"] (zab s_Exam_due_readers):=⟨rfl,rfl,rfl,by decide +kernel,rfl,by decide +kernel,by decide +kernel⟩
abbrev s_Exam_due:Stmt:=zaX (top 48) 12
theorem sc_Exam_due:zan ["self","rows","paper"] ["self"] (zab s_Exam_due):=⟨rfl,rfl,rfl,by decide +kernel,rfl,by decide +kernel,by decide +kernel⟩
abbrev s_law_none:Stmt:=top 63
theorem sc_law_none:zan ["_law_found","_law_many","_law_one"] ["_law_found","_law_many"] (zab s_law_none):=⟨rfl,rfl,rfl,by decide +kernel,rfl,by decide +kernel,by decide +kernel⟩
abbrev s_Exam_points_for:Stmt:=zaX (top 48) 19
theorem sc_Exam_points_for:zan ["self","paper","entered"] ["self","paper"] (zab s_Exam_points_for):=⟨rfl,rfl,rfl,by decide +kernel,rfl,by decide +kernel,by decide +kernel⟩
abbrev s_greatest_divisor:Stmt:=top 39
theorem sc_greatest_divisor:zan ["one","other","divisor","rest","next_rest"] ["one","other"] (zab s_greatest_divisor):=⟨rfl,rfl,rfl,by decide +kernel,rfl,by decide +kernel,by decide +kernel⟩
abbrev s_lowest:Stmt:=top 38
theorem sc_lowest:zan ["top","bottom","divisor"] ["top","bottom"] (zab s_lowest):=⟨rfl,rfl,rfl,by decide +kernel,rfl,by decide +kernel,by decide +kernel⟩
abbrev s_middle_of:Stmt:=top 42
theorem sc_middle_of:zan ["points"] ["points"] (zab s_middle_of):=⟨rfl,rfl,rfl,by decide +kernel,rfl,by decide +kernel,by decide +kernel⟩
abbrev s_agree:Stmt:=top 40
theorem sc_agree:zan ["one","other","step"] ["one","other","step"] (zab s_agree):=⟨rfl,rfl,rfl,by decide +kernel,rfl,by decide +kernel,by decide +kernel⟩
abbrev s_mark_of:Stmt:=top 41
theorem sc_mark_of:zan ["points","step"] ["points","step"] (zab s_mark_of):=⟨rfl,rfl,rfl,by decide +kernel,rfl,by decide +kernel,by decide +kernel⟩
abbrev s_Exam_mark_for:Stmt:=zaX (top 48) 20
theorem sc_Exam_mark_for:zan ["self","paper","points","readings"] ["self","paper"] (zab s_Exam_mark_for):=⟨rfl,rfl,rfl,by decide +kernel,rfl,by decide +kernel,by decide +kernel⟩
abbrev s_Exam_marks:Stmt:=zaX (top 48) 13
theorem sc_Exam_marks:zan ["self"] ["self"] (zab s_Exam_marks):=⟨rfl,rfl,rfl,by decide +kernel,rfl,by decide +kernel,by decide +kernel⟩
abbrev s_law_spare:Stmt:=top 60
theorem sc_law_spare:zan ["_law_staff","_law_names","_law_left","_law_k"] ["_law_staff","_law_names"] (zab s_law_spare):=⟨rfl,rfl,rfl,by decide +kernel,rfl,by decide +kernel,by decide +kernel⟩
abbrev s_Exam_left:Stmt:=zaX (top 48) 14
theorem sc_Exam_left:zan ["self"] ["self"] (zab s_Exam_left):=⟨rfl,rfl,rfl,by decide +kernel,rfl,by decide +kernel,by decide +kernel⟩
abbrev s_law:Stmt:=top 64
theorem sc_law:zan ["_law_script","_law_made","_law_homes","_law_staff","_law_step_here","_law_exam_here","_law_names","_law_waiting","_law_k"] ["_law_script"] (zab s_law):=⟨rfl,rfl,rfl,by decide +kernel,rfl,by decide +kernel,by decide +kernel⟩
structure Adr where
 f_law_at:Addr
 d_law_at:FuncData
 f_law_planted:Addr
 d_law_planted:FuncData
 f_law_step:Addr
 d_law_step:FuncData
 f_Exam___init__:Addr
 d_Exam___init__:FuncData
 f_Exam_refuse_behind_dealing:Addr
 d_Exam_refuse_behind_dealing:FuncData
 f_refuse_out_of_bounds:Addr
 d_refuse_out_of_bounds:FuncData
 f_Exam_set_step:Addr
 d_Exam_set_step:FuncData
 f_refuse_unknown:Addr
 d_refuse_unknown:FuncData
 f_refuse_full:Addr
 d_refuse_full:FuncData
 f_Exam_bring_paper:Addr
 d_Exam_bring_paper:FuncData
 f_Exam_bring_reader:Addr
 d_Exam_bring_reader:FuncData
 f_law_exam:Addr
 d_law_exam:FuncData
 f_law_truth:Addr
 d_law_truth:FuncData
 f_pairs_of:Addr
 d_pairs_of:FuncData
 f_may_read:Addr
 d_may_read:FuncData
 f_readers_for:Addr
 d_readers_for:FuncData
 f_times_in:Addr
 d_times_in:FuncData
 f_left_after:Addr
 d_left_after:FuncData
 f_keeps_to_limits:Addr
 d_keeps_to_limits:FuncData
 f_Attempt___init__:Addr
 d_Attempt___init__:FuncData
 f_Attempt_free_reading:Addr
 d_Attempt_free_reading:FuncData
 f_Attempt_find_reader:Addr
 d_Attempt_find_reader:FuncData
 f_readers_suffice:Addr
 d_readers_suffice:FuncData
 f_with_limits:Addr
 d_with_limits:FuncData
 f_can_go_on:Addr
 d_can_go_on:FuncData
 f_first_row_behind:Addr
 d_first_row_behind:FuncData
 f_first_dealing:Addr
 d_first_dealing:FuncData
 f_Exam_deal:Addr
 d_Exam_deal:FuncData
 f_Exam_dealing:Addr
 d_Exam_dealing:FuncData
 f_law_not_behind:Addr
 d_law_not_behind:FuncData
 f_law_whole:Addr
 d_law_whole:FuncData
 f_law_pair:Addr
 d_law_pair:FuncData
 f_law_right:Addr
 d_law_right:FuncData
 f_law_row:Addr
 d_law_row:FuncData
 f_law_rows:Addr
 d_law_rows:FuncData
 f_Exam_readers:Addr
 d_Exam_readers:FuncData
 f_Exam_papers:Addr
 d_Exam_papers:FuncData
 f_greatest_of:Addr
 d_greatest_of:FuncData
 f_sets_one_larger:Addr
 d_sets_one_larger:FuncData
 f_sets_of:Addr
 d_sets_of:FuncData
 f_room_of:Addr
 d_room_of:FuncData
 f_room:Addr
 d_room:FuncData
 f_is_against:Addr
 d_is_against:FuncData
 f_first_against:Addr
 d_first_against:FuncData
 f_Exam_against:Addr
 d_Exam_against:FuncData
 f_Exam_dealt:Addr
 d_Exam_dealt:FuncData
 f_Exam_step:Addr
 d_Exam_step:FuncData
 f_law_kept:Addr
 d_law_kept:FuncData
 f_Exam_due_readers:Addr
 d_Exam_due_readers:FuncData
 f_Exam_due:Addr
 d_Exam_due:FuncData
 f_law_none:Addr
 d_law_none:FuncData
 f_Exam_points_for:Addr
 d_Exam_points_for:FuncData
 f_greatest_divisor:Addr
 d_greatest_divisor:FuncData
 f_lowest:Addr
 d_lowest:FuncData
 f_middle_of:Addr
 d_middle_of:FuncData
 f_agree:Addr
 d_agree:FuncData
 f_mark_of:Addr
 d_mark_of:FuncData
 f_Exam_mark_for:Addr
 d_Exam_mark_for:FuncData
 f_Exam_marks:Addr
 d_Exam_marks:FuncData
 f_law_spare:Addr
 d_law_spare:FuncData
 f_Exam_left:Addr
 d_Exam_left:FuncData
 f_law:Addr
 d_law:FuncData
 C_Attempt:Addr
 C_Exam:Addr
 k_READERS_EACH:Value
 k_MOST_HOUSES:Value
 k_MOST_PAPERS:Value
 k_MOST_LIMIT:Value
 k_MOST_READERS:Value
 k_MOST_STEP:Value
structure Txt (K:PySem.W.Frag) (mg:Str→Option Value) (t:Adr):Prop where
 F_law_at:Fun K "_law_at" "_law_at" s_law_at t.f_law_at t.d_law_at
 b_law_at:Binds K t.d_law_at ["_law_script","_law_k"] []
 m_law_at:mg "_law_at" = some (.ref t.f_law_at)
 F_law_planted:Fun K "_law_planted" "_law_planted" s_law_planted t.f_law_planted t.d_law_planted
 b_law_planted:Binds K t.d_law_planted ["_law_script","_law_first","_law_least"] []
 m_law_planted:mg "_law_planted" = some (.ref t.f_law_planted)
 F_law_step:Fun K "_law_step" "_law_step" s_law_step t.f_law_step t.d_law_step
 b_law_step:Binds K t.d_law_step ["_law_cell"] []
 m_law_step:mg "_law_step" = some (.ref t.f_law_step)
 F_Exam___init__:Fun K "__init__" "Exam.__init__" s_Exam___init__ t.f_Exam___init__ t.d_Exam___init__
 b_Exam___init__:Binds K t.d_Exam___init__ ["self"] []
 mk_Exam:Mk K t.C_Exam t.f_Exam___init__
 F_Exam_refuse_behind_dealing:Fun K "refuse_behind_dealing" "Exam.refuse_behind_dealing" s_Exam_refuse_behind_dealing t.f_Exam_refuse_behind_dealing t.d_Exam_refuse_behind_dealing
 b_Exam_refuse_behind_dealing:Binds K t.d_Exam_refuse_behind_dealing ["self"] []
 me_Exam_refuse_behind_dealing:Meth K t.C_Exam "refuse_behind_dealing" t.f_Exam_refuse_behind_dealing
 F_refuse_out_of_bounds:Fun K "refuse_out_of_bounds" "refuse_out_of_bounds" s_refuse_out_of_bounds t.f_refuse_out_of_bounds t.d_refuse_out_of_bounds
 b_refuse_out_of_bounds:Binds K t.d_refuse_out_of_bounds ["number","most"] []
 m_refuse_out_of_bounds:mg "refuse_out_of_bounds" = some (.ref t.f_refuse_out_of_bounds)
 F_Exam_set_step:Fun K "set_step" "Exam.set_step" s_Exam_set_step t.f_Exam_set_step t.d_Exam_set_step
 b_Exam_set_step:Binds K t.d_Exam_set_step ["self","step"] []
 me_Exam_set_step:Meth K t.C_Exam "set_step" t.f_Exam_set_step
 F_refuse_unknown:Fun K "refuse_unknown" "refuse_unknown" s_refuse_unknown t.f_refuse_unknown t.d_refuse_unknown
 b_refuse_unknown:Binds K t.d_refuse_unknown ["number","least","most"] []
 m_refuse_unknown:mg "refuse_unknown" = some (.ref t.f_refuse_unknown)
 F_refuse_full:Fun K "refuse_full" "refuse_full" s_refuse_full t.f_refuse_full t.d_refuse_full
 b_refuse_full:Binds K t.d_refuse_full ["many","most"] []
 m_refuse_full:mg "refuse_full" = some (.ref t.f_refuse_full)
 F_Exam_bring_paper:Fun K "bring_paper" "Exam.bring_paper" s_Exam_bring_paper t.f_Exam_bring_paper t.d_Exam_bring_paper
 b_Exam_bring_paper:Binds K t.d_Exam_bring_paper ["self","house"] []
 me_Exam_bring_paper:Meth K t.C_Exam "bring_paper" t.f_Exam_bring_paper
 F_Exam_bring_reader:Fun K "bring_reader" "Exam.bring_reader" s_Exam_bring_reader t.f_Exam_bring_reader t.d_Exam_bring_reader
 b_Exam_bring_reader:Binds K t.d_Exam_bring_reader ["self","house","limit"] []
 me_Exam_bring_reader:Meth K t.C_Exam "bring_reader" t.f_Exam_bring_reader
 F_law_exam:Fun K "_law_exam" "_law_exam" s_law_exam t.f_law_exam t.d_law_exam
 b_law_exam:Binds K t.d_law_exam ["_law_homes","_law_staff","_law_step_here","_law_turn"] []
 m_law_exam:mg "_law_exam" = some (.ref t.f_law_exam)
 F_law_truth:Fun K "_law_truth" "_law_truth" s_law_truth t.f_law_truth t.d_law_truth
 b_law_truth:Binds K t.d_law_truth ["_law_found","_law_due"] []
 m_law_truth:mg "_law_truth" = some (.ref t.f_law_truth)
 F_pairs_of:Fun K "pairs_of" "pairs_of" s_pairs_of t.f_pairs_of t.d_pairs_of
 b_pairs_of:Binds K t.d_pairs_of ["numbers"] []
 m_pairs_of:mg "pairs_of" = some (.ref t.f_pairs_of)
 F_may_read:Fun K "may_read" "may_read" s_may_read t.f_may_read t.d_may_read
 b_may_read:Binds K t.d_may_read ["papers","readers","paper","reader"] []
 m_may_read:mg "may_read" = some (.ref t.f_may_read)
 F_readers_for:Fun K "readers_for" "readers_for" s_readers_for t.f_readers_for t.d_readers_for
 b_readers_for:Binds K t.d_readers_for ["papers","readers","paper"] []
 m_readers_for:mg "readers_for" = some (.ref t.f_readers_for)
 F_times_in:Fun K "times_in" "times_in" s_times_in t.f_times_in t.d_times_in
 b_times_in:Binds K t.d_times_in ["rows","reader"] []
 m_times_in:mg "times_in" = some (.ref t.f_times_in)
 F_left_after:Fun K "left_after" "left_after" s_left_after t.f_left_after t.d_left_after
 b_left_after:Binds K t.d_left_after ["readers","rows"] []
 m_left_after:mg "left_after" = some (.ref t.f_left_after)
 F_keeps_to_limits:Fun K "keeps_to_limits" "keeps_to_limits" s_keeps_to_limits t.f_keeps_to_limits t.d_keeps_to_limits
 b_keeps_to_limits:Binds K t.d_keeps_to_limits ["readers","rows"] []
 m_keeps_to_limits:mg "keeps_to_limits" = some (.ref t.f_keeps_to_limits)
 F_Attempt___init__:Fun K "__init__" "Attempt.__init__" s_Attempt___init__ t.f_Attempt___init__ t.d_Attempt___init__
 b_Attempt___init__:Binds K t.d_Attempt___init__ ["self","papers","readers"] []
 mk_Attempt:Mk K t.C_Attempt t.f_Attempt___init__
 F_Attempt_free_reading:Fun K "free_reading" "Attempt.free_reading" s_Attempt_free_reading t.f_Attempt_free_reading t.d_Attempt_free_reading
 b_Attempt_free_reading:Binds K t.d_Attempt_free_reading ["self","reader","asked"] []
 me_Attempt_free_reading:Meth K t.C_Attempt "free_reading" t.f_Attempt_free_reading
 F_Attempt_find_reader:Fun K "find_reader" "Attempt.find_reader" s_Attempt_find_reader t.f_Attempt_find_reader t.d_Attempt_find_reader
 b_Attempt_find_reader:Binds K t.d_Attempt_find_reader ["self","paper","asked"] []
 me_Attempt_find_reader:Meth K t.C_Attempt "find_reader" t.f_Attempt_find_reader
 F_readers_suffice:Fun K "readers_suffice" "readers_suffice" s_readers_suffice t.f_readers_suffice t.d_readers_suffice
 b_readers_suffice:Binds K t.d_readers_suffice ["papers","readers"] []
 m_readers_suffice:mg "readers_suffice" = some (.ref t.f_readers_suffice)
 F_with_limits:Fun K "with_limits" "with_limits" s_with_limits t.f_with_limits t.d_with_limits
 b_with_limits:Binds K t.d_with_limits ["readers","limits"] []
 m_with_limits:mg "with_limits" = some (.ref t.f_with_limits)
 F_can_go_on:Fun K "can_go_on" "can_go_on" s_can_go_on t.f_can_go_on t.d_can_go_on
 b_can_go_on:Binds K t.d_can_go_on ["papers","readers","rows"] []
 m_can_go_on:mg "can_go_on" = some (.ref t.f_can_go_on)
 F_first_row_behind:Fun K "first_row_behind" "first_row_behind" s_first_row_behind t.f_first_row_behind t.d_first_row_behind
 b_first_row_behind:Binds K t.d_first_row_behind ["papers","readers","rows"] []
 m_first_row_behind:mg "first_row_behind" = some (.ref t.f_first_row_behind)
 F_first_dealing:Fun K "first_dealing" "first_dealing" s_first_dealing t.f_first_dealing t.d_first_dealing
 b_first_dealing:Binds K t.d_first_dealing ["papers","readers"] []
 m_first_dealing:mg "first_dealing" = some (.ref t.f_first_dealing)
 F_Exam_deal:Fun K "deal" "Exam.deal" s_Exam_deal t.f_Exam_deal t.d_Exam_deal
 b_Exam_deal:Binds K t.d_Exam_deal ["self"] []
 me_Exam_deal:Meth K t.C_Exam "deal" t.f_Exam_deal
 F_Exam_dealing:Fun K "dealing" "Exam.dealing" s_Exam_dealing t.f_Exam_dealing t.d_Exam_dealing
 b_Exam_dealing:Binds K t.d_Exam_dealing ["self"] []
 me_Exam_dealing:Meth K t.C_Exam "dealing" t.f_Exam_dealing
 F_law_not_behind:Fun K "_law_not_behind" "_law_not_behind" s_law_not_behind t.f_law_not_behind t.d_law_not_behind
 b_law_not_behind:Binds K t.d_law_not_behind ["_law_told","_law_rival"] []
 m_law_not_behind:mg "_law_not_behind" = some (.ref t.f_law_not_behind)
 F_law_whole:Fun K "_law_whole" "_law_whole" s_law_whole t.f_law_whole t.d_law_whole
 b_law_whole:Binds K t.d_law_whole ["_law_found"] []
 m_law_whole:mg "_law_whole" = some (.ref t.f_law_whole)
 F_law_pair:Fun K "_law_pair" "_law_pair" s_law_pair t.f_law_pair t.d_law_pair
 b_law_pair:Binds K t.d_law_pair ["_law_staff","_law_house","_law_row_here"] []
 m_law_pair:mg "_law_pair" = some (.ref t.f_law_pair)
 F_law_right:Fun K "_law_right" "_law_right" s_law_right t.f_law_right t.d_law_right
 b_law_right:Binds K t.d_law_right ["_law_homes","_law_staff","_law_rows_here"] []
 m_law_right:mg "_law_right" = some (.ref t.f_law_right)
 F_law_row:Fun K "_law_row" "_law_row" s_law_row t.f_law_row t.d_law_row
 b_law_row:Binds K t.d_law_row ["_law_found","_law_due"] []
 m_law_row:mg "_law_row" = some (.ref t.f_law_row)
 F_law_rows:Fun K "_law_rows" "_law_rows" s_law_rows t.f_law_rows t.d_law_rows
 b_law_rows:Binds K t.d_law_rows ["_law_found","_law_due"] []
 m_law_rows:mg "_law_rows" = some (.ref t.f_law_rows)
 F_Exam_readers:Fun K "readers" "Exam.readers" s_Exam_readers t.f_Exam_readers t.d_Exam_readers
 b_Exam_readers:Binds K t.d_Exam_readers ["self"] []
 me_Exam_readers:Meth K t.C_Exam "readers" t.f_Exam_readers
 F_Exam_papers:Fun K "papers" "Exam.papers" s_Exam_papers t.f_Exam_papers t.d_Exam_papers
 b_Exam_papers:Binds K t.d_Exam_papers ["self"] []
 me_Exam_papers:Meth K t.C_Exam "papers" t.f_Exam_papers
 F_greatest_of:Fun K "greatest_of" "greatest_of" s_greatest_of t.f_greatest_of t.d_greatest_of
 b_greatest_of:Binds K t.d_greatest_of ["chosen"] []
 m_greatest_of:mg "greatest_of" = some (.ref t.f_greatest_of)
 F_sets_one_larger:Fun K "sets_one_larger" "sets_one_larger" s_sets_one_larger t.f_sets_one_larger t.d_sets_one_larger
 b_sets_one_larger:Binds K t.d_sets_one_larger ["of_one_size","many"] []
 m_sets_one_larger:mg "sets_one_larger" = some (.ref t.f_sets_one_larger)
 F_sets_of:Fun K "sets_of" "sets_of" s_sets_of t.f_sets_of t.d_sets_of
 b_sets_of:Binds K t.d_sets_of ["many"] []
 m_sets_of:mg "sets_of" = some (.ref t.f_sets_of)
 F_room_of:Fun K "room_of" "room_of" s_room_of t.f_room_of t.d_room_of
 b_room_of:Binds K t.d_room_of ["papers","readers","chosen","reader"] []
 m_room_of:mg "room_of" = some (.ref t.f_room_of)
 F_room:Fun K "room" "room" s_room t.f_room t.d_room
 b_room:Binds K t.d_room ["papers","readers","chosen"] []
 m_room:mg "room" = some (.ref t.f_room)
 F_is_against:Fun K "is_against" "is_against" s_is_against t.f_is_against t.d_is_against
 b_is_against:Binds K t.d_is_against ["papers","readers","chosen"] []
 m_is_against:mg "is_against" = some (.ref t.f_is_against)
 F_first_against:Fun K "first_against" "first_against" s_first_against t.f_first_against t.d_first_against
 b_first_against:Binds K t.d_first_against ["papers","readers"] []
 m_first_against:mg "first_against" = some (.ref t.f_first_against)
 F_Exam_against:Fun K "against" "Exam.against" s_Exam_against t.f_Exam_against t.d_Exam_against
 b_Exam_against:Binds K t.d_Exam_against ["self"] []
 me_Exam_against:Meth K t.C_Exam "against" t.f_Exam_against
 F_Exam_dealt:Fun K "dealt" "Exam.dealt" s_Exam_dealt t.f_Exam_dealt t.d_Exam_dealt
 b_Exam_dealt:Binds K t.d_Exam_dealt ["self"] []
 me_Exam_dealt:Meth K t.C_Exam "dealt" t.f_Exam_dealt
 F_Exam_step:Fun K "step" "Exam.step" s_Exam_step t.f_Exam_step t.d_Exam_step
 b_Exam_step:Binds K t.d_Exam_step ["self"] []
 me_Exam_step:Meth K t.C_Exam "step" t.f_Exam_step
 F_law_kept:Fun K "_law_kept" "_law_kept" s_law_kept t.f_law_kept t.d_law_kept
 b_law_kept:Binds K t.d_law_kept ["_law_exam_here","_law_homes","_law_staff","_law_step_here","_law_names"] []
 m_law_kept:mg "_law_kept" = some (.ref t.f_law_kept)
 F_Exam_due_readers:Fun K "due_readers" "Exam.due_readers" s_Exam_due_readers t.f_Exam_due_readers t.d_Exam_due_readers
 b_Exam_due_readers:Binds K t.d_Exam_due_readers ["self","paper"] []
 me_Exam_due_readers:Meth K t.C_Exam "due_readers" t.f_Exam_due_readers
 F_Exam_due:Fun K "due" "Exam.due" s_Exam_due t.f_Exam_due t.d_Exam_due
 b_Exam_due:Binds K t.d_Exam_due ["self"] []
 me_Exam_due:Meth K t.C_Exam "due" t.f_Exam_due
 F_law_none:Fun K "_law_none" "_law_none" s_law_none t.f_law_none t.d_law_none
 b_law_none:Binds K t.d_law_none ["_law_found","_law_many"] []
 m_law_none:mg "_law_none" = some (.ref t.f_law_none)
 F_Exam_points_for:Fun K "points_for" "Exam.points_for" s_Exam_points_for t.f_Exam_points_for t.d_Exam_points_for
 b_Exam_points_for:Binds K t.d_Exam_points_for ["self","paper"] []
 me_Exam_points_for:Meth K t.C_Exam "points_for" t.f_Exam_points_for
 F_greatest_divisor:Fun K "greatest_divisor" "greatest_divisor" s_greatest_divisor t.f_greatest_divisor t.d_greatest_divisor
 b_greatest_divisor:Binds K t.d_greatest_divisor ["one","other"] []
 m_greatest_divisor:mg "greatest_divisor" = some (.ref t.f_greatest_divisor)
 F_lowest:Fun K "lowest" "lowest" s_lowest t.f_lowest t.d_lowest
 b_lowest:Binds K t.d_lowest ["top","bottom"] []
 m_lowest:mg "lowest" = some (.ref t.f_lowest)
 F_middle_of:Fun K "middle_of" "middle_of" s_middle_of t.f_middle_of t.d_middle_of
 b_middle_of:Binds K t.d_middle_of ["points"] []
 m_middle_of:mg "middle_of" = some (.ref t.f_middle_of)
 F_agree:Fun K "agree" "agree" s_agree t.f_agree t.d_agree
 b_agree:Binds K t.d_agree ["one","other","step"] []
 m_agree:mg "agree" = some (.ref t.f_agree)
 F_mark_of:Fun K "mark_of" "mark_of" s_mark_of t.f_mark_of t.d_mark_of
 b_mark_of:Binds K t.d_mark_of ["points","step"] []
 m_mark_of:mg "mark_of" = some (.ref t.f_mark_of)
 F_Exam_mark_for:Fun K "mark_for" "Exam.mark_for" s_Exam_mark_for t.f_Exam_mark_for t.d_Exam_mark_for
 b_Exam_mark_for:Binds K t.d_Exam_mark_for ["self","paper"] []
 me_Exam_mark_for:Meth K t.C_Exam "mark_for" t.f_Exam_mark_for
 F_Exam_marks:Fun K "marks" "Exam.marks" s_Exam_marks t.f_Exam_marks t.d_Exam_marks
 b_Exam_marks:Binds K t.d_Exam_marks ["self"] []
 me_Exam_marks:Meth K t.C_Exam "marks" t.f_Exam_marks
 F_law_spare:Fun K "_law_spare" "_law_spare" s_law_spare t.f_law_spare t.d_law_spare
 b_law_spare:Binds K t.d_law_spare ["_law_staff","_law_names"] []
 m_law_spare:mg "_law_spare" = some (.ref t.f_law_spare)
 F_Exam_left:Fun K "left" "Exam.left" s_Exam_left t.f_Exam_left t.d_Exam_left
 b_Exam_left:Binds K t.d_Exam_left ["self"] []
 me_Exam_left:Meth K t.C_Exam "left" t.f_Exam_left
 F_law:Fun K "law" "law" s_law t.f_law t.d_law
 b_law:Binds K t.d_law ["_law_script"] []
 m_law:mg "law" = some (.ref t.f_law)
 cl_Attempt:Cls K t.C_Attempt
 mg_Attempt:mg "Attempt" = some (.ref t.C_Attempt)
 n_Attempt_allowed:zbm K t.C_Attempt "allowed"
 n_Attempt_given:zbm K t.C_Attempt "given"
 n_Attempt_spare:zbm K t.C_Attempt "spare"
 cl_Exam:Cls K t.C_Exam
 mg_Exam:mg "Exam" = some (.ref t.C_Exam)
 n_Exam_paper_houses:zbm K t.C_Exam "paper_houses"
 n_Exam_reader_rows:zbm K t.C_Exam "reader_rows"
 n_Exam_widest_step:zbm K t.C_Exam "widest_step"
 n_Exam_is_dealt:zbm K t.C_Exam "is_dealt"
 n_Exam_named_readers:zbm K t.C_Exam "named_readers"
 n_Exam_entered_points:zbm K t.C_Exam "entered_points"
 v_READERS_EACH:mg "READERS_EACH" = some t.k_READERS_EACH
 w_READERS_EACH:RelV (.int 2) t.k_READERS_EACH
 v_MOST_HOUSES:mg "MOST_HOUSES" = some t.k_MOST_HOUSES
 w_MOST_HOUSES:RelV (.int 6) t.k_MOST_HOUSES
 v_MOST_PAPERS:mg "MOST_PAPERS" = some t.k_MOST_PAPERS
 w_MOST_PAPERS:RelV (.int 10) t.k_MOST_PAPERS
 v_MOST_LIMIT:mg "MOST_LIMIT" = some t.k_MOST_LIMIT
 w_MOST_LIMIT:RelV (.int 30) t.k_MOST_LIMIT
 v_MOST_READERS:mg "MOST_READERS" = some t.k_MOST_READERS
 w_MOST_READERS:RelV (.int 8) t.k_MOST_READERS
 v_MOST_STEP:mg "MOST_STEP" = some t.k_MOST_STEP
 w_MOST_STEP:RelV (.int 100) t.k_MOST_STEP
 z_abs:mg "abs" = none
 z_all:mg "all" = none
 z_bool:mg "bool" = none
 z_enumerate:mg "enumerate" = none
 z_int:mg "int" = none
 z_isinstance:mg "isinstance" = none
 z_len:mg "len" = none
 z_list:mg "list" = none
 z_max:mg "max" = none
 z_min:mg "min" = none
 z_range:mg "range" = none
 z_sorted:mg "sorted" = none
 z_sum:mg "sum" = none
 z_zip:mg "zip" = none
end Prf
namespace Prf
open PySem PySem.Spec PyProof.Rows L2
section
variable {P:Program} {w:World} {K:PySem.W.Frag} {mg:Str→Option Value} {base:Heap} {t:Adr}
def zga (K:PySem.W.Frag):Sp:=fun vs H Q _=>vs.length=2∧∃ (a:Addr) (ns:List Int) (k:Int),vs=[.ref a,.int k]∧SqL K H a (ns.map V.int)∧ns.length≤63∧Q (.int (zbA ns k)) H
theorem zgb (T:Txt K mg t):FnOk P w K mg base CX0 1 t.f_law_at t.d_law_at ["_law_script","_law_k"] (zga K):=by
 refine T.F_law_at.ok sc_law_at (fun vs H Q E h=>?_) (fun cdv A outer s H vs Q E hr h=>?_)
 ·exact (by obtain ⟨h,_⟩:=h;exact h)
 have TERM:∃ t',PSs (cxOf CX0 P w K mg base ["_law_script","_law_k"] "_law_at" (zab s_law_at) t.f_law_at cdv A outer s H E).nox (zae s_law_at) t'∧t' ⟨fun _ H'=>Q .non H',Q,fun _ _=>False,fun _ _=>False⟩ (start ["_law_script","_law_k"] vs) H:=by
  refine ⟨_,(zac (zaV (zay (zdj (K:=K) rfl hr.units0) (zah (zak (K:=K) rfl) (by rfl) T.z_len (by rfl) (zaa (pv 0) pa_nil)) zaf (zaJ _))
   (zad (zaj zaf)) pss_nil)
   (zad (zaj (zaw (op_addG) (zaH (zai (K:=K) rfl) (pv 0) (zaw (op_mod) (pv 1) (zah (zak (K:=K) rfl) (by rfl) T.z_len (by rfl) (zaa (pv 0) pa_nil))) (fun _ _=>rfl)) (zaw (op_fdivB) (pv 1) (zah (zak (K:=K) rfl) (by rfl) T.z_len (by rfl) (zaa (pv 0) pa_nil))))))),?_⟩
  obtain ⟨_,a,ns,k,rfl,hS,hl,q⟩:=h
  walk_at "rd"
  unfold zbA at q
  refine zct (fun h0=>?_) (fun h0=>?_)
  ·rw [if_pos h0] at q
   walk_at "rd"
   exact q
  ·rw [if_neg h0] at q
   have h3:(0:Int) < ns.length:=by omega
   walk_at "rd"
   refine zhM hS (zcM (Int.emod_nonneg _ h0) (Int.emod_lt_of_pos _ h3)) ?_
   walk_at "rd"
   exact q
 exact TERM
theorem zhy {H:Hp} {a:Addr} {ns:List Int} {k:Int} {Q:VK} {E:XK} (h:SqL K H a (ns.map V.int)) (hl:ns.length≤63) (q:Q (.int (zbA ns k)) H):zga K [.ref a,.int k] H Q E:=⟨rfl,a,ns,k,rfl,h,hl,q⟩
local macro_rules | `(tactic| walk_at "rd1")=>`(tactic| ((with_reducible refine' zhy ?h1 ?h2 ?_);(case h1=>walk_at "hp");(case h2=>omega)))
theorem few3 {k:Int} (h0:0≤k) (h1:k < 3):2≤([6,2,3]:List Int).getD k.toNat 0∧([6,2,3]:List Int).getD k.toNat 0≤6:=by
 have:k=0∨k=1∨k=2:=by omega
 rcases this with rfl | rfl | rfl <;> decide
theorem zmW {k:Int} (h0:0≤k) (h1:k < 3):1≤([31,1,2]:List Int).getD k.toNat 0∧([31,1,2]:List Int).getD k.toNat 0≤31:=by
 have:k=0∨k=1∨k=2:=by omega
 rcases this with rfl | rfl | rfl <;> decide
structure zcG (B:Hp) (p ph ps pr:Addr) (sa ra:List Addr) (hs:List Int) (rs rows:List (List Int)) (H:Hp):Prop where
 same:Same B H
 at_p:H p=some (.lst [.ref ph,.ref ps,.ref pr])
 at_h:H ph=some (.lst (hs.map V.int))
 at_s:H ps=some (.lst (sa.map V.ref))
 at_r:H pr=some (.lst (ra.map V.ref))
 sl:sa.length=rs.length
 rl:ra.length=rows.length
 s_at:∀ i,i < rs.length→H (sa.getD i 0)=some (.lst ((rs.getD i []).map V.int))
 r_at:∀ i,i < rows.length→H (ra.getD i 0)=some (.lst ((rows.getD i []).map V.int))
 apart:(p::ph::ps::pr::(sa++ra)).Nodup
 new:∀ b∈p::ph::ps::pr::(sa++ra),B b=none
theorem zcG.ls {K:PySem.W.Frag} {B H:Hp} {p ph ps pr:Addr} {sa ra:List Addr} {hs:List Int} {rs rows:List (List Int)} (P:zcG B p ph ps pr sa ra hs rs rows H):LL K H ps rs:=⟨sa,SqL.of P.at_s,P.sl,P.s_at⟩
theorem zcG.lr {K:PySem.W.Frag} {B H:Hp} {p ph ps pr:Addr} {sa ra:List Addr} {hs:List Int} {rs rows:List (List Int)} (P:zcG B p ph ps pr sa ra hs rs rows H):LL K H pr rows:=⟨ra,SqL.of P.at_r,P.rl,P.r_at⟩
theorem zcG.nd {B H:Hp} {p ph ps pr:Addr} {sa ra:List Addr} {hs:List Int} {rs rows:List (List Int)} (P:zcG B p ph ps pr sa ra hs rs rows H):(ph::ps::sa).Nodup:=by
 have h:=P.apart
 simp only [List.nodup_cons,List.mem_cons,List.mem_append,not_or,List.nodup_append] at h ⊢
 exact ⟨⟨h.2.1.1,h.2.1.2.2.1⟩,h.2.2.1.2.1,h.2.2.2.2.1⟩
def stB (hB lB:Nat→Int) (c i:Nat):List (List Int):=(List.range c).map fun j=>[hB j,if j < i then lB j else 0]
theorem zdB {hB lB:Nat→Int} {c i j:Nat} (h:j < c):(stB hB lB c i).getD j []=[hB j,if j < i then lB j else 0]:=zau h
theorem zcg {hB lB:Nat→Int} {c i:Nat}:(stB hB lB c i).length=c:=by unfold stB;rw [List.length_map,List.length_range]
theorem zh3 {least:Int} {c:Nat} {hB lB:Nat→Int} {hs:List Int} {rows:List (List Int)} (c2:2≤c) (c8:c≤8) (l0:least≤hs.length) (l1:hs.length≤10) (hl:rows.length=hs.length) (hP:∀ i,i < hs.length→PRow c hB (hs.getD i 0) (rows.getD i []))
  (hh:∀ j,j < c→0≤hB j∧hB j≤6) (hlim:∀ j,j < c→(cntB rows (0+(j:Int)+1):Int)≤lB j∧lB j≤30):zgF least hs (stB hB lB c c) rows:=by
 refine ⟨⟨l1,by rw [zcg];exact c8,fun i hi=>(hP i hi).rng,fun i hi=>?_,fun i hi=>?_,fun i hi=>?_⟩,by rw [zcg];exact c2,hl,l0,fun i hi=>?_,?_⟩
 ·rw [zcg] at hi;rw [zdB hi];rfl
 ·rw [zcg] at hi;rw [zdB hi];exact hh i hi
 ·rw [zcg] at hi;rw [zdB hi,if_pos hi]
  have:=hlim i hi
  show 0≤lB i∧lB i≤30
  omega
 ·obtain ⟨⟨x,y,_,_,e,_⟩,_⟩:=hP i (by omega)
  rw [e];rfl
 ·unfold zaS
  rw [decide_eq_true hl,Bool.true_and,za8 (fun k hk=>(hP k hk).pair zcg fun j hj=>by rw [zdB hj];rfl),Bool.true_and]
  refine za8 fun k hk=>decide_eq_true ?_
  rw [zcg] at hk
  rw [zdB hk,if_pos hk]
  exact (hlim k hk).1
def zcT (K:PySem.W.Frag):Sp:=fun vs H Q _=>vs.length=3∧∃ (a:Addr) (ns:List Int) (first least:Int),vs=[.ref a,.int first,.int least]∧SqL K H a (ns.map V.int)∧ns.length≤63∧0≤least∧least≤10 ∧
 ∀ (p ph ps pr:Addr) (sa ra:List Addr) (hs:List Int) (rs rows:List (List Int)) (H2:Hp),zcG H p ph ps pr sa ra hs rs rows H2→zgF least hs rs rows→Q (.ref p) H2
theorem zeP (T:Txt K mg t):FnOk P w K mg base CX0 2 t.f_law_planted t.d_law_planted ["_law_script","_law_first","_law_least"] (zcT K):=by
 have G_law_at:=zgb (P:=P) (w:=w) (base:=base) T
 refine T.F_law_planted.ok sc_law_planted (fun vs H Q E h=>?_) (fun cdv A outer s H vs Q E hr h=>?_)
 ·exact (by obtain ⟨h,_⟩:=h;exact h)
 have TERM:∃ t',PSs (cxOf CX0 P w K mg base ["_law_script","_law_first","_law_least","_law_shape","_law_count","_law_few","_law_spare_here","_law_staff","_law_homes","_law_rows_here","_law_k","_law_cell","_law_one","_law_two","_law_fit","_law_used"] "_law_planted" (zab s_law_planted) t.f_law_planted cdv A outer s H E).nox (zae s_law_planted) t'∧t' ⟨fun _ H'=>Q .non H',Q,fun _ _=>False,fun _ _=>False⟩ (start ["_law_script","_law_first","_law_least","_law_shape","_law_count","_law_few","_law_spare_here","_law_staff","_law_homes","_law_rows_here","_law_k","_law_cell","_law_one","_law_two","_law_fit","_law_used"] vs) H:=by
  refine ⟨_,(zac (zaF (i:=3) sc_law_planted.nd rfl (by first | exact Or.inl rfl | exact Or.inr rfl) (zao (G_law_at) (hr.mono (by decide)) (by rfl) T.m_law_at T.F_law_at.kp T.b_law_at .nil zav (zaa (pv 0) (zaa (pv 1) pa_nil))))
   (zac (zaF (i:=4) sc_law_planted.nd rfl (by first | exact Or.inl rfl | exact Or.inr rfl) (zaw (op_addG) zaf (zaw (op_mod) (pv 3) zaf)))
   (zac (zaF (i:=5) sc_law_planted.nd rfl (by first | exact Or.inl rfl | exact Or.inr rfl) (zaH (zai (K:=K) rfl) (zaP (zaa zaf (zaa zaf (zaa zaf pa_nil)))) (zaw (op_mod) (zaw (op_fdivB) (pv 3) zaf) zaf) (fun _ _=>rfl)))
   (zac (zaF (i:=6) sc_law_planted.nd rfl (by first | exact Or.inl rfl | exact Or.inr rfl) (zaH (zai (K:=K) rfl) (zaP (zaa zaf (zaa zaf (zaa zaf pa_nil)))) (zaw (op_mod) (zaw (op_fdivB) (pv 3) zaf) zaf) (fun _ _=>rfl)))
   (zac (zaF (i:=7) sc_law_planted.nd rfl (by first | exact Or.inl rfl | exact Or.inr rfl) (zaW (zap (sc:=zab s_law_planted) (XN:=["_law_script","_law_first","_law_least","_law_shape","_law_count","_law_few","_law_spare_here","_law_staff","_law_homes","_law_rows_here","_law_k","_law_cell","_law_one","_law_two","_law_fit","_law_used"]) (N:=["_law_k","_law_script","_law_first","_law_few"]) (own:=1) (js:=[0,1,5]) rfl rfl (by decide +kernel)) rfl (za5 (by rfl) T.z_range (zaa (pv 4) pa_nil)) (fun _ _ _ _ _=>(zaq (i:=0) (show List.Nodup [(Str.ofString "_law_k"),(Str.ofString "_law_script"),(Str.ofString "_law_first"),(Str.ofString "_law_few")] by decide +kernel) rfl (by first | exact Or.inl rfl | exact Or.inr rfl))) (fun _ _ _ _ _=>za9) (fun _ _ _ _ _=>(zaP (zaa (zaw (op_mod) (zaw (op_mod) (zao (G_law_at) (hr.mono (by decide)) (by rfl) T.m_law_at T.F_law_at.kp T.b_law_at .nil zav (zaa (pv 1) (zaa (zaw (op_addG) (zaw (op_addG) (pv 2) zaf) (pv 0)) pa_nil))) zaf) (zaw (op_addG) (pv 3) zaf)) (zaa zaf pa_nil))))))
   (zac (zaF (i:=8) sc_law_planted.nd rfl (by first | exact Or.inl rfl | exact Or.inr rfl) (zaP pa_nil))
   (zac (zaF (i:=9) sc_law_planted.nd rfl (by first | exact Or.inl rfl | exact Or.inr rfl) (zaP pa_nil))
   (zac (za2 PassesOwn.never rfl (za5 (by rfl) T.z_range (zaa (zaw (op_addG) (pv 2) (zaw (op_mod) (zao (G_law_at) (hr.mono (by decide)) (by rfl) T.m_law_at T.F_law_at.kp T.b_law_at .nil zav (zaa (pv 0) (zaa (zaw (op_addG) (pv 1) zaf) pa_nil))) (zaw (op_sub) zaf (pv 2)))) pa_nil)) (zaq (i:=10) sc_law_planted.nd rfl (by first | exact Or.inl rfl | exact Or.inr rfl))
   (zac (zaF (i:=11) sc_law_planted.nd rfl (by first | exact Or.inl rfl | exact Or.inr rfl) (zao (G_law_at) (hr.mono (by decide)) (by rfl) T.m_law_at T.F_law_at.kp T.b_law_at .nil zav (zaa (pv 0) (zaa (zaw (op_addG) (zaw (op_addG) (pv 1) zaf) (pv 10)) pa_nil))))
   (zac (zaF (i:=12) sc_law_planted.nd rfl (by first | exact Or.inl rfl | exact Or.inr rfl) (zaw (op_mod) (pv 11) (pv 4)))
   (zac (zaF (i:=13) sc_law_planted.nd rfl (by first | exact Or.inl rfl | exact Or.inr rfl) (zaw (op_mod) (zaw (op_addG) (zaw (op_addG) (pv 12) zaf) (zaw (op_mod) (zaw (op_fdivB) (pv 11) zaf) (zaw (op_sub) (pv 4) zaf))) (pv 4)))
   (zac (zdw (i:=14) sc_law_planted.nd rfl (Or.inl rfl) (by rfl) (zap (sc:=zab s_law_planted) (XN:=["_law_script","_law_first","_law_least","_law_shape","_law_count","_law_few","_law_spare_here","_law_staff","_law_homes","_law_rows_here","_law_k","_law_cell","_law_one","_law_two","_law_fit","_law_used"]) (N:=["_law_h","_law_staff","_law_one","_law_two"]) (own:=1) (js:=[7,12,13]) rfl rfl (by decide +kernel)) rfl (zbl (by rfl) T.z_range (zaa zaf (zaa zaf pa_nil))) (fun _ _ _ _ _=>(zaq (i:=0) (show List.Nodup [(Str.ofString "_law_h"),(Str.ofString "_law_staff"),(Str.ofString "_law_one"),(Str.ofString "_law_two")] by decide +kernel) rfl (by first | exact Or.inl rfl | exact Or.inr rfl))) (fun _ _ _ _ _=>(zcy (zkw (zay (zcS (K:=K) rfl hr.units0) (pv 0) (zaH (zai (K:=K) rfl) (zaH (zai (K:=K) rfl) (pv 1) (pv 2) (fun _ _=>rfl)) zaf (fun _ _=>rfl)) (zaJ _)) (ziq (zay (zcS (K:=K) rfl hr.units0) (pv 0) (zaH (zai (K:=K) rfl) (zaH (zai (K:=K) rfl) (pv 1) (pv 3) (fun _ _=>rfl)) zaf (fun _ _=>rfl)) (zaJ _)))).pt)) (fun _ _ _ _ _=>(pv 0)))
   (zac (zaV (zay (op_lt) (pv 5) zaf (zaJ _))
   (zad (zaF (i:=14) sc_law_planted.nd rfl (by first | exact Or.inl rfl | exact Or.inr rfl) (zdb (zdd (K:=K) rfl) (pv 14) po_none (zea zaf)))) pss_nil)
   (zac (zaM (zbW (K:=K) rfl PySem.F.plainAttrs_list PySem.F.slot_list_append PySem.F.type_list_append mt_append (pv 8) (zaa (zaH (zai (K:=K) rfl) (pv 14) (zaw (op_mod) (zaw (op_fdivB) (pv 11) zaf) (zah (zak (K:=K) rfl) (by rfl) T.z_len (by rfl) (zaa (pv 14) pa_nil))) (fun _ _=>rfl)) pa_nil)))
   (zad (zaM (zbW (K:=K) rfl PySem.F.plainAttrs_list PySem.F.slot_list_append PySem.F.type_list_append mt_append (pv 9) (zaa (zaP (zaa (zaw (op_addG) (zah (zdy rfl) (by rfl) T.z_min (by rfl) (zaa (pv 12) (zaa (pv 13) pa_nil))) zaf) (zaa (zaw (op_addG) (zah (zhP rfl) (by rfl) T.z_max (by rfl) (zaa (pv 12) (zaa (pv 13) pa_nil))) zaf) pa_nil))) pa_nil)))))))))))
   (zac (za2 PassesOwn.never rfl (za5 (by rfl) T.z_range (zaa (pv 4) pa_nil)) (zaq (i:=10) sc_law_planted.nd rfl (by first | exact Or.inl rfl | exact Or.inr rfl))
   (zac (zaF (i:=15) sc_law_planted.nd rfl (by first | exact Or.inl rfl | exact Or.inr rfl) (zah (zak (K:=K) rfl) (by rfl) T.z_len (by rfl) (zaa (zaW (zap (sc:=zab s_law_planted) (XN:=["_law_script","_law_first","_law_least","_law_shape","_law_count","_law_few","_law_spare_here","_law_staff","_law_homes","_law_rows_here","_law_k","_law_cell","_law_one","_law_two","_law_fit","_law_used"]) (N:=["_law_row_here","_law_k"]) (own:=1) (js:=[10]) rfl rfl (by decide +kernel)) rfl (zaE (K:=K) rfl (pv 9)) (fun _ _ _ _ _=>(zaq (i:=0) (show List.Nodup [(Str.ofString "_law_row_here"),(Str.ofString "_law_k")] by decide +kernel) rfl (by first | exact Or.inl rfl | exact Or.inr rfl))) (fun _ _ _ _ _=>(zcy (zay (ze7 (K:=K) rfl (zeN hr)) (zaw (op_addG) (pv 1) zaf) (pv 0) (by with_unfolding_all rfl)))) (fun _ _ _ _ _=>(pv 0))) pa_nil)))
   (zad (zl7 (zah (zdy rfl) (by rfl) T.z_min (by rfl) (zaa zaf (zaa (zaw (op_addG) (pv 15) (zaw (op_mod) (zaw (op_fdivB) (zao (G_law_at) (hr.mono (by decide)) (by rfl) T.m_law_at T.F_law_at.kp T.b_law_at .nil zav (zaa (pv 0) (zaa (zaw (op_addG) (zaw (op_addG) (pv 1) zaf) (pv 10)) pa_nil))) zaf) (pv 6))) pa_nil))) (zl6 (zaH (zai (K:=K) rfl) (pv 7) (pv 10) (fun _ _=>rfl)) zaf set_list)))))
   (zad (zaj (zaP (zaa (pv 8) (zaa (pv 7) (zaa (pv 9) pa_nil))))))))))))))),?_⟩
  obtain ⟨_,a,ns,first,least,rfl,hS,hl,l0,l1,q⟩:=h
  walk_at "rd"
  generalize hsh:zbA ns first=shape
  refine zax (by decide) fun p1 H1 f1 s1 e1=>?_
  have hS1:=s1.seq hS
  walk_at "rd"
  have hfew:=few3 (k:=shape / 7 % 3) (by omega) (by omega)
  refine zhM (SqL.of e1) (zcM (ns:=[6,2,3]) (by omega) (by simp only [List.length_cons,List.length_nil];omega)) ?_
  generalize ([6,2,3]:List Int).getD (shape / 7 % 3).toNat 0=few at hfew ⊢
  walk_at "rd"
  refine zax (by decide) fun p1' H1' f1' s1' e1'=>?_
  have hS1':=s1'.seq hS1
  walk_at "rd"
  have hspare:=zmW (k:=shape / 21 % 3) (by omega) (by omega)
  refine zhM (SqL.of e1') (zcM (ns:=[31,1,2]) (by omega) (by simp only [List.length_cons,List.length_nil];omega)) ?_
  generalize ([31,1,2]:List Int).getD (shape / 21 % 3).toNat 0=spare at hspare ⊢
  obtain ⟨c,hc⟩:∃ c:Nat,2+shape % 7=(c:Int):=⟨(2+shape % 7).toNat,by omega⟩
  have c2:2≤c:=by omega
  have c8:c≤8:=by omega
  rw [hc]
  walk_at "rd"
  refine zcl (by omega) (by omega) ?_
  have ecN:((c:Int)).toNat=c:=by omega
  rw [ecN]
  refine zhO (zbG _ _ _) (za0 (by omega)) (fun i=>[.int (zbA ns (first+2+(0+(i:Int))) % 7 % (few+1)),.int 0]) (fun i H' Q' hi s q'=>?_) fun ps sa H2 f2 s2 hsl hps hsa snd=>?_
  ·have hS':=s.seq hS1'
   walk_at "rd"
   exact ⟨Nat.le_of_lt (za0 (by simp)),q'⟩
  generalize hhB:(fun i:Nat=>zbA ns (first+2+(0+(i:Int))) % 7 % (few+1))=hB
  have hhb:∀ j:Nat,zbA ns (first+2+(0+(j:Int))) % 7 % (few+1)=hB j:=fun j=>by rw [← hhB]
  have hBr:∀ j,0≤hB j∧hB j≤6:=fun j=>by
   rw [← hhb]
   have:=Int.emod_nonneg (zbA ns (first+2+(0+(j:Int))) % 7) (show few+1≠0 by omega)
   have:=Int.emod_lt_of_pos (zbA ns (first+2+(0+(j:Int))) % 7) (show 0 < few+1 by omega)
   omega
  have s02:Same H H2:=(s1.trans s1').trans s2
  have s01:Same H H1':=s1.trans s1'
  have hS2:=s2.seq hS1'
  have hsa':∀ j,j < c→H2 (sa.getD j 0)=some (.lst [.int (hB j),.int 0]):=fun j hj=>by rw [← hhb];exact (hsa j hj).1
  walk_at "rd"
  refine zax (by decide) fun ph H3 f3 s3 e3=>?_
  walk_at "rd"
  refine zax (by decide) fun pr H4 f4 s4 e4=>?_
  have hS4:=s4.seq (s3.seq hS2)
  have s24:Same H2 H4:=s3.trans s4
  have npr:ph≠pr:=zag e3 f4
  have f4':H2 pr=none:=s3.free f4
  walk_at "rd"
  have hm1:=Int.emod_nonneg (zbA ns (first+1)) (show 11-least≠0 by omega)
  have hm2:=Int.emod_lt_of_pos (zbA ns (first+1)) (show 0 < 11-least by omega)
  refine zcl (by omega) (by omega) ?_
  obtain ⟨n,hn⟩:∃ n:Nat,least+zbA ns (first+1) % (11-least)=(n:Int):=⟨(least+zbA ns (first+1) % (11-least)).toNat,by omega⟩
  rw [hn]
  have enN:((n:Int)).toNat=n:=by omega
  rw [enN]
  have n10:n≤10:=by omega
  refine zbI (fun i σ H'=>∃ v10 v11 v12 v13 v14 hs rows ra,σ=[some (.ref a),some (.int first),some (.int least),some (.int shape),some (.int c),some (.int few),some (.int spare),some (.ref ps),some (.ref ph),some (.ref pr),v10,v11,v12,v13,v14,none] ∧
   Same H2 H'∧hs.length=i∧rows.length=i∧H' ph=some (.lst (hs.map V.int))∧H' pr=some (.lst (ra.map V.ref))∧ra.length=i∧ra.Nodup∧(∀ j,j < i→H' (ra.getD j 0)=some (.lst ((rows.getD j []).map V.int))∧H2 (ra.getD j 0)=none∧ra.getD j 0≠pr∧ra.getD j 0≠ph)∧(∀ j,j < i→PRow c hB (hs.getD j 0) (rows.getD j [])))
   ⟨none,none,none,none,none,[],[],[],rfl,s24,rfl,rfl,s4 _ _ e3,e4,rfl,List.nodup_nil,fun j hj=>absurd hj (by omega),fun j hj=>absurd hj (by omega)⟩ ?_ ?_
  ·rintro i σ H' hi ⟨v10,v11,v12,v13,v14,hs,rows,ra,rfl,s',lh,lr,hph,hpr,lra,ndr,hra,hP⟩
   have hS':=s'.seq hS2
   have hps':=s' _ _ hps
   have ho1:=Int.emod_nonneg (zbA ns (first+10+(0+(i:Int)))) (show (c:Int)≠0 by omega)
   have ho2:=Int.emod_lt_of_pos (zbA ns (first+10+(0+(i:Int)))) (show 0 < (c:Int) by omega)
   have hq1:=Int.emod_nonneg (zbA ns (first+10+(0+(i:Int))) / 8) (show (c:Int)-1≠0 by omega)
   have hq2:=Int.emod_lt_of_pos (zbA ns (first+10+(0+(i:Int))) / 8) (show 0 < (c:Int)-1 by omega)
   walk_at "rd"
   generalize zbA ns (first+10+(0+(i:Int)))=cell at ho1 ho2 hq1 hq2 ⊢
   generalize cell % (c:Int)=one at ho1 ho2 ⊢
   generalize cell / 8 % ((c:Int)-1)=gap at hq1 hq2 ⊢
   have ht:(one+1+gap) % (c:Int)=if one+1+gap < c then one+1+gap else one+1+gap-c:=by
    split
    ·exact Int.emod_eq_of_lt (by omega) (by omega)
    ·rw [← Int.sub_emod_right]
     exact Int.emod_eq_of_lt (by omega) (by omega)
   have ht1:0≤(one+1+gap) % (c:Int)∧(one+1+gap) % (c:Int) < c∧(one+1+gap) % (c:Int)≠one:=by
    rw [ht];split <;> omega
   generalize (one+1+gap) % (c:Int)=two at ht1 ⊢
   obtain ⟨ht1,ht2,ht3⟩:=ht1
   have h1':=s' _ _ (hsa' one.toNat (by omega))
   have h2':=s' _ _ (hsa' two.toNat (by omega))
   walk_at "rd"
   refine zde ⟨by omega,by omega,by omega,by omega⟩ ?_
   refine zfU (zbG _ _ _) (by decide) (fun i=>!decide (1+(i:Int)=hB one.toNat) && !decide (1+(i:Int)=hB two.toNat)) (fun i=>1+(i:Int)) (fun i H5 Q' hi s5 q'=>?_) (fun i H5 Q' hi s5 hc q'=>?_) fun pf H5 f5 s5 e5=>?_
   ·have hps5:=s5 _ _ hps'
    have h15:=s5 _ _ h1'
    have h25:=s5 _ _ h2'
    walk_at "rd"
    refine ziY (d:=!decide (1+(i:Int)=hB two.toNat)) (fun _ Q3 q3=>?_) q'
    walk_at "rd"
    exact q3
   ·walk_at "rd"
    exact q'
   change H5 pf=some (.lst ((fitB (hB one.toNat) (hB two.toNat)).map V.int)) at e5
   have hS5:=s5.seq hS'
   walk_at "rd"
   refine zmy (fun σ' H6=>∃ (pf:Addr) (fs:List Int),σ'=[some (.ref a),some (.int first),some (.int least),some (.int shape),some (.int c),some (.int few),some (.int spare),some (.ref ps),some (.ref ph),some (.ref pr),some (.int (0+(i:Int))),some (.int cell),some (.int one),some (.int two),some (.ref pf),none]∧Same H' H6 ∧
    H6 pf=some (.lst (fs.map V.int))∧0 < fs.length∧fs.length≤6∧∀ x∈fs,x∈fitB (hB one.toNat) (hB two.toNat)) (fun _ nx hnx=>?_) (fun _ nx hnx=>?_) ?_
   ·walk_at "rd"
    refine zb7 (SqL.of e5) fun pg H6 f6 s6 e6=>?_
    have e2:cutV ((fitB (hB one.toNat) (hB two.toNat)).map V.int) none (some 2)=((fitB (hB one.toNat) (hB two.toNat)).take 2).map V.int:=by
     rw [show (some (2:Int))=some ((2:Nat):Int) from rfl,zgD,List.map_take]
    rw [e2] at e6
    have l1:=zhj (hB one.toNat) (hB two.toNat)
    refine hnx _ _ ⟨pg,_,rfl,s5.trans s6,e6,by rw [List.length_take];omega,by rw [List.length_take];omega,fun x hx=>List.mem_of_mem_take hx⟩
   ·walk_at "rd"
    exact hnx _ _ ⟨pf,_,rfl,s5,e5,zhj _ _,zlE _ _,fun x hx=>hx⟩
   clear e5 hS5 s5 f5
   rintro σ' H6 ⟨pf,fs,rfl,s6,e6,lf1,lf2,hfs⟩
   have hm1:=Int.emod_nonneg (cell / 64) (show (fs.length:Int)≠0 by omega)
   have hm2:=Int.emod_lt_of_pos (cell / 64) (show (0:Int) < fs.length by omega)
   have hph6:=s6 _ _ hph
   have hpr6:=s6 _ _ hpr
   walk_at "rd"
   have hh:=hfs _ (getD_mem (d:=0) (show (cell / 64 % (fs.length:Int)).toNat < fs.length by omega))
   generalize fs.getD (cell / 64 % (fs.length:Int)).toNat 0=hou at hh ⊢
   obtain ⟨g1,g2,g3,g4⟩:=zj3 hh
   refine zaT hph6 (by rw [List.length_map];omega) fun H7 b7 e7=>?_
   have hpr7:H7 pr=some (.lst (ra.map V.ref)):=by rw [b7 _ npr.symm];exact hpr6
   have s7:Same H2 H7:=(s'.trans s6).but b7 f3
   walk_at "rd"
   refine zax (by simp) fun pw H8 f8 s8 e8=>?_
   walk_at "rd"
   refine zaT (s8 _ _ hpr7) (by rw [List.length_map];omega) fun H9 b9 e9=>?_
   walk_at "rd"
   have s9:Same H2 H9:=(s7.trans s8).but b9 f4'
   have npw:pw≠pr:=(zag hpr7 f8).symm
   have npw2:pw≠ph:=(zag e7 f8).symm
   refine ⟨_,_,_,_,_,hs++[hou],rows++[[(if two < one then two else one)+1,(if two > one then two else one)+1]],ra++[pw],rfl,s9,by simp [lh],by simp [lr],?_,by rw [e9,List.map_append];rfl,by simp [lra],?_,fun j hj=>?_,fun j hj=>?_⟩
   ·rw [b9 _ npr,List.map_append]
    exact s8 _ _ e7
   ·refine List.nodup_append.mpr ⟨ndr,by simp,fun x hx y hy=>?_⟩
    have hy':y=pw:=by simpa using hy
    subst hy'
    obtain ⟨k,hk,ek⟩:=mem_getD (d:=0) hx
    have hrk:=hra k (by omega)
    rw [ek] at hrk
    exact zag (show H7 x=_ by rw [b7 _ hrk.2.2.2];exact s6 _ _ hrk.1) f8
   ·by_cases hlt:j < i
    ·obtain ⟨r1,r2,r3,r4⟩:=hra j hlt
     rw [zaB (by omega),zaB (by omega)]
     refine ⟨?_,r2,r3,r4⟩
     rw [b9 _ r3]
     refine s8 _ _ ?_
     rw [b7 _ r4]
     exact s6 _ _ r1
    ·have ej:j=i:=by omega
     subst ej
     have ea:(ra++[pw]).getD j 0=pw:=by rw [← lra];exact zaC
     have eb:(rows++[[(if two < one then two else one)+1,(if two > one then two else one)+1]]).getD j []=[(if two < one then two else one)+1,(if two > one then two else one)+1]:=by rw [← lr];exact zaC
     rw [ea,eb]
     refine ⟨?_,s7.free f8,npw,npw2⟩
     rw [b9 _ npw]
     exact e8
   ·by_cases hlt:j < i
    ·rw [zaB (by omega),zaB (by omega)]
     exact hP j hlt
    ·have ej:j=i:=by omega
     subst ej
     have ea:(hs++[hou]).getD j 0=hou:=by rw [← lh];exact zaC
     have eb:(rows++[[(if two < one then two else one)+1,(if two > one then two else one)+1]]).getD j []=[(if two < one then two else one)+1,(if two > one then two else one)+1]:=by rw [← lr];exact zaC
     rw [ea,eb]
     by_cases hlt2:two < one
     ·rw [if_pos hlt2,if_neg (by omega)]
      exact ⟨⟨two.toNat,one.toNat,by omega,by omega,by rw [Int.toNat_of_nonneg ht1,Int.toNat_of_nonneg ho1],g4,g3⟩,g1,g2⟩
     ·rw [if_neg hlt2,if_pos (by omega)]
      exact ⟨⟨one.toNat,two.toNat,by omega,by omega,by rw [Int.toNat_of_nonneg ht1,Int.toNat_of_nonneg ho1],g3,g4⟩,g1,g2⟩
  rintro σ H5 ⟨v10,v11,v12,v13,v14,hs,rows,ra,rfl,s5,lh,lr,hph,hpr,lra,ndr,hra,hP⟩
  walk_at "rd"
  refine zcl (by omega) (by omega) ?_
  rw [ecN]
  generalize hlB:(fun j:Nat=>if (cntB rows (0+(j:Int)+1):Int)+zbA ns (first+2+(0+(j:Int))) / 7 % spare < 30 then (cntB rows (0+(j:Int)+1):Int)+zbA ns (first+2+(0+(j:Int))) / 7 % spare else 30)=lB
  have hlb:∀ j:Nat,(if (cntB rows (0+(j:Int)+1):Int)+zbA ns (first+2+(0+(j:Int))) / 7 % spare < 30 then (cntB rows (0+(j:Int)+1):Int)+zbA ns (first+2+(0+(j:Int))) / 7 % spare else 30)=lB j:=fun j=>by rw [← hlB]
  have hlim:∀ j,j < c→(cntB rows (0+(j:Int)+1):Int)≤lB j∧lB j≤30:=fun j _=>by
   have h1:=Int.emod_nonneg (zbA ns (first+2+(0+(j:Int))) / 7) (show spare≠0 by omega)
   have h2:=zlF rows (0+(j:Int)+1)
   rw [← hlb]
   split <;> omega
  have inS:∀ b,b∈sa→∃ j,j < c∧sa.getD j 0=b:=fun b hb=>by
   obtain ⟨k,hk,ek⟩:=mem_getD (d:=0) hb
   exact ⟨k,by omega,ek⟩
  have nS:∀ b,H2 b=none→b∉sa:=fun b hb z=>by
   obtain ⟨k,hk,ek⟩:=inS b z
   have:=hsa' k hk
   rw [ek,hb] at this
   cases this
  have oldS:∀ b o,H b=some o→b∉sa:=fun b o hb z=>by
   obtain ⟨k,hk,ek⟩:=inS b z
   have:=s01.free (hsa k hk).2.1
   rw [ek,hb] at this
   cases this
  have psS:ps∉sa:=fun z=>by
   obtain ⟨k,hk,ek⟩:=inS ps z
   exact (hsa k hk).2.2 ek
  have raS:∀ j,j < n→ra.getD j 0∉sa:=fun j hj=>nS _ (hra j hj).2.1
  refine zbI (fun i σ H'=>∃ v10 v15,σ=[some (.ref a),some (.int first),some (.int least),some (.int shape),some (.int c),some (.int few),some (.int spare),some (.ref ps),some (.ref ph),some (.ref pr),v10,v11,v12,v13,v14,v15] ∧
   (∀ b o,b∉sa→H5 b=some o→H' b=some o)∧∀ j,j < c→H' (sa.getD j 0)=some (.lst [.int (hB j),.int (if j < i then lB j else 0)])) ⟨v10,none,rfl,fun b o _ e=>e,fun j hj=>by rw [if_neg (by omega)];exact s5 _ _ (hsa' j hj)⟩ ?_ ?_
  ·rintro i σ H' hi ⟨v10,v15,rfl,kp,hst⟩
   have sH:Same H H':=fun b o e=>kp b o (oldS b o e) ((s02.trans s5) b o e)
   have hS':=sH.seq hS
   have hps':=kp _ _ psS (s5 _ _ hps)
   have hpr':=kp _ _ (nS _ f4') hpr
   walk_at "rd"
   refine zaO (SqL.of hpr') ?_
   refine zd5 (rows:=rows) (x:=0+(i:Int)+1) (SqL.of hpr') (by omega) (by omega) (fun j H6 Q' hj s6 q'=>?_) fun pz H6 zs f6 s6 e6 z6=>?_
   ·have hrj:=s6 _ _ (kp _ _ (raS j (by omega)) (hra j (by omega)).1)
    walk_at "rd"
    exact q'
   have hS6:=s6.seq hS'
   have hps6:=s6 _ _ hps'
   walk_at "rd"
   rw [z6]
   have ei:(0+(i:Int)).toNat=i:=by omega
   rw [hlb i,ei]
   have hi6:=s6 _ _ (hst i hi)
   refine zhi hi6 (by decide) (by simp) fun H7 b7 e7=>?_
   have en7:∀ j,j < c→j≠i→sa.getD j 0≠sa.getD i 0:=fun j hj hji z=>hji (by
    have h1:sa[j]? = some (sa.getD j 0):=by rw [List.getD_eq_getElem?_getD,List.getElem?_eq_getElem (by omega)];rfl
    have h2:sa[i]? = some (sa.getD i 0):=by rw [List.getD_eq_getElem?_getD,List.getElem?_eq_getElem (by omega)];rfl
    rw [z] at h1
    obtain ⟨a1,a2⟩:=List.getElem?_eq_some_iff.mp h1
    obtain ⟨b1,b2⟩:=List.getElem?_eq_some_iff.mp h2
    exact (List.getElem_inj snd).mp (a2.trans b2.symm))
   refine ⟨_,_,rfl,fun b o hb e=>?_,fun j hj=>?_⟩
   ·rw [b7 _ (fun z=>hb (by rw [z];exact getD_mem (by omega)))]
    exact s6 _ _ (kp b o hb e)
   ·by_cases e:j=i
    ·subst e
     rw [e7,if_neg (Nat.lt_irrefl j),if_pos (Nat.lt_succ_self j)]
     rfl
    ·rw [b7 _ (en7 j hj e),s6 _ _ (hst j hj)]
     by_cases hlt:j < i
     ·rw [if_pos hlt,if_pos (by omega)]
     ·rw [if_neg hlt,if_neg (by omega)]
  rintro σ H6 ⟨v10',v15,rfl,kp,hst⟩
  have sH:Same H H6:=fun b o e=>kp b o (oldS b o e) ((s02.trans s5) b o e)
  have hps6:=kp _ _ psS (s5 _ _ hps)
  have hpr6:=kp _ _ (nS _ f4') hpr
  have hph6:=kp _ _ (nS _ f3) hph
  have hra6:∀ j,j < n→H6 (ra.getD j 0)=some (.lst ((rows.getD j []).map V.int)):=fun j hj=>kp _ _ (raS j hj) (hra j hj).1
  walk_at "rd"
  refine zax (by simp) fun p H7 f7 s7 e7=>?_
  have hrlen:rows.length=n:=lr
  refine q p ph ps pr sa ra hs (stB hB lB c c) rows H7 ⟨sH.trans s7,e7,s7 _ _ hph6,s7 _ _ hps6,s7 _ _ hpr6,by rw [zcg];omega,by omega,fun j hj=>?_,fun j hj=>s7 _ _ (hra6 j (by omega)),?_,fun b hb=>?_⟩ (zh3 c2 c8 (by omega) (by omega) (by omega) (fun j hj=>hP j (by omega)) (fun j _=>hBr j) hlim)
  ·rw [zcg] at hj
   rw [zdB hj]
   exact s7 _ _ (hst j hj)
  ·have inR:∀ b,b∈ra→∃ j,j < n∧ra.getD j 0=b:=fun b hb=>by
    obtain ⟨k,hk,ek⟩:=mem_getD (d:=0) hb
    exact ⟨k,by omega,ek⟩
   have nps:ps≠ph:=zag hps f3
   have nps2:ps≠pr:=zag hps f4'
   have nraps:∀ b∈ra,b≠ps:=fun b hb z=>by
    obtain ⟨k,hk,ek⟩:=inR b hb
    have:=(hra k hk).2.1
    rw [ek,z,hps] at this
    cases this
   refine List.nodup_cons.mpr ⟨fun z=>?_,List.nodup_cons.mpr ⟨fun z=>?_,List.nodup_cons.mpr ⟨fun z=>?_,List.nodup_cons.mpr ⟨fun z=>?_,List.nodup_append.mpr ⟨snd,ndr,fun x hx y hy=>?_⟩⟩⟩⟩⟩
   ·have:∃ o,H6 p=some o:=by
     rcases List.mem_cons.mp z with z | z
     ·exact ⟨_,z▸hph6⟩
     rcases List.mem_cons.mp z with z | z
     ·exact ⟨_,z▸hps6⟩
     rcases List.mem_cons.mp z with z | z
     ·exact ⟨_,z▸hpr6⟩
     rcases List.mem_append.mp z with z | z
     ·obtain ⟨k,hk,ek⟩:=inS p z
      exact ⟨_,ek▸hst k hk⟩
     ·obtain ⟨k,hk,ek⟩:=inR p z
      exact ⟨_,ek▸hra6 k hk⟩
    obtain ⟨o,ho⟩:=this
    rw [f7] at ho
    cases ho
   ·rcases List.mem_cons.mp z with z | z
    ·exact nps z.symm
    rcases List.mem_cons.mp z with z | z
    ·exact npr z
    rcases List.mem_append.mp z with z | z
    ·exact nS _ f3 z
    ·obtain ⟨k,hk,ek⟩:=inR ph z
     exact (hra k hk).2.2.2 ek
   ·rcases List.mem_cons.mp z with z | z
    ·exact nps2 z
    rcases List.mem_append.mp z with z | z
    ·exact psS z
    ·exact nraps ps z rfl
   ·rcases List.mem_append.mp z with z | z
    ·exact nS _ f4' z
    ·obtain ⟨k,hk,ek⟩:=inR pr z
     exact (hra k hk).2.2.1 ek
   ·rintro rfl
    obtain ⟨k,hk,ek⟩:=inR x hy
    exact raS k hk (by rw [ek];exact hx)
  ·rcases List.mem_cons.mp hb with z | z
   ·rw [z];exact sH.free f7
   rcases List.mem_cons.mp z with z | z
   ·rw [z];exact s02.free f3
   rcases List.mem_cons.mp z with z | z
   ·rw [z];exact s01.free f2
   rcases List.mem_cons.mp z with z | z
   ·rw [z];exact s02.free f4'
   rcases List.mem_append.mp z with z | z
   ·obtain ⟨k,hk,ek⟩:=inS b z
    rw [← ek]
    exact s01.free (hsa k hk).2.1
   ·obtain ⟨k,hk,ek⟩:=mem_getD (d:=0) z
    rw [← ek]
    exact s02.free (hra k (by omega)).2.1
 exact TERM
theorem zfx {H:Hp} {a:Addr} {ns:List Int} {first least:Int} {Q:VK} {E:XK} (h1:SqL K H a (ns.map V.int)) (h2:ns.length≤63) (l0:0≤least) (l1:least≤10)
  (q:∀ (p ph ps pr:Addr) (sa ra:List Addr) (hs:List Int) (rs rows:List (List Int)) (H2:Hp),zcG H p ph ps pr sa ra hs rs rows H2→zgF least hs rs rows→Q (.ref p) H2):zcT K [.ref a,.int first,.int least] H Q E:=⟨rfl,a,ns,first,least,rfl,h1,h2,l0,l1,q⟩
def zep (K:PySem.W.Frag):Sp:=fun vs H Q _=>vs.length=1∧∃ c:Int,vs=[.int c]∧∀ H',Same H H'→Q (.int (zgE c)) H'
theorem zgN (T:Txt K mg t):FnOk P w K mg base CX0 1 t.f_law_step t.d_law_step ["_law_cell"] (zep K):=by
 refine T.F_law_step.ok sc_law_step (fun vs H Q E h=>?_) (fun cdv A outer s H vs Q E hr h=>?_)
 ·exact (by obtain ⟨h,_⟩:=h;exact h)
 have TERM:∃ t',PSs (cxOf CX0 P w K mg base ["_law_cell"] "_law_step" (zab s_law_step) t.f_law_step cdv A outer s H E).nox (zae s_law_step) t'∧t' ⟨fun _ H'=>Q .non H',Q,fun _ _=>False,fun _ _=>False⟩ (start ["_law_cell"] vs) H:=by
  refine ⟨_,(zac (zaV (zay (zdj (K:=K) rfl hr.units0) (zaw (op_mod) (pv 0) zaf) zaf (zaJ _))
   (zad (zaj (zaw (op_mod) (zaw (op_fdivB) (pv 0) zaf) zaf))) pss_nil)
   (zac (zaV (zay (zdj (K:=K) rfl hr.units0) (zaw (op_mod) (pv 0) zaf) zaf (zaJ _))
   (zad (zaj (zaw (op_mod) (zaw (op_fdivB) (pv 0) zaf) zaf))) pss_nil)
   (zad (zaj (zaH (zai (K:=K) rfl) (zaP (zaa zaf (zaa zaf (zaa zaf (zaa zaf pa_nil))))) (zaw (op_mod) (zaw (op_fdivB) (pv 0) zaf) zaf) (fun _ _=>rfl)))))),?_⟩
  obtain ⟨_,c,rfl,q⟩:=h
  unfold zgE at q
  walk_at "rd"
  refine zct (fun h0=>?_) (fun h0=>?_)
  ·rw [if_pos h0] at q
   walk_at "rd"
   exact q _ (Same.refl _)
  ·rw [if_neg h0] at q
   walk_at "rd"
   refine zct (fun h1=>?_) (fun h1=>?_)
   ·rw [if_pos h1] at q
    walk_at "rd"
    exact q _ (Same.refl _)
   ·rw [if_neg h1] at q
    walk_at "rd"
    refine zax (by decide) fun p1 H1 f1 s1 e1=>?_
    walk_at "rd"
    refine zhM (SqL.of e1) (zcM (ns:=[0,1,99,100]) (by omega) (by simp only [List.length_cons,List.length_nil];omega)) ?_
    exact q _ s1
 exact TERM
theorem zh4 {H:Hp} {c:Int} {Q:VK} {E:XK} (q:∀ H',Same H H'→Q (.int (zgE c)) H'):zep K [.int c] H Q E:=⟨rfl,c,rfl,q⟩
def zcm (K:PySem.W.Frag) (C:Addr):Sp:=fun vs H Q _=>vs.length=1∧∃ (x dx:Addr),vs=[.ref x]∧H x=some (.ins C dx [])∧∀ H' F,(∀ b o,H b=some o→b≠x→b≠dx→H' b=some o)→(∀ b,F b→b=x∨b=dx∨H b=none)→ExAt C H' x F ⟨[],[],0,none⟩→Q .non H'
theorem zdW (T:Txt K mg t):FnOk P w K mg base CX0 1 t.f_Exam___init__ t.d_Exam___init__ ["self"] (zcm K t.C_Exam):=by
 refine T.F_Exam___init__.ok sc_Exam___init__ (fun vs H Q E h=>?_) (fun cdv A outer s H vs Q E hr h=>?_)
 ·exact (by obtain ⟨h,_⟩:=h;exact h)
 have TERM:∃ t',PSs (cxOf CX0 P w K mg base ["self"] "Exam.__init__" (zab s_Exam___init__) t.f_Exam___init__ cdv A outer s H E).nox (zae s_Exam___init__) t'∧t' ⟨fun _ H'=>Q .non H',Q,fun _ _=>False,fun _ _=>False⟩ (start ["self"] vs) H:=by
  refine ⟨_,(zac (zbt (K:=K) rfl (pv 0) (zaP pa_nil))
   (zac (zbt (K:=K) rfl (pv 0) (zaP pa_nil))
   (zac (zbt (K:=K) rfl (pv 0) zaf)
   (zac (zbt (K:=K) rfl (pv 0) za4)
   (zac (zbt (K:=K) rfl (pv 0) (zaP pa_nil))
   (zad (zbt (K:=K) rfl (pv 0) (zaP pa_nil)))))))),?_⟩
  obtain ⟨_,x,dx,rfl,hx,q⟩:=h
  have hcl:=T.cl_Exam
  have nA:=T.n_Exam_paper_houses
  have nB:=T.n_Exam_reader_rows
  have nS:=T.n_Exam_widest_step
  have nD:=T.n_Exam_is_dealt
  have nC:=T.n_Exam_named_readers
  have nE:=T.n_Exam_entered_points
  walk_at "rd"
  refine zax (by decide) fun a H1 f1 s1 e1=>?_
  have x1:=s1 _ _ hx
  walk_at "rd"
  refine za1 x1 hcl nA (Nat.lt_of_lt_of_le (show 0 < 1 by decide) (by decide)) fun H2 b2 x2=>?_
  have xa:=zag hx f1
  walk_at "rd"
  refine zax (by decide) fun b H3 f3 s3 e3=>?_
  have x3:=s3 _ _ x2
  walk_at "rd"
  have e2:H2 a=some (.lst []):=by rw [b2 _ xa.symm];exact e1
  have ab:=zag e2 f3
  have xb:=zag x2 f3
  refine za1 x3 hcl nB (Nat.lt_of_lt_of_le (zbE (show 0 < 1 by decide)) (by decide)) fun H4 b4 x4=>?_
  walk_at "rd"
  refine za1 x4 hcl nS (Nat.lt_of_lt_of_le (zbE (zbE (show 0 < 1 by decide))) (by decide)) fun H5 b5 x5=>?_
  walk_at "rd"
  refine za1 x5 hcl nD (Nat.lt_of_lt_of_le (zbE (zbE (zbE (show 0 < 1 by decide)))) (by decide)) fun H6 b6 x6=>?_
  walk_at "rd"
  refine zax (by decide) fun c H7 f7 s7 e7=>?_
  have x7:=s7 _ _ x6
  have a6:H6 a=some (.lst []):=by rw [b6 _ xa.symm,b5 _ xa.symm,b4 _ xa.symm];exact s3 _ _ e2
  have b6':H6 b=some (.lst []):=by rw [b6 _ xb.symm,b5 _ xb.symm,b4 _ xb.symm];exact e3
  have ac:=zag a6 f7
  have bc:=zag b6' f7
  have xc:=zag x6 f7
  walk_at "rd"
  refine za1 x7 hcl nC (Nat.lt_of_lt_of_le (zbE (zbE (zbE (zbE (show 0 < 1 by decide))))) (by decide)) fun H8 b8 x8=>?_
  have a8:H8 a=some (.lst []):=by rw [b8 _ xa.symm];exact s7 _ _ a6
  have b8':H8 b=some (.lst []):=by rw [b8 _ xb.symm];exact s7 _ _ b6'
  have c8:H8 c=some (.lst []):=by rw [b8 _ xc.symm];exact e7
  walk_at "rd"
  refine zax (by decide) fun d H9 f9 s9 e9=>?_
  have x9:=s9 _ _ x8
  have ad:=zag a8 f9
  have bd:=zag b8' f9
  have cd:=zag c8 f9
  have xd:=zag x8 f9
  walk_at "rd"
  refine za1 x9 hcl nE (Nat.lt_of_lt_of_le (zbE (zbE (zbE (zbE (zbE (show 0 < 1 by decide)))))) (by decide)) fun H10 b10 x10=>?_
  walk_at "rd"
  rw [exFs_mk] at x10
  have kp:∀ b o,H b=some o→b≠x→H10 b=some o:=fun z o h n=>by
   rw [b10 _ n]
   refine s9 _ _ ?_
   rw [b8 _ n]
   refine s7 _ _ ?_
   rw [b6 _ n,b5 _ n,b4 _ n]
   refine s3 _ _ ?_
   rw [b2 _ n]
   exact s1 _ _ h
  have nn:∀ b,H2 b=none→H b=none:=fun z h=>by
   cases hz:H z with
   | none=>rfl
   | some o =>
     by_cases n:z=x
     ·rw [n,x2] at h;cases h
     ·rw [b2 _ n,s1 _ _ hz] at h;cases h
  have nn6:∀ b,H6 b=none→H b=none:=fun z h=>nn z (by
   cases hz:H2 z with
   | none=>rfl
   | some o =>
     by_cases n:z=x
     ·rw [n,x6] at h;cases h
     ·rw [b6 _ n,b5 _ n,b4 _ n,s3 _ _ hz] at h;cases h)
  have nn8:∀ b,H8 b=none→H b=none:=fun z h=>nn6 z (by
   cases hz:H6 z with
   | none=>rfl
   | some o =>
     by_cases n:z=x
     ·rw [n,x8] at h;cases h
     ·rw [b8 _ n,s7 _ _ hz] at h;cases h)
  have J:ExIn t.C_Exam H10 ⟨x,dx,a,b,c,d,[],[],[]⟩ ⟨[],[],0,none⟩ []:=by
   refine ⟨x10,by show H10 a=_;rw [b10 _ xa.symm];exact s9 _ _ a8,by show H10 b=_;rw [b10 _ xb.symm];exact s9 _ _ b8',by show H10 c=_;rw [b10 _ xc.symm];exact s9 _ _ c8,by show H10 d=_;rw [b10 _ xd.symm];exact e9,rfl,rfl,rfl,fun i hi=>absurd hi (by simp),fun i hi=>absurd hi (by simp [ExS.nm]),fun i hi=>absurd hi (by simp [ExS.nm]),fun i hi=>absurd hi (by simp [ExS.nm]),fun i hi=>absurd hi (by simp [ExS.nm]),rfl,?_,⟨fun z=>(by cases z),fun k hk=>absurd hk (by simp [ExS.nm]),fun k r p z=>(by cases z),by decide⟩⟩
   unfold ExAd.own
   simp only [List.nodup_cons,List.mem_cons,List.append_nil,List.not_mem_nil,not_or,not_false_iff,List.nodup_nil,and_true]
   exact ⟨⟨xa,xb,xc,xd⟩,⟨ab,ac,ad⟩,⟨bc,bd⟩,cd⟩
  refine q H10 _ (fun z o h n _=>kp z o h n) (fun z h=>?_) J.at
  unfold ExAd.own at h
  simp only [List.mem_cons,List.append_nil,List.not_mem_nil,or_false] at h
  rcases h with h | h | h | h | h
  ·exact .inl h
  ·exact .inr (.inr (h▸f1))
  ·exact .inr (.inr (h▸nn _ f3))
  ·exact .inr (.inr (h▸nn6 _ f7))
  ·exact .inr (.inr (h▸nn8 _ f9))
 exact TERM
theorem zgO {K:PySem.W.Frag} {C x dx:Addr} {H:Hp} {Q:VK} {E:XK} (h:H x=some (.ins C dx [])) (q:∀ H' F,(∀ b o,H b=some o→b≠x→b≠dx→H' b=some o)→(∀ b,F b→b=x∨b=dx∨H b=none)→ExAt C H' x F ⟨[],[],0,none⟩→Q .non H'):zcm K C [.ref x] H Q E:=⟨rfl,x,dx,rfl,h,q⟩
def za7 (K:PySem.W.Frag) (C:Addr):Sp:=fun vs H Q _=>vs.length=1∧∃ (x:Addr) (F:Addr→Prop) (st:ExS),vs=[.ref x]∧ExAt C H x F st∧st.dl=none∧Q .non H
theorem zaI (T:Txt K mg t):FnOk P w K mg base CX0 1 t.f_Exam_refuse_behind_dealing t.d_Exam_refuse_behind_dealing ["self"] (za7 K t.C_Exam):=by
 refine T.F_Exam_refuse_behind_dealing.ok sc_Exam_refuse_behind_dealing (fun vs H Q E h=>?_) (fun cdv A outer s H vs Q E hr h=>?_)
 ·exact (by obtain ⟨h,_⟩:=h;exact h)
 have TERM:∃ t',PSs (cxOf CX0 P w K mg base ["self"] "Exam.refuse_behind_dealing" (zab s_Exam_refuse_behind_dealing) t.f_Exam_refuse_behind_dealing cdv A outer s H E).nox (zae s_Exam_refuse_behind_dealing) t'∧t' ⟨fun _ H'=>Q .non H',Q,fun _ _=>False,fun _ _=>False⟩ (start ["self"] vs) H:=by
  refine ⟨_,(zad (zaV (zas (K:=K) rfl (zaz (K:=K) rfl (pv 0)) (fun _=>rfl))
   (zad ps_never) pss_nil)),?_⟩
  obtain ⟨_,x,F,st,rfl,E0,hd,q⟩:=h
  obtain ⟨e,kvs,rfl,hF,I⟩:=E0
  have hcl:=T.cl_Exam
  have nA:=T.n_Exam_paper_houses
  have nB:=T.n_Exam_reader_rows
  have nS:=T.n_Exam_widest_step
  have nD:=T.n_Exam_is_dealt
  have nC:=T.n_Exam_named_readers
  have nE:=T.n_Exam_entered_points
  have hob:=I.ob
  have fA:=@exFs_a (.ref e.a) (.ref e.b) (.int st.step) (.bl st.dl.isSome) (.ref e.c) (.ref e.d)
  have fB:=@exFs_b (.ref e.a) (.ref e.b) (.int st.step) (.bl st.dl.isSome) (.ref e.c) (.ref e.d)
  have fS:=@exFs_s (.ref e.a) (.ref e.b) (.int st.step) (.bl st.dl.isSome) (.ref e.c) (.ref e.d)
  have fD:=@exFs_d (.ref e.a) (.ref e.b) (.int st.step) (.bl st.dl.isSome) (.ref e.c) (.ref e.d)
  have fC:=@exFs_c (.ref e.a) (.ref e.b) (.int st.step) (.bl st.dl.isSome) (.ref e.c) (.ref e.d)
  have fE:=@exFs_e (.ref e.a) (.ref e.b) (.int st.step) (.bl st.dl.isSome) (.ref e.c) (.ref e.d)
  have hha:=I.ha
  have hhb:=I.hb
  have hhc:=I.hc
  have hhd:=I.hd
  walk_at "rd"
  rw [hd]
  refine iteF ?_
  walk_at "rd"
  exact q
 exact TERM
theorem zaZ {K:PySem.W.Frag} {C x:Addr} {H:Hp} {F:Addr→Prop} {st:ExS} {Q:VK} {E:XK} {σ:L2.St} (h:ExAt C H x F st) (hd:st.dl=none) (q:Q .non H):za3 C "refuse_behind_dealing" (za7 K C) E tNil σ (.ref x) H Q:=by
 obtain ⟨dx,fs,e,l⟩:=h.ob
 exact zaG e (l _ (by decide +kernel)) (zcN ⟨rfl,x,F,st,rfl,h,hd,q⟩)
def zbn (K:PySem.W.Frag):Sp:=fun vs H Q _=>vs.length=2∧∃ n m:Int,vs=[.int n,.int m]∧0≤n∧n≤m∧Q .non H
theorem zbo (T:Txt K mg t):FnOk P w K mg base CX0 1 t.f_refuse_out_of_bounds t.d_refuse_out_of_bounds ["number","most"] (zbn K):=by
 refine T.F_refuse_out_of_bounds.ok sc_refuse_out_of_bounds (fun vs H Q E h=>?_) (fun cdv A outer s H vs Q E hr h=>?_)
 ·exact (by obtain ⟨h,_⟩:=h;exact h)
 have TERM:∃ t',PSs (cxOf CX0 P w K mg base ["number","most"] "refuse_out_of_bounds" (zab s_refuse_out_of_bounds) t.f_refuse_out_of_bounds cdv A outer s H E).nox (zae s_refuse_out_of_bounds) t'∧t' ⟨fun _ H'=>Q .non H',Q,fun _ _=>False,fun _ _=>False⟩ (start ["number","most"] vs) H:=by
  refine ⟨_,(zad (zaV (zc2 (zay (op_lt) (pv 0) zaf (zaJ _)) (zbT (zay (op_gt) (pv 0) (pv 1) (zaJ _)))).pt
   (zad ps_never) pss_nil)),?_⟩
  obtain ⟨_,n,m,rfl,h1,h2,q⟩:=h
  walk_at "rdk"
  exact q
 exact TERM
theorem zbr {H:Hp} {n m:Int} {Q:VK} {E:XK} (h1:0≤n) (h2:n≤m) (q:Q .non H):zbn K [.int n,.int m] H Q E:=⟨rfl,n,m,rfl,h1,h2,q⟩
def zcn (K:PySem.W.Frag) (C:Addr):Sp:=fun vs H Q _=>vs.length=2∧∃ (x:Addr) (F:Addr→Prop) (st:ExS) (s:Int),vs=[.ref x,.int s]∧ExAt C H x F st∧InB st.hs st.rs∧st.dl=none∧(0≤s∧s≤100)∧∀ H' F',ExFr H H' F F'→ExAt C H' x F' { st with step:=s }→Q (.int s) H'
theorem zdX (T:Txt K mg t):FnOk P w K mg base CX0 2 t.f_Exam_set_step t.d_Exam_set_step ["self","step"] (zcn K t.C_Exam):=by
 have G_Exam_refuse_behind_dealing:=zaI (P:=P) (w:=w) (base:=base) T
 have G_refuse_out_of_bounds:=zbo (P:=P) (w:=w) (base:=base) T
 refine T.F_Exam_set_step.ok sc_Exam_set_step (fun vs H Q E h=>?_) (fun cdv A outer s H vs Q E hr h=>?_)
 ·exact (by obtain ⟨h,_⟩:=h;exact h)
 have TERM:∃ t',PSs (cxOf CX0 P w K mg base ["self","step"] "Exam.set_step" (zab s_Exam_set_step) t.f_Exam_set_step cdv A outer s H E).nox (zae s_Exam_set_step) t'∧t' ⟨fun _ H'=>Q .non H',Q,fun _ _=>False,fun _ _=>False⟩ (start ["self","step"] vs) H:=by
  refine ⟨_,(zac (zaM (zaY (pv 0) T.cl_Exam T.me_Exam_refuse_behind_dealing (G_Exam_refuse_behind_dealing) (hr.mono (by first | decide | exact Nat.le_refl _)) T.b_Exam_refuse_behind_dealing .nil zav))
   (zac (zaM (zao (G_refuse_out_of_bounds) (hr.mono (by decide)) (by rfl) T.m_refuse_out_of_bounds T.F_refuse_out_of_bounds.kp T.b_refuse_out_of_bounds .nil zav (zaa (pv 1) (zaa (zc1 (v:=.int 100) (by rfl) T.v_MOST_STEP T.w_MOST_STEP) pa_nil))))
   (zac (zbt (K:=K) rfl (pv 0) (pv 1))
   (zad (zaj (pv 1)))))),?_⟩
  obtain ⟨_,x,F,st,s,rfl,E0,BB,hd,hp,q⟩:=h
  have E0':=E0
  obtain ⟨e,kvs,rfl,hF,I⟩:=E0
  have hcl:=T.cl_Exam
  have nA:=T.n_Exam_paper_houses
  have nB:=T.n_Exam_reader_rows
  have nS:=T.n_Exam_widest_step
  have nD:=T.n_Exam_is_dealt
  have nC:=T.n_Exam_named_readers
  have nE:=T.n_Exam_entered_points
  have hob:=I.ob
  have fA:=@exFs_a (.ref e.a) (.ref e.b) (.int st.step) (.bl st.dl.isSome) (.ref e.c) (.ref e.d)
  have fB:=@exFs_b (.ref e.a) (.ref e.b) (.int st.step) (.bl st.dl.isSome) (.ref e.c) (.ref e.d)
  have fS:=@exFs_s (.ref e.a) (.ref e.b) (.int st.step) (.bl st.dl.isSome) (.ref e.c) (.ref e.d)
  have fD:=@exFs_d (.ref e.a) (.ref e.b) (.int st.step) (.bl st.dl.isSome) (.ref e.c) (.ref e.d)
  have fC:=@exFs_c (.ref e.a) (.ref e.b) (.int st.step) (.bl st.dl.isSome) (.ref e.c) (.ref e.d)
  have fE:=@exFs_e (.ref e.a) (.ref e.b) (.int st.step) (.bl st.dl.isSome) (.ref e.c) (.ref e.d)
  have hha:=I.ha
  have hhb:=I.hb
  have hhc:=I.hc
  have hhd:=I.hd
  walk_at "rd"
  refine zaZ E0' hd ?_
  walk_at "rd"
  refine zbr (by omega) (by omega) ?_
  walk_at "rd"
  refine za1 hob hcl nS (show 6 < 1000 by decide) fun H1 b1 e1=>?_
  have I1:=I.setStep b1 e1 hp
  walk_at "rd"
  exact q H1 F (ExFr.but b1 ((hF _).mpr own_x) fun b z=>.inl z) ⟨e,kvs,rfl,hF,I1⟩
 exact TERM
theorem zeq {K:PySem.W.Frag} {C x:Addr} {H:Hp} {F:Addr→Prop} {st:ExS} {s:Int} {Q:VK} {E:XK} (hE:ExAt C H x F st) (B:InB st.hs st.rs) (hd:st.dl=none) (hp:(0≤s∧s≤100)) (q:∀ H' F',ExFr H H' F F'→ExAt C H' x F' { st with step:=s }→Q (.int s) H'):zcn K C [.ref x,.int s] H Q E:=⟨rfl,x,F,st,s,rfl,hE,B,hd,hp,q⟩
def zca (K:PySem.W.Frag):Sp:=fun vs H Q _=>vs.length=3∧∃ n l m:Int,vs=[.int n,.int l,.int m]∧l≤n∧n≤m∧Q .non H
theorem zcb (T:Txt K mg t):FnOk P w K mg base CX0 1 t.f_refuse_unknown t.d_refuse_unknown ["number","least","most"] (zca K):=by
 refine T.F_refuse_unknown.ok sc_refuse_unknown (fun vs H Q E h=>?_) (fun cdv A outer s H vs Q E hr h=>?_)
 ·exact (by obtain ⟨h,_⟩:=h;exact h)
 have TERM:∃ t',PSs (cxOf CX0 P w K mg base ["number","least","most"] "refuse_unknown" (zab s_refuse_unknown) t.f_refuse_unknown cdv A outer s H E).nox (zae s_refuse_unknown) t'∧t' ⟨fun _ H'=>Q .non H',Q,fun _ _=>False,fun _ _=>False⟩ (start ["number","least","most"] vs) H:=by
  refine ⟨_,(zad (zaV (zc2 (zay (op_lt) (pv 0) (pv 1) (zaJ _)) (zbT (zay (op_gt) (pv 0) (pv 2) (zaJ _)))).pt
   (zad ps_never) pss_nil)),?_⟩
  obtain ⟨_,n,l,m,rfl,h1,h2,q⟩:=h
  walk_at "rdk"
  exact q
 exact TERM
theorem zco {H:Hp} {n l m:Int} {Q:VK} {E:XK} (h1:l≤n) (h2:n≤m) (q:Q .non H):zca K [.int n,.int l,.int m] H Q E:=⟨rfl,n,l,m,rfl,h1,h2,q⟩
def zcU (K:PySem.W.Frag):Sp:=fun vs H Q _=>vs.length=2∧∃ n m:Int,vs=[.int n,.int m]∧n < m∧Q .non H
theorem zcV (T:Txt K mg t):FnOk P w K mg base CX0 1 t.f_refuse_full t.d_refuse_full ["many","most"] (zcU K):=by
 refine T.F_refuse_full.ok sc_refuse_full (fun vs H Q E h=>?_) (fun cdv A outer s H vs Q E hr h=>?_)
 ·exact (by obtain ⟨h,_⟩:=h;exact h)
 have TERM:∃ t',PSs (cxOf CX0 P w K mg base ["many","most"] "refuse_full" (zab s_refuse_full) t.f_refuse_full cdv A outer s H E).nox (zae s_refuse_full) t'∧t' ⟨fun _ H'=>Q .non H',Q,fun _ _=>False,fun _ _=>False⟩ (start ["many","most"] vs) H:=by
  refine ⟨_,(zad (zaV (zay (op_ge) (pv 0) (pv 1) (zaJ _))
   (zad ps_never) pss_nil)),?_⟩
  obtain ⟨_,n,m,rfl,h1,q⟩:=h
  walk_at "rdk"
  exact q
 exact TERM
theorem zdk {H:Hp} {n m:Int} {Q:VK} {E:XK} (h1:n < m) (q:Q .non H):zcU K [.int n,.int m] H Q E:=⟨rfl,n,m,rfl,h1,q⟩
def zbL (K:PySem.W.Frag) (C:Addr):Sp:=fun vs H Q _=>vs.length=2∧∃ (x:Addr) (F:Addr→Prop) (st:ExS) (h:Int),vs=[.ref x,.int h]∧ExAt C H x F st∧InB st.hs st.rs∧st.dl=none∧(1≤h∧h≤6∧st.hs.length < 10)∧∀ H' F',ExFr H H' F F'→ExAt C H' x F' { st with hs:=st.hs++[h] }→Q (.int ((st.hs.length:Int)+1)) H'
theorem zc4 (T:Txt K mg t):FnOk P w K mg base CX0 2 t.f_Exam_bring_paper t.d_Exam_bring_paper ["self","house"] (zbL K t.C_Exam):=by
 have G_Exam_refuse_behind_dealing:=zaI (P:=P) (w:=w) (base:=base) T
 have G_refuse_unknown:=zcb (P:=P) (w:=w) (base:=base) T
 have G_refuse_full:=zcV (P:=P) (w:=w) (base:=base) T
 refine T.F_Exam_bring_paper.ok sc_Exam_bring_paper (fun vs H Q E h=>?_) (fun cdv A outer s H vs Q E hr h=>?_)
 ·exact (by obtain ⟨h,_⟩:=h;exact h)
 have TERM:∃ t',PSs (cxOf CX0 P w K mg base ["self","house"] "Exam.bring_paper" (zab s_Exam_bring_paper) t.f_Exam_bring_paper cdv A outer s H E).nox (zae s_Exam_bring_paper) t'∧t' ⟨fun _ H'=>Q .non H',Q,fun _ _=>False,fun _ _=>False⟩ (start ["self","house"] vs) H:=by
  refine ⟨_,(zac (zaM (zaY (pv 0) T.cl_Exam T.me_Exam_refuse_behind_dealing (G_Exam_refuse_behind_dealing) (hr.mono (by first | decide | exact Nat.le_refl _)) T.b_Exam_refuse_behind_dealing .nil zav))
   (zac (zaM (zao (G_refuse_unknown) (hr.mono (by decide)) (by rfl) T.m_refuse_unknown T.F_refuse_unknown.kp T.b_refuse_unknown .nil zav (zaa (pv 1) (zaa zaf (zaa (zc1 (v:=.int 6) (by rfl) T.v_MOST_HOUSES T.w_MOST_HOUSES) pa_nil)))))
   (zac (zaM (zao (G_refuse_full) (hr.mono (by decide)) (by rfl) T.m_refuse_full T.F_refuse_full.kp T.b_refuse_full .nil zav (zaa (zah (zak (K:=K) rfl) (by rfl) T.z_len (by rfl) (zaa (zaz (K:=K) rfl (pv 0)) pa_nil)) (zaa (zc1 (v:=.int 10) (by rfl) T.v_MOST_PAPERS T.w_MOST_PAPERS) pa_nil))))
   (zac (zaM (zbW (K:=K) rfl PySem.F.plainAttrs_list PySem.F.slot_list_append PySem.F.type_list_append mt_append (zaz (K:=K) rfl (pv 0)) (zaa (pv 1) pa_nil)))
   (zad (zaj (zah (zak (K:=K) rfl) (by rfl) T.z_len (by rfl) (zaa (zaz (K:=K) rfl (pv 0)) pa_nil)))))))),?_⟩
  obtain ⟨_,x,F,st,h,rfl,E0,BB,hd,hp,q⟩:=h
  have E0':=E0
  obtain ⟨e,kvs,rfl,hF,I⟩:=E0
  have hcl:=T.cl_Exam
  have nA:=T.n_Exam_paper_houses
  have nB:=T.n_Exam_reader_rows
  have nS:=T.n_Exam_widest_step
  have nD:=T.n_Exam_is_dealt
  have nC:=T.n_Exam_named_readers
  have nE:=T.n_Exam_entered_points
  have hob:=I.ob
  have fA:=@exFs_a (.ref e.a) (.ref e.b) (.int st.step) (.bl st.dl.isSome) (.ref e.c) (.ref e.d)
  have fB:=@exFs_b (.ref e.a) (.ref e.b) (.int st.step) (.bl st.dl.isSome) (.ref e.c) (.ref e.d)
  have fS:=@exFs_s (.ref e.a) (.ref e.b) (.int st.step) (.bl st.dl.isSome) (.ref e.c) (.ref e.d)
  have fD:=@exFs_d (.ref e.a) (.ref e.b) (.int st.step) (.bl st.dl.isSome) (.ref e.c) (.ref e.d)
  have fC:=@exFs_c (.ref e.a) (.ref e.b) (.int st.step) (.bl st.dl.isSome) (.ref e.c) (.ref e.d)
  have fE:=@exFs_e (.ref e.a) (.ref e.b) (.int st.step) (.bl st.dl.isSome) (.ref e.c) (.ref e.d)
  have hha:=I.ha
  have hhb:=I.hb
  have hhc:=I.hc
  have hhd:=I.hd
  walk_at "rd"
  refine zaZ E0' hd ?_
  walk_at "rd"
  refine zco (by omega) (by omega) ?_
  walk_at "rd"
  refine zdk (by omega) ?_
  walk_at "rd"
  refine zaT hha (by rw [List.length_map];omega) fun H1 b1 e1=>?_
  have I1:=I.paper hd b1 e1
  have hob:=I1.ob
  have e1':=I1.ha
  walk_at "rd"
  have el:((st.hs++[h]).length:Int)=(st.hs.length:Int)+1:=by rw [List.length_append,List.length_singleton];omega
  rw [el]
  exact q H1 F (ExFr.but b1 ((hF _).mpr own_a) fun b z=>.inl z) ⟨e,kvs,rfl,hF,I1⟩
 exact TERM
theorem zbY {K:PySem.W.Frag} {C x:Addr} {H:Hp} {F:Addr→Prop} {st:ExS} {h:Int} {Q:VK} {E:XK} (hE:ExAt C H x F st) (B:InB st.hs st.rs) (hd:st.dl=none) (hp:(1≤h∧h≤6∧st.hs.length < 10)) (q:∀ H' F',ExFr H H' F F'→ExAt C H' x F' { st with hs:=st.hs++[h] }→Q (.int ((st.hs.length:Int)+1)) H'):zbL K C [.ref x,.int h] H Q E:=⟨rfl,x,F,st,h,rfl,hE,B,hd,hp,q⟩
def zbF (K:PySem.W.Frag) (C:Addr):Sp:=fun vs H Q _=>vs.length=3∧∃ (x:Addr) (F:Addr→Prop) (st:ExS) (h:Int) (l:Int),vs=[.ref x,.int h,.int l]∧ExAt C H x F st∧InB st.hs st.rs∧st.dl=none∧(0≤h∧h≤6∧0≤l∧l≤30∧st.rs.length < 8)∧∀ H' F',ExFr H H' F F'→ExAt C H' x F' { st with rs:=st.rs++[[h,l]] }→Q (.int ((st.rs.length:Int)+1)) H'
theorem zcO (T:Txt K mg t):FnOk P w K mg base CX0 2 t.f_Exam_bring_reader t.d_Exam_bring_reader ["self","house","limit"] (zbF K t.C_Exam):=by
 have G_Exam_refuse_behind_dealing:=zaI (P:=P) (w:=w) (base:=base) T
 have G_refuse_unknown:=zcb (P:=P) (w:=w) (base:=base) T
 have G_refuse_out_of_bounds:=zbo (P:=P) (w:=w) (base:=base) T
 have G_refuse_full:=zcV (P:=P) (w:=w) (base:=base) T
 refine T.F_Exam_bring_reader.ok sc_Exam_bring_reader (fun vs H Q E h=>?_) (fun cdv A outer s H vs Q E hr h=>?_)
 ·exact (by obtain ⟨h,_⟩:=h;exact h)
 have TERM:∃ t',PSs (cxOf CX0 P w K mg base ["self","house","limit"] "Exam.bring_reader" (zab s_Exam_bring_reader) t.f_Exam_bring_reader cdv A outer s H E).nox (zae s_Exam_bring_reader) t'∧t' ⟨fun _ H'=>Q .non H',Q,fun _ _=>False,fun _ _=>False⟩ (start ["self","house","limit"] vs) H:=by
  refine ⟨_,(zac (zaM (zaY (pv 0) T.cl_Exam T.me_Exam_refuse_behind_dealing (G_Exam_refuse_behind_dealing) (hr.mono (by first | decide | exact Nat.le_refl _)) T.b_Exam_refuse_behind_dealing .nil zav))
   (zac (zaM (zao (G_refuse_unknown) (hr.mono (by decide)) (by rfl) T.m_refuse_unknown T.F_refuse_unknown.kp T.b_refuse_unknown .nil zav (zaa (pv 1) (zaa zaf (zaa (zc1 (v:=.int 6) (by rfl) T.v_MOST_HOUSES T.w_MOST_HOUSES) pa_nil)))))
   (zac (zaM (zao (G_refuse_out_of_bounds) (hr.mono (by decide)) (by rfl) T.m_refuse_out_of_bounds T.F_refuse_out_of_bounds.kp T.b_refuse_out_of_bounds .nil zav (zaa (pv 2) (zaa (zc1 (v:=.int 30) (by rfl) T.v_MOST_LIMIT T.w_MOST_LIMIT) pa_nil))))
   (zac (zaM (zao (G_refuse_full) (hr.mono (by decide)) (by rfl) T.m_refuse_full T.F_refuse_full.kp T.b_refuse_full .nil zav (zaa (zah (zak (K:=K) rfl) (by rfl) T.z_len (by rfl) (zaa (zaz (K:=K) rfl (pv 0)) pa_nil)) (zaa (zc1 (v:=.int 8) (by rfl) T.v_MOST_READERS T.w_MOST_READERS) pa_nil))))
   (zac (zaM (zbW (K:=K) rfl PySem.F.plainAttrs_list PySem.F.slot_list_append PySem.F.type_list_append mt_append (zaz (K:=K) rfl (pv 0)) (zaa (zaP (zaa (pv 1) (zaa (pv 2) pa_nil))) pa_nil)))
   (zad (zaj (zah (zak (K:=K) rfl) (by rfl) T.z_len (by rfl) (zaa (zaz (K:=K) rfl (pv 0)) pa_nil))))))))),?_⟩
  obtain ⟨_,x,F,st,h,l,rfl,E0,BB,hd,hp,q⟩:=h
  have E0':=E0
  obtain ⟨e,kvs,rfl,hF,I⟩:=E0
  have hcl:=T.cl_Exam
  have nA:=T.n_Exam_paper_houses
  have nB:=T.n_Exam_reader_rows
  have nS:=T.n_Exam_widest_step
  have nD:=T.n_Exam_is_dealt
  have nC:=T.n_Exam_named_readers
  have nE:=T.n_Exam_entered_points
  have hob:=I.ob
  have fA:=@exFs_a (.ref e.a) (.ref e.b) (.int st.step) (.bl st.dl.isSome) (.ref e.c) (.ref e.d)
  have fB:=@exFs_b (.ref e.a) (.ref e.b) (.int st.step) (.bl st.dl.isSome) (.ref e.c) (.ref e.d)
  have fS:=@exFs_s (.ref e.a) (.ref e.b) (.int st.step) (.bl st.dl.isSome) (.ref e.c) (.ref e.d)
  have fD:=@exFs_d (.ref e.a) (.ref e.b) (.int st.step) (.bl st.dl.isSome) (.ref e.c) (.ref e.d)
  have fC:=@exFs_c (.ref e.a) (.ref e.b) (.int st.step) (.bl st.dl.isSome) (.ref e.c) (.ref e.d)
  have fE:=@exFs_e (.ref e.a) (.ref e.b) (.int st.step) (.bl st.dl.isSome) (.ref e.c) (.ref e.d)
  have hha:=I.ha
  have hhb:=I.hb
  have hhc:=I.hc
  have hhd:=I.hd
  have lp:=I.lp
  walk_at "rd"
  refine zaZ E0' hd ?_
  walk_at "rd"
  refine zco (by omega) (by omega) ?_
  walk_at "rd"
  refine zbr (by omega) (by omega) ?_
  walk_at "rd"
  refine zdk (by omega) ?_
  walk_at "rd"
  refine zax (by simp) fun r H1 f1 s1 e1=>?_
  walk_at "rd"
  refine zaT (s1 _ _ hhb) (by rw [List.length_map];omega) fun H2 b2 e2=>?_
  have I1:ExIn t.C_Exam H1 e st kvs:=I.keep fun b o _ z=>s1 b o z
  have I2:=I1.reader (row:=[h,l]) (I.new f1) e1 b2 e2
  have hob:=I2.ob
  have e1':=I2.hb
  walk_at "rd"
  have el:((e.ps++[r]).length:Int)=(st.rs.length:Int)+1:=by rw [List.length_append,List.length_singleton];omega
  rw [el]
  refine q H2 _ ⟨fun b o eb nb=>?_,fun b z=>?_⟩ I2.at
  ·rw [b2 _ (fun z=>nb ((hF _).mpr (by rw [z];exact own_b)))]
   exact s1 _ _ eb
  ·rcases zh1 z with z | z
   ·exact .inl ((hF b).mpr z)
   ·exact .inr (z▸f1)
 exact TERM
theorem zc5 {K:PySem.W.Frag} {C x:Addr} {H:Hp} {F:Addr→Prop} {st:ExS} {h:Int} {l:Int} {Q:VK} {E:XK} (hE:ExAt C H x F st) (B:InB st.hs st.rs) (hd:st.dl=none) (hp:(0≤h∧h≤6∧0≤l∧l≤30∧st.rs.length < 8)) (q:∀ H' F',ExFr H H' F F'→ExAt C H' x F' { st with rs:=st.rs++[[h,l]] }→Q (.int ((st.rs.length:Int)+1)) H'):zbF K C [.ref x,.int h,.int l] H Q E:=⟨rfl,x,F,st,h,l,rfl,hE,B,hd,hp,q⟩
def zer (K:PySem.W.Frag) (C:Addr):Sp:=fun vs H Q _=>vs.length=4∧∃ (a b:Addr) (s n:Int) (hs:List Int) (rs:List (List Int)),vs=[.ref a,.ref b,.int s,.int n]∧SqL K H a (hs.map V.int)∧LL K H b rs∧InB hs rs∧0≤s∧s≤100∧∀ x F H',H x=none→Same H H'→(∀ c o,H c=some o→¬F c)→ExAt C H' x F ⟨hs,rs,s,none⟩→Q (.ref x) H'
theorem zgP (T:Txt K mg t):FnOk P w K mg base CX0 3 t.f_law_exam t.d_law_exam ["_law_homes","_law_staff","_law_step_here","_law_turn"] (zer K t.C_Exam):=by
 have G_Exam___init__:=zdW (P:=P) (w:=w) (base:=base) T
 have G_Exam_set_step:=zdX (P:=P) (w:=w) (base:=base) T
 have G_Exam_bring_paper:=zc4 (P:=P) (w:=w) (base:=base) T
 have G_Exam_bring_reader:=zcO (P:=P) (w:=w) (base:=base) T
 refine T.F_law_exam.ok sc_law_exam (fun vs H Q E h=>?_) (fun cdv A outer s H vs Q E hr h=>?_)
 ·exact (by obtain ⟨h,_⟩:=h;exact h)
 have TERM:∃ t',PSs (cxOf CX0 P w K mg base ["_law_homes","_law_staff","_law_step_here","_law_turn","_law_exam_here","_law_house","_law_one"] "_law_exam" (zab s_law_exam) t.f_law_exam cdv A outer s H E).nox (zae s_law_exam) t'∧t' ⟨fun _ H'=>Q .non H',Q,fun _ _=>False,fun _ _=>False⟩ (start ["_law_homes","_law_staff","_law_step_here","_law_turn","_law_exam_here","_law_house","_law_one"] vs) H:=by
  refine ⟨_,(zac (zaF (i:=4) sc_law_exam.nd rfl (by first | exact Or.inl rfl | exact Or.inr rfl) (zjS T.mk_Exam (G_Exam___init__) (hr.mono (by decide)) (by rfl) T.mg_Exam T.b_Exam___init__ .nil zav))
   (zac (zaM (zbH (pv 4) T.cl_Exam T.me_Exam_set_step (G_Exam_set_step) (hr.mono (by first | decide | exact Nat.le_refl _)) T.b_Exam_set_step .nil zav (zaa (pv 2) pa_nil)))
   (zac (zaV (zay (zdj (K:=K) rfl hr.units0) (zaw (op_mod) (pv 3) zaf) zaf (zaJ _))
   (zad (za2 PassesOwn.never rfl (zaE (K:=K) rfl (pv 0)) (zaq (i:=5) sc_law_exam.nd rfl (by first | exact Or.inl rfl | exact Or.inr rfl))
   (zad (zaM (zbH (pv 4) T.cl_Exam T.me_Exam_bring_paper (G_Exam_bring_paper) (hr.mono (by first | decide | exact Nat.le_refl _)) T.b_Exam_bring_paper .nil zav (zaa (pv 5) pa_nil)))))) pss_nil)
   (zac (za2 PassesOwn.never rfl (zaE (K:=K) rfl (pv 1)) (zaq (i:=6) sc_law_exam.nd rfl (by first | exact Or.inl rfl | exact Or.inr rfl))
   (zad (zaM (zbH (pv 4) T.cl_Exam T.me_Exam_bring_reader (G_Exam_bring_reader) (hr.mono (by first | decide | exact Nat.le_refl _)) T.b_Exam_bring_reader .nil zav (zaa (zaH (zai (K:=K) rfl) (pv 6) zaf (fun _ _=>rfl)) (zaa (zaH (zai (K:=K) rfl) (pv 6) zaf (fun _ _=>rfl)) pa_nil))))))
   (zac (zaV (zay (zdj (K:=K) rfl hr.units0) (zaw (op_mod) (pv 3) zaf) zaf (zaJ _))
   (zad (za2 PassesOwn.never rfl (zaE (K:=K) rfl (pv 0)) (zaq (i:=5) sc_law_exam.nd rfl (by first | exact Or.inl rfl | exact Or.inr rfl))
   (zad (zaM (zbH (pv 4) T.cl_Exam T.me_Exam_bring_paper (G_Exam_bring_paper) (hr.mono (by first | decide | exact Nat.le_refl _)) T.b_Exam_bring_paper .nil zav (zaa (pv 5) pa_nil)))))) pss_nil)
   (zad (zaj (pv 4)))))))),?_⟩
  obtain ⟨_,a,b,s,n,hs,rs,rfl,ha,L,B,s0,s100,q⟩:=h
  have B1:=B.lp
  have B2:=B.lr
  obtain ⟨psr,hb,hpl,hpr⟩:=id L
  have Bp:∀ i,InB (hs.take i) []:=fun i=>by
   have:=(B.take 0).takeH i
   rw [List.take_zero] at this
   exact this
  walk_at "st"
  refine zhN ?_
  walk_at "st"
  refine zf6 fun x dx H1 fx fdx ne s1 ex=>?_
  refine zgO ex fun H2 F k2 fF E2=>⟨rfl,?_⟩
  have S2:Same H H2:=fun c o e=>k2 c o (s1 c o e) (fun z=>by rw [z,fx] at e;cases e) (fun z=>by rw [z,fdx] at e;cases e)
  have nF:∀ c o,H c=some o→¬F c:=fun c o e z=>by
   rcases fF c z with z | z | z
   ·rw [z,fx] at e;cases e
   ·rw [z,fdx] at e;cases e
   ·rw [s1 c o e] at z;cases z
  have B0:InB ([]:List Int) []:=by have:=Bp 0;rwa [List.take_zero] at this
  obtain ⟨dx2,fs2,hob2,hlk2⟩:=E2.ob
  walk_at "st"
  refine zhN ?_
  walk_at "st"
  refine zaG hob2 (hlk2 _ (by decide +kernel)) ?_
  walk_at "st"
  refine zeq E2 B0 rfl ⟨s0,s100⟩ fun H3 F3 f3 E3=>?_
  obtain ⟨nF3,S3⟩:=f3.nf S2 nF
  have E3':ExAt t.C_Exam H3 x F3 ⟨hs.take 0,rs.take 0,s,none⟩:=by rw [List.take_zero,List.take_zero];exact E3
  walk_at "st"
  refine zgB (fun σ H'=>∃ (F:Addr→Prop) (k:Nat) (v5 v6:Option V),σ=[some (.ref a),some (.ref b),some (.int s),some (.int n),some (.ref x),v5,v6]∧Same H H'∧(∀ c o,H c=some o→¬F c)∧ExAt t.C_Exam H' x F ⟨hs.take k,rs.take 0,s,none⟩∧((n % 2=0∧k=hs.length)∨(n % 2=1∧k=0))) ?_ ?_
  ·intro nx' hnx
   have S':=S3
   have nF':=nF3
   have E':=E3'
   walk_at "rd"
   refine zct (fun h1=>?_) (fun h1=>?_)
   ·skip
    walk_at "rd"
    refine zaO (S'.seq ha) ?_
    refine zb3 (xs:=hs.map V.int) (fun i σ H'=>∃ (F:Addr→Prop) (v5 v6:Option V),σ=[some (.ref a),some (.ref b),some (.int s),some (.int n),some (.ref x),v5,v6]∧Same H H'∧(∀ c o,H c=some o→¬F c)∧ExAt t.C_Exam H' x F ⟨hs.take i,rs.take 0,s,none⟩) ⟨_,_,_,rfl,S',nF',E'⟩ ?_ ?_ ?_
    ·rintro i σ H4 _ ⟨F4,w5,w6,rfl,S4,n4,E4⟩
     exact S4.seq ha
    ·rintro i y σ H4 hy ⟨F4,w5,w6,rfl,S4,n4,E4⟩
     obtain ⟨hi,rfl⟩:=zdx hy
     obtain ⟨dx4,fs4,hob4,hlk4⟩:=E4.ob
     have hh:=B.hh i hi
     walk_at "rd"
     refine zaG hob4 (hlk4 _ (by decide +kernel)) ?_
     walk_at "rd"
     refine zbY E4 ((B.take 0).takeH i) rfl ⟨hh.1,hh.2,by show (hs.take i).length < 10;rw [List.length_take];omega⟩ fun H5 F5 f5 E5=>?_
     obtain ⟨n5,S5⟩:=f5.nf S4 n4
     walk_at "rd"
     refine ⟨F5,_,_,rfl,S5,n5,?_⟩
     have et:hs.take (i+1)=hs.take i++[hs.getD i 0]:=by rw [List.take_add_one,List.getElem?_eq_getElem hi,List.getD_eq_getElem?_getD,List.getElem?_eq_getElem hi];rfl
     rw [et]
     exact E5
    ·rintro σ H4 ⟨F4,w5,w6,rfl,S4,n4,E4⟩
     rw [List.length_map] at E4
     exact hnx _ _ ⟨F4,hs.length,_,_,rfl,S4,n4,E4,.inl ⟨h1,rfl⟩⟩
   ·walk_at "rd"
    exact hnx _ _ ⟨F3,0,_,_,rfl,S3,nF3,E3',.inr ⟨by omega,rfl⟩⟩
  rintro σ H' ⟨F',k,v5,v6,rfl,S',nF',E',hk⟩
  walk_at "st"
  refine zgB (fun σ H'=>∃ (F:Addr→Prop) (k:Nat) (v5 v6:Option V),σ=[some (.ref a),some (.ref b),some (.int s),some (.int n),some (.ref x),v5,v6]∧Same H H'∧(∀ c o,H c=some o→¬F c)∧ExAt t.C_Exam H' x F ⟨hs.take k,rs.take rs.length,s,none⟩∧((n % 2=0∧k=hs.length)∨(n % 2=1∧k=0))) ?_ ?_
  ·intro nx' hnx
   walk_at "rd"
   refine zaO (S'.seq hb) ?_
   refine zb3 (xs:=psr.map V.ref) (fun i σ H'=>∃ (F:Addr→Prop) (v5 v6:Option V),σ=[some (.ref a),some (.ref b),some (.int s),some (.int n),some (.ref x),v5,v6]∧Same H H'∧(∀ c o,H c=some o→¬F c)∧ExAt t.C_Exam H' x F ⟨hs.take k,rs.take i,s,none⟩) ⟨_,_,_,rfl,S',nF',E'⟩ ?_ ?_ ?_
   ·rintro i σ H4 _ ⟨F4,w5,w6,rfl,S4,n4,E4⟩
    exact S4.seq hb
   ·rintro i y σ H4 hy ⟨F4,w5,w6,rfl,S4,n4,E4⟩
    obtain ⟨hi,rfl⟩:=zgC hy
    have hi':i < rs.length:=by omega
    obtain ⟨dx4,fs4,hob4,hlk4⟩:=E4.ob
    have hrow:=S4 _ _ (hpr i hi')
    have h2:=B.r2 i hi'
    have hh:=B.rh i hi'
    have hl:=B.rl i hi'
    have erow:rs.getD i []=[(rs.getD i []).getD 0 0,(rs.getD i []).getD 1 0]:=len2 h2
    walk_at "rd"
    refine zaG hob4 (hlk4 _ (by decide +kernel)) ?_
    walk_at "rd"
    refine zc5 (h:=(rs.getD i []).getD 0 0) (l:=(rs.getD i []).getD 1 0) E4 ((B.take i).takeH k) rfl ⟨hh.1,hh.2,hl.1,hl.2,by show (rs.take i).length < 8;rw [List.length_take];omega⟩ fun H5 F5 f5 E5=>?_
    obtain ⟨n5,S5⟩:=f5.nf S4 n4
    walk_at "rd"
    refine ⟨F5,_,_,rfl,S5,n5,?_⟩
    have et:rs.take (i+1)=rs.take i++[rs.getD i []]:=by rw [List.take_add_one,List.getElem?_eq_getElem hi',List.getD_eq_getElem?_getD,List.getElem?_eq_getElem hi'];rfl
    rw [et,erow]
    exact E5
   ·rintro σ H4 ⟨F4,w5,w6,rfl,S4,n4,E4⟩
    rw [List.length_map,hpl] at E4
    exact hnx _ _ ⟨F4,k,_,_,rfl,S4,n4,E4,hk⟩
  rintro σ H' ⟨F',k,v5,v6,rfl,S',nF',E',hk⟩
  walk_at "st"
  refine zgB (fun σ H'=>∃ (F:Addr→Prop) (v5 v6:Option V),σ=[some (.ref a),some (.ref b),some (.int s),some (.int n),some (.ref x),v5,v6]∧Same H H'∧(∀ c o,H c=some o→¬F c)∧ExAt t.C_Exam H' x F ⟨hs,rs,s,none⟩) ?_ ?_
  ·intro nx' hnx
   walk_at "rd"
   refine zct (fun h1=>?_) (fun h1=>?_)
   ·have hk0:k=0:=by omega
    subst hk0
    walk_at "rd"
    refine zaO (S'.seq ha) ?_
    refine zb3 (xs:=hs.map V.int) (fun i σ H'=>∃ (F:Addr→Prop) (v5 v6:Option V),σ=[some (.ref a),some (.ref b),some (.int s),some (.int n),some (.ref x),v5,v6]∧Same H H'∧(∀ c o,H c=some o→¬F c)∧ExAt t.C_Exam H' x F ⟨hs.take i,rs.take rs.length,s,none⟩) ⟨_,_,_,rfl,S',nF',E'⟩ ?_ ?_ ?_
    ·rintro i σ H4 _ ⟨F4,w5,w6,rfl,S4,n4,E4⟩
     exact S4.seq ha
    ·rintro i y σ H4 hy ⟨F4,w5,w6,rfl,S4,n4,E4⟩
     obtain ⟨hi,rfl⟩:=zdx hy
     obtain ⟨dx4,fs4,hob4,hlk4⟩:=E4.ob
     have hh:=B.hh i hi
     walk_at "rd"
     refine zaG hob4 (hlk4 _ (by decide +kernel)) ?_
     walk_at "rd"
     refine zbY E4 ((B.take rs.length).takeH i) rfl ⟨hh.1,hh.2,by show (hs.take i).length < 10;rw [List.length_take];omega⟩ fun H5 F5 f5 E5=>?_
     obtain ⟨n5,S5⟩:=f5.nf S4 n4
     walk_at "rd"
     refine ⟨F5,_,_,rfl,S5,n5,?_⟩
     have et:hs.take (i+1)=hs.take i++[hs.getD i 0]:=by rw [List.take_add_one,List.getElem?_eq_getElem hi,List.getD_eq_getElem?_getD,List.getElem?_eq_getElem hi];rfl
     rw [et]
     exact E5
    ·rintro σ H4 ⟨F4,w5,w6,rfl,S4,n4,E4⟩
     rw [List.length_map] at E4
     rw [List.take_length,List.take_length] at E4
     exact hnx _ _ ⟨F4,_,_,rfl,S4,n4,E4⟩
   ·have hk0:k=hs.length:=by omega
    subst hk0
    rw [List.take_length,List.take_length] at E'
    walk_at "rd"
    exact hnx _ _ ⟨F',_,_,rfl,S',nF',E'⟩
  rintro σ H' ⟨F',v5,v6,rfl,S',nF',E'⟩
  walk_at "rd"
  exact q x F' H' fx S' nF' E'
 exact TERM
theorem zh5 {C:Addr} {H:Hp} {a b:Addr} {s n:Int} {hs:List Int} {rs:List (List Int)} {Q:VK} {E:XK} (h1:SqL K H a (hs.map V.int)) (h2:LL K H b rs) (B:InB hs rs) (s0:0≤s) (s1:s≤100) (q:∀ x F H',H x=none→Same H H'→(∀ c o,H c=some o→¬F c)→ExAt C H' x F ⟨hs,rs,s,none⟩→Q (.ref x) H'):zer K C [.ref a,.ref b,.int s,.int n] H Q E:=⟨rfl,a,b,s,n,hs,rs,rfl,h1,h2,B,s0,s1,q⟩
def zdN (K:PySem.W.Frag):Sp:=fun vs H Q _=>vs.length=2∧∃ b c:Bool,vs=[.bl b,.bl c]∧Q (.bl (decide (b=c))) H
theorem zdO (T:Txt K mg t):FnOk P w K mg base CX0 1 t.f_law_truth t.d_law_truth ["_law_found","_law_due"] (zdN K):=by
 refine T.F_law_truth.ok sc_law_truth (fun vs H Q E h=>?_) (fun cdv A outer s H vs Q E hr h=>?_)
 ·exact (by obtain ⟨h,_⟩:=h;exact h)
 have TERM:∃ t',PSs (cxOf CX0 P w K mg base ["_law_found","_law_due"] "_law_truth" (zab s_law_truth) t.f_law_truth cdv A outer s H E).nox (zae s_law_truth) t'∧t' ⟨fun _ H'=>Q .non H',Q,fun _ _=>False,fun _ _=>False⟩ (start ["_law_found","_law_due"] vs) H:=by
  refine ⟨_,(zad (zaj (zhb (zah (zaL (K:=K) rfl) (by rfl) T.z_isinstance (by rfl) (zaa (pv 0) (zaa (zcw (v:=.ty "bool") (u:=.type "bool") (by rfl) T.z_bool (by rfl) rfl) pa_nil))) (zir (zcx (zdj (K:=K) rfl hr.units0) (pv 0) (pv 1) (zaJ _)))))),?_⟩
  obtain ⟨_,b,c,rfl,q⟩:=h
  walk_at "rd"
  refine iteT ?_
  walk_at "rd"
  exact q
 exact TERM
theorem zes {H:Hp} {b c:Bool} {Q:VK} {E:XK} (q:Q (.bl (decide (b=c))) H):zdN K [.bl b,.bl c] H Q E:=⟨rfl,_,_,rfl,q⟩
local macro_rules | `(tactic| walk_at "rd1")=>`(tactic| (with_reducible refine zes ?_))
theorem zhz {B H H':Hp} {p:Addr} {rs:List (List Int)} (R:RowsAt B p rs H) (s:Same H H'):RowsAt B p rs H':=by
 obtain ⟨a1,a2,ps,a3,a4,a5,a6⟩:=R
 exact ⟨a1.trans s,a2,ps,s _ _ a3,a4,a5,fun i hi=>⟨s _ _ (a6 i hi).1,(a6 i hi).2⟩⟩
def zet (K:PySem.W.Frag):Sp:=fun vs H Q _=>vs.length=1∧∃ (a:Addr) (ns:List Int),vs=[.ref a]∧SqL K H a (ns.map V.int)∧ns.length≤8∧∀ p H',RowsAt H p (prsB ns) H'→Q (.ref p) H'
theorem zgQ (T:Txt K mg t):FnOk P w K mg base CX0 1 t.f_pairs_of t.d_pairs_of ["numbers"] (zet K):=by
 refine T.F_pairs_of.ok sc_pairs_of (fun vs H Q E h=>?_) (fun cdv A outer s H vs Q E hr h=>?_)
 ·exact (by obtain ⟨h,_⟩:=h;exact h)
 have TERM:∃ t',PSs (cxOf CX0 P w K mg base ["numbers","pairs","place","first","second"] "pairs_of" (zab s_pairs_of) t.f_pairs_of cdv A outer s H E).nox (zae s_pairs_of) t'∧t' ⟨fun _ H'=>Q .non H',Q,fun _ _=>False,fun _ _=>False⟩ (start ["numbers","pairs","place","first","second"] vs) H:=by
  refine ⟨_,(zac (zaF (i:=1) sc_pairs_of.nd rfl (by first | exact Or.inl rfl | exact Or.inr rfl) (zaP pa_nil))
   (zac (za2 PassesOwn.never rfl (zkc (K:=K) rfl (by rfl) T.z_enumerate (zaa (pv 0) pa_nil)) (zfo (K:=K) (n:=2) rfl rfl (zbU (zaq (i:=2) sc_pairs_of.nd rfl (by first | exact Or.inl rfl | exact Or.inr rfl)) (zbU (zaq (i:=3) sc_pairs_of.nd rfl (by first | exact Or.inl rfl | exact Or.inr rfl)) pgs_nil)))
   (zad (za2 PassesOwn.never rfl (zaE (K:=K) rfl (zdb (zdd (K:=K) rfl) (pv 0) (zea (zaw (op_addG) (pv 2) zaf)) po_none)) (zaq (i:=4) sc_pairs_of.nd rfl (by first | exact Or.inl rfl | exact Or.inr rfl))
   (zad (zaM (zbW (K:=K) rfl PySem.F.plainAttrs_list PySem.F.slot_list_append PySem.F.type_list_append mt_append (pv 1) (zaa (zaP (zaa (pv 3) (zaa (pv 4) pa_nil))) pa_nil)))))))
   (zad (zaj (pv 1))))),?_⟩
  obtain ⟨_,a,ns,rfl,ha,hl,q⟩:=h
  have hpl:=prs_len ns
  have hpl2:(prsB ns).length≤64:=Nat.le_trans hpl (Nat.mul_le_mul hl hl)
  walk_at "rd"
  refine zax (by decide) fun p1 H1 f1 s1 e1=>?_
  walk_at "rd"
  refine zho (s1.seq ha) ?_
  refine zlK (xs:=ns.map V.int) (fun i σ H'=>∃ rows v2 v3 v4,σ=[some (.ref a),some (.ref p1),v2,v3,v4]∧RowsAt H p1 rows H'∧rows++prsB (ns.drop i)=prsB ns) ⟨[],none,none,none,rfl,RowsAt.start f1 s1 e1,by simp⟩ ?_ ?_ ?_
  ·rintro i σ H' _ ⟨rows,_,_,_,rfl,R,_⟩
   exact R.same.seq ha
  ·rintro i x σ H0 H' hx ⟨rows,v2,v3,v4,rfl,R0,er⟩ s0
   obtain ⟨hi,rfl⟩:=zdx hx
   have R:RowsAt H p1 rows H':=zhz R0 s0
   rw [zki hi] at er
   walk_at "rd"
   refine zb7 (R.same.seq ha) fun p2 H2 f2 s2 e2=>?_
   have np:p2≠p1:=by
    obtain ⟨zs,hz,_⟩:=R.lst
    exact (zag hz f2).symm
   have ei:(0+(i:Int)+1)=((i+1:Nat):Int):=by omega
   rw [ei,zfW,← List.map_drop] at e2
   refine zaO (SqL.of e2) ?_
   generalize ens:ns.drop (i+1)=ys at *
   generalize ns.getD i 0=x at *
   refine zb3 (xs:=ys.map V.int) (fun j σ H'=>∃ rows2 v4,σ=[some (.ref a),some (.ref p1),some (.int (0+(i:Int))),some (.int x),v4]∧RowsAt H p1 rows2 H'∧H' p2=some (.lst (ys.map V.int))∧rows2++((ys.drop j).map (fun y=>[x,y])++prsB ys)=prsB ns) ⟨rows,v4,rfl,zhz R s2,e2,er⟩ ?_ ?_ ?_
   ·rintro j σ H3 _ ⟨rows2,_,rfl,R3,e3,_⟩
    exact SqL.of e3
   ·rintro j y σ H3 hy ⟨rows2,v4,rfl,R3,e3,er3⟩
    obtain ⟨hj,rfl⟩:=zdx hy
    obtain ⟨zs,hz,hzl⟩:=R3.lst
    have hlen:rows2.length≤64:=by
     have:=congrArg List.length er3
     rw [List.length_append] at this
     omega
    walk_at "rd"
    refine zax (by simp) fun p4 H4 f4 s4 e4=>?_
    walk_at "rd"
    refine zaT (s4 _ _ hz) (by omega) fun H5 b5 e5=>?_
    walk_at "rd"
    refine ⟨rows2++[[x,ys.getD j 0]],_,rfl,R3.push f4 s4 e4 (s4 _ _ hz) b5 e5,by rw [b5 _ np];exact s4 _ _ e3,?_⟩
    rw [List.drop_eq_getElem_cons hj] at er3
    rw [List.append_assoc,← er3,List.getD_eq_getElem?_getD,List.getElem?_eq_getElem hj]
    rfl
   ·rintro σ H3 ⟨rows2,v4,rfl,R3,e3,er3⟩
    rw [List.length_map,List.drop_length,List.map_nil,List.nil_append] at er3
    exact ⟨rows2,_,_,_,rfl,R3,by first | exact er3 | (rw [ens];exact er3)⟩
  ·rintro σ H' ⟨rows,v2,v3,v4,rfl,R,er⟩
   rw [List.length_map,List.drop_length] at er
   have er2:rows=prsB ns:=by
    rw [← er];unfold prsB;simp
   walk_at "rd"
   rw [← er2] at q
   exact q _ _ R
 exact TERM
theorem zh6 {H:Hp} {Q:VK} {E:XK} {a:Addr} {ns:List Int} (h:SqL K H a (ns.map V.int)) (hl:ns.length≤8) (q:∀ p H',RowsAt H p (prsB ns) H'→Q (.ref p) H'):zet K [.ref a] H Q E:=⟨rfl,a,ns,rfl,h,hl,q⟩
def zeu (K:PySem.W.Frag):Sp:=fun vs H Q _=>vs.length=4∧∃ (a b:Addr) (k j:Int) (hs:List Int) (rs:List (List Int)),vs=[.ref a,.ref b,.int k,.int j]∧SqL K H a (hs.map V.int)∧LL K H b rs∧1≤k∧k≤hs.length∧1≤j∧j≤rs.length∧(∀ i,i < rs.length→(rs.getD i []).length=2) ∧
 Q (.bl (!decide ((rs.getD (j-1).toNat []).getD 0 0=hs.getD (k-1).toNat 0))) H
theorem zev (T:Txt K mg t):FnOk P w K mg base CX0 1 t.f_may_read t.d_may_read ["papers","readers","paper","reader"] (zeu K):=by
 refine T.F_may_read.ok sc_may_read (fun vs H Q E h=>?_) (fun cdv A outer s H vs Q E hr h=>?_)
 ·exact (by obtain ⟨h,_⟩:=h;exact h)
 have TERM:∃ t',PSs (cxOf CX0 P w K mg base ["papers","readers","paper","reader","reader_house"] "may_read" (zab s_may_read) t.f_may_read cdv A outer s H E).nox (zae s_may_read) t'∧t' ⟨fun _ H'=>Q .non H',Q,fun _ _=>False,fun _ _=>False⟩ (start ["papers","readers","paper","reader","reader_house"] vs) H:=by
  refine ⟨_,(zac (zaF (i:=4) sc_may_read.nd rfl (by first | exact Or.inl rfl | exact Or.inr rfl) (zaH (zai (K:=K) rfl) (zaH (zai (K:=K) rfl) (pv 1) (zaw (op_sub) (pv 3) zaf) (fun _ _=>rfl)) zaf (fun _ _=>rfl)))
   (zad (zaj (zcx (zcS (K:=K) rfl hr.units0) (pv 4) (zaH (zai (K:=K) rfl) (pv 0) (zaw (op_sub) (pv 2) zaf) (fun _ _=>rfl)) (zaJ _))))),?_⟩
  obtain ⟨_,a,b,k,j,hs,rs,rfl,ha,⟨ps,hb,hl,hr⟩,k1,k2,j1,j2,h2,q⟩:=h
  have hj:(j-1).toNat < rs.length:=by omega
  have hr':=hr _ hj
  have h2':=h2 _ hj
  walk_at "rd"
  exact q
 exact TERM
theorem ze8 {H:Hp} {a b:Addr} {k j:Int} {hs:List Int} {rs:List (List Int)} {Q:VK} {E:XK} (h1:SqL K H a (hs.map V.int)) (h2:LL K H b rs) (k1:1≤k) (k2:k≤hs.length) (j1:1≤j) (j2:j≤rs.length) (h3:∀ i,i < rs.length→(rs.getD i []).length=2)
  (q:Q (.bl (!decide ((rs.getD (j-1).toNat []).getD 0 0=hs.getD (k-1).toNat 0))) H):zeu K [.ref a,.ref b,.int k,.int j] H Q E:=⟨rfl,a,b,k,j,hs,rs,rfl,h1,h2,k1,k2,j1,j2,h3,q⟩
def mayB (hs:List Int) (rs:List (List Int)) (k:Int) (i:Nat):Bool:=!decide ((rs.getD i []).getD 0 0=hs.getD (k-1).toNat 0)
def zam (hs:List Int) (rs:List (List Int)) (k:Int):List Int:=((List.range rs.length).filter (mayB hs rs k)).map fun i:Nat=>1+(i:Int)
def zcW (K:PySem.W.Frag):Sp:=fun vs H Q _=>vs.length=3∧∃ (a b:Addr) (k:Int) (hs:List Int) (rs:List (List Int)),vs=[.ref a,.ref b,.int k]∧SqL K H a (hs.map V.int)∧LL K H b rs∧1≤k∧k≤hs.length∧rs.length≤1000∧(∀ i,i < rs.length→(rs.getD i []).length=2) ∧
 ∀ p H2,H p=none→Same H H2→H2 p=some (.lst ((zam hs rs k).map V.int))→Q (.ref p) H2
theorem zcX (T:Txt K mg t):FnOk P w K mg base CX0 2 t.f_readers_for t.d_readers_for ["papers","readers","paper"] (zcW K):=by
 have G_may_read:=zev (P:=P) (w:=w) (base:=base) T
 refine T.F_readers_for.ok sc_readers_for (fun vs H Q E h=>?_) (fun cdv A outer s H vs Q E hr h=>?_)
 ·exact (by obtain ⟨h,_⟩:=h;exact h)
 have TERM:∃ t',PSs (cxOf CX0 P w K mg base ["papers","readers","paper"] "readers_for" (zab s_readers_for) t.f_readers_for cdv A outer s H E).nox (zae s_readers_for) t'∧t' ⟨fun _ H'=>Q .non H',Q,fun _ _=>False,fun _ _=>False⟩ (start ["papers","readers","paper"] vs) H:=by
  refine ⟨_,(zad (zaj (zaW (zap (sc:=zab s_readers_for) (XN:=["papers","readers","paper"]) (N:=["reader","papers","readers","paper"]) (own:=1) (js:=[0,1,2]) rfl rfl (by decide +kernel)) rfl (zbl (by rfl) T.z_range (zaa zaf (zaa (zaw (op_addG) (zah (zak (K:=K) rfl) (by rfl) T.z_len (by rfl) (zaa (pv 1) pa_nil)) zaf) pa_nil))) (fun _ _ _ _ _=>(zaq (i:=0) (show List.Nodup [(Str.ofString "reader"),(Str.ofString "papers"),(Str.ofString "readers"),(Str.ofString "paper")] by decide +kernel) rfl (by first | exact Or.inl rfl | exact Or.inr rfl))) (fun _ _ _ _ _=>(zcy (zas (K:=K) rfl (zao (G_may_read) (hr.mono (by decide)) (by rfl) T.m_may_read T.F_may_read.kp T.b_may_read .nil zav (zaa (pv 1) (zaa (pv 2) (zaa (pv 3) (zaa (pv 0) pa_nil))))) (fun _=>rfl)))) (fun _ _ _ _ _=>(pv 0))))),?_⟩
  obtain ⟨_,a,b,k,hs,rs,rfl,ha,L,k1,k2,hz,h2,q⟩:=h
  obtain ⟨ps,hb,hl,hr'⟩:=id L
  walk_at "rd"
  refine zde ⟨by omega,by omega,by omega,by omega⟩ ?_
  have en:((ps.length:Int)+1-1).toNat=rs.length:=by omega
  rw [en]
  refine zfU (zbG _ _ _) (by omega) (mayB hs rs k) (fun i=>1+(i:Int)) (fun i H' Q' hi s q'=>?_) (fun i H' Q' hi s hc q'=>?_) fun p H2 f s e=>q p H2 f s e
  ·have ha':=s.seq ha
   have L':=L.same s
   walk_at "rd"
   refine ze8 ha' L' k1 k2 (by omega) (by omega) h2 ?_
   walk_at "rd"
   have e:(1+(i:Int)-1).toNat=i:=by omega
   rw [e]
   exact q'
  ·walk_at "rd"
   exact q'
 exact TERM
theorem zdl {H:Hp} {a b:Addr} {k:Int} {hs:List Int} {rs:List (List Int)} {Q:VK} {E:XK} (h1:SqL K H a (hs.map V.int)) (h2:LL K H b rs) (k1:1≤k) (k2:k≤hs.length) (hz:rs.length≤1000) (h3:∀ i,i < rs.length→(rs.getD i []).length=2)
  (q:∀ p H2,H p=none→Same H H2→H2 p=some (.lst ((zam hs rs k).map V.int))→Q (.ref p) H2):zcW K [.ref a,.ref b,.int k] H Q E:=⟨rfl,a,b,k,hs,rs,rfl,h1,h2,k1,k2,hz,h3,q⟩
def zew (K:PySem.W.Frag):Sp:=fun vs H Q _=>vs.length=2∧∃ (b:Addr) (rows:List (List Int)) (x:Int),vs=[.ref b,.int x]∧LL K H b rows∧rows.length≤20∧∀ H',Same H H'→Q (.int (cntB rows x:Int)) H'
theorem zgR (T:Txt K mg t):FnOk P w K mg base CX0 1 t.f_times_in t.d_times_in ["rows","reader"] (zew K):=by
 refine T.F_times_in.ok sc_times_in (fun vs H Q E h=>?_) (fun cdv A outer s H vs Q E hr h=>?_)
 ·exact (by obtain ⟨h,_⟩:=h;exact h)
 have TERM:∃ t',PSs (cxOf CX0 P w K mg base ["rows","reader"] "times_in" (zab s_times_in) t.f_times_in cdv A outer s H E).nox (zae s_times_in) t'∧t' ⟨fun _ H'=>Q .non H',Q,fun _ _=>False,fun _ _=>False⟩ (start ["rows","reader"] vs) H:=by
  refine ⟨_,(zad (zaj (zah (zak (K:=K) rfl) (by rfl) T.z_len (by rfl) (zaa (zaW (zap (sc:=zab s_times_in) (XN:=["rows","reader"]) (N:=["row","reader"]) (own:=1) (js:=[1]) rfl rfl (by decide +kernel)) rfl (zaE (K:=K) rfl (pv 0)) (fun _ _ _ _ _=>(zaq (i:=0) (show List.Nodup [(Str.ofString "row"),(Str.ofString "reader")] by decide +kernel) rfl (by first | exact Or.inl rfl | exact Or.inr rfl))) (fun _ _ _ _ _=>(zcy (zay (ze7 (K:=K) rfl (zeN hr)) (pv 1) (pv 0) (by with_unfolding_all rfl)))) (fun _ _ _ _ _=>(pv 0))) pa_nil)))),?_⟩
  obtain ⟨_,b,rows,x,rfl,L,hl,q⟩:=h
  obtain ⟨ps,hb,hpl,hr⟩:=id L
  walk_at "rd"
  refine zaO hb ?_
  refine zd5 hb hpl (by omega) (x:=x) (fun i H' Q' hi s q'=>?_) fun p H2 zs f s e ez=>?_
  ·have hrow:=s _ _ (hr i hi)
   walk_at "rd"
   exact q'
  walk_at "rd"
  rw [ez]
  exact q _ s
 exact TERM
theorem zh7 {H:Hp} {b:Addr} {rows:List (List Int)} {x:Int} {Q:VK} {E:XK} (h:LL K H b rows) (hl:rows.length≤20) (q:∀ H',Same H H'→Q (.int (cntB rows x:Int)) H'):zew K [.ref b,.int x] H Q E:=⟨rfl,b,rows,x,rfl,h,hl,q⟩
theorem zko (rs rows:List (List Int)) (n:Nat) (hn:n=rs.length):((List.range n).filter fun _=>true).map (fun i=>V.int ((rs.getD i []).getD 1 0-(cntB rows (1+(i:Int)):Int)))=(zbC rs rows).map V.int:=by
 subst hn
 rw [List.filter_eq_self.mpr (fun _ _=>rfl)]
 unfold zbC
 rw [List.map_map]
 refine List.map_congr_left fun i _=>?_
 show V.int _=V.int _
 rw [Int.add_comm 1 (i:Int)]
def zdm (K:PySem.W.Frag):Sp:=fun vs H Q _=>vs.length=2∧∃ (a b:Addr) (rs rows:List (List Int)),vs=[.ref a,.ref b]∧LL K H a rs∧LL K H b rows∧rs.length≤8∧rows.length≤20∧(∀ i,i < rs.length→(rs.getD i []).length=2)∧∀ p H',H p=none→Same H H'→H' p=some (.lst ((zbC rs rows).map V.int))→Q (.ref p) H'
theorem zch (T:Txt K mg t):FnOk P w K mg base CX0 2 t.f_left_after t.d_left_after ["readers","rows"] (zdm K):=by
 have G_times_in:=zgR (P:=P) (w:=w) (base:=base) T
 refine T.F_left_after.ok sc_left_after (fun vs H Q E h=>?_) (fun cdv A outer s H vs Q E hr h=>?_)
 ·exact (by obtain ⟨h,_⟩:=h;exact h)
 have TERM:∃ t',PSs (cxOf CX0 P w K mg base ["readers","rows"] "left_after" (zab s_left_after) t.f_left_after cdv A outer s H E).nox (zae s_left_after) t'∧t' ⟨fun _ H'=>Q .non H',Q,fun _ _=>False,fun _ _=>False⟩ (start ["readers","rows"] vs) H:=by
  refine ⟨_,(zad (zaj (zaW (zap (sc:=zab s_left_after) (XN:=["readers","rows"]) (N:=["reader","row","rows"]) (own:=2) (js:=[1]) rfl rfl (by decide +kernel)) rfl (zkd (K:=K) rfl (by rfl) T.z_enumerate (zaa (pv 0) pa_nil)) (fun _ _ _ _ _=>(zfo (K:=K) (n:=2) rfl rfl (zbU (zaq (i:=0) (show List.Nodup [(Str.ofString "reader"),(Str.ofString "row"),(Str.ofString "rows")] by decide +kernel) rfl (by first | exact Or.inl rfl | exact Or.inr rfl)) (zbU (zaq (i:=1) (show List.Nodup [(Str.ofString "reader"),(Str.ofString "row"),(Str.ofString "rows")] by decide +kernel) rfl (by first | exact Or.inl rfl | exact Or.inr rfl)) pgs_nil)))) (fun _ _ _ _ _=>za9) (fun _ _ _ _ _=>(zaw (op_sub) (zaH (zai (K:=K) rfl) (pv 1) zaf (fun _ _=>rfl)) (zao (G_times_in) (hr.mono (by decide)) (by rfl) T.m_times_in T.F_times_in.kp T.b_times_in .nil zav (zaa (pv 2) (zaa (pv 0) pa_nil)))))))),?_⟩
  obtain ⟨_,a,b,rs,rows,rfl,L1,L2,l1,l2,r2,q⟩:=h
  obtain ⟨ps,ha,hpl,hpr⟩:=id L1
  have en:(ps.map V.ref).length=rs.length:=by rw [List.length_map];exact hpl
  walk_at "rd"
  refine zho ha ?_
  refine zem (zbK.enum ha) (by omega) (fun _=>true) (fun i=>.int ((rs.getD i []).getD 1 0-(cntB rows (1+(i:Int)):Int))) (fun i H' Q' _ _ q'=>q' _ (Same.refl _)) (fun i H' Q' hi s _ q'=>?_) fun p H2 f s e=>?_
  ·have hi':i < rs.length:=by omega
   have ex:(ps.map V.ref).getD i .non=.ref (ps.getD i 0):=by
    rw [List.getD_eq_getElem?_getD,List.getElem?_map,List.getElem?_eq_getElem (by omega),List.getD_eq_getElem?_getD,List.getElem?_eq_getElem (by omega)];rfl
   rw [ex]
   have h2:=r2 i hi'
   have hrow:=s _ _ (hpr i hi')
   show (_:TE) (some (.int (1+(i:Int)))::some (.ref (ps.getD i 0))::_) _ _
   walk_at "rd"
   refine zh7 (L2.same s) l2 fun H3 s3=>?_
   walk_at "rd"
   exact q' _ s3
  rw [zko rs rows _ en] at e
  exact q p H2 f s e
 exact TERM
theorem zci {H:Hp} {a b:Addr} {rs rows:List (List Int)} {Q:VK} {E:XK} (h1:LL K H a rs) (h2:LL K H b rows) (l1:rs.length≤8) (l2:rows.length≤20) (r2:∀ i,i < rs.length→(rs.getD i []).length=2)
  (q:∀ p H',H p=none→Same H H'→H' p=some (.lst ((zbC rs rows).map V.int))→Q (.ref p) H'):zdm K [.ref a,.ref b] H Q E:=⟨rfl,a,b,rs,rows,rfl,h1,h2,l1,l2,r2,q⟩
def zgS (rs rows:List (List Int)):Bool:=(zbC rs rows).all fun x=>decide (0≤x)
theorem zkp (ns:List Int) (n:Nat) (hn:n=ns.length):((List.range n).filter fun _=>true).map (fun i=>V.bl (decide (0≤ns.getD i 0)))=(ns.map fun x=>decide (0≤x)).map V.bl:=by
 subst hn
 rw [List.filter_eq_self.mpr (fun _ _=>rfl),List.map_map]
 refine List.ext_getElem (by simp) fun i h1 h2=>?_
 simp at h1
 simp [h1]
theorem zgc {rs rows:List (List Int)}:zgS rs rows=true↔∀ k,k < rs.length→(cntB rows ((k:Int)+1):Int)≤(rs.getD k []).getD 1 0:=by
 unfold zgS zbC
 rw [List.all_map,List.all_eq_true]
 constructor
 ·intro h k hk
  have:=h k (List.mem_range.mpr hk)
  simp only [Function.comp_apply,decide_eq_true_eq] at this
  omega
 ·intro h k hk
  have:=h k (List.mem_range.mp hk)
  simp only [Function.comp_apply,decide_eq_true_eq]
  omega
def zbZ (K:PySem.W.Frag):Sp:=fun vs H Q _=>vs.length=2∧∃ (a b:Addr) (rs rows:List (List Int)),vs=[.ref a,.ref b]∧LL K H a rs∧LL K H b rows∧rs.length≤8∧rows.length≤20∧(∀ i,i < rs.length→(rs.getD i []).length=2)∧∀ H',Same H H'→Q (.bl (zgS rs rows)) H'
theorem zdn (T:Txt K mg t):FnOk P w K mg base CX0 3 t.f_keeps_to_limits t.d_keeps_to_limits ["readers","rows"] (zbZ K):=by
 have G_left_after:=zch (P:=P) (w:=w) (base:=base) T
 refine T.F_keeps_to_limits.ok sc_keeps_to_limits (fun vs H Q E h=>?_) (fun cdv A outer s H vs Q E hr h=>?_)
 ·exact (by obtain ⟨h,_⟩:=h;exact h)
 have TERM:∃ t',PSs (cxOf CX0 P w K mg base ["readers","rows"] "keeps_to_limits" (zab s_keeps_to_limits) t.f_keeps_to_limits cdv A outer s H E).nox (zae s_keeps_to_limits) t'∧t' ⟨fun _ H'=>Q .non H',Q,fun _ _=>False,fun _ _=>False⟩ (start ["readers","rows"] vs) H:=by
  refine ⟨_,(zad (zaj (zah (zjk (K:=K) rfl rfl) (by rfl) T.z_all (by rfl) (zaa (zaW (zap (sc:=zab s_keeps_to_limits) (XN:=["readers","rows"]) (N:=["left"]) (own:=1) (js:=[]) rfl rfl (by decide +kernel)) rfl (zaE (K:=K) rfl (zao (G_left_after) (hr.mono (by decide)) (by rfl) T.m_left_after T.F_left_after.kp T.b_left_after .nil zav (zaa (pv 0) (zaa (pv 1) pa_nil)))) (fun _ _ _ _ _=>(zaq (i:=0) (show List.Nodup [(Str.ofString "left")] by decide +kernel) rfl (by first | exact Or.inl rfl | exact Or.inr rfl))) (fun _ _ _ _ _=>za9) (fun _ _ _ _ _=>(zcx (op_ge) (pv 0) zaf (zaJ _)))) pa_nil)))),?_⟩
  obtain ⟨_,a,b,rs,rows,rfl,L1,L2,l1,l2,r2,q⟩:=h
  walk_at "rd"
  refine zci L1 L2 l1 l2 r2 fun p H1 f1 s1 e1=>?_
  have hll:(zbC rs rows).length=rs.length:=by unfold zbC;rw [List.length_map,List.length_range]
  have hq:(zbC rs rows).all (fun x=>decide (0≤x))=zgS rs rows:=rfl
  generalize zbC rs rows=ns at *
  have hn:(ns.map V.int).length=ns.length:=List.length_map ..
  refine zaO (SqL.of e1) ?_
  refine zbu (zem (zbK.one (za6 (SqL.of e1))) (by omega) (fun _=>true) (fun i=>.bl (decide (0≤ns.getD i 0))) (fun i H' Q' _ _ q'=>q' _ (Same.refl _)) (fun i H' Q' hi s _ q'=>?_) fun p2 H2 f2 s2 e2=>?_)
  ·have ex:(ns.map V.int).getD i .non=.int (ns.getD i 0):=by
    rw [List.getD_eq_getElem?_getD,List.getElem?_map,List.getElem?_eq_getElem (by omega),List.getD_eq_getElem?_getD,List.getElem?_eq_getElem (by omega)];rfl
   rw [ex]
   show (_:TE) (some (.int (ns.getD i 0))::_) _ _
   walk_at "rd"
   exact q' _ (Same.refl _)
  rw [zkp ns _ hn] at e2
  refine zka (SqL.of e2) ?_
  rw [List.all_map]
  have e3:(ns.all (id∘fun x=>decide (0≤x)))=zgS rs rows:=hq
  rw [e3]
  exact q _ (s1.trans s2)
 exact TERM
theorem zdC {H:Hp} {a b:Addr} {rs rows:List (List Int)} {Q:VK} {E:XK} (h1:LL K H a rs) (h2:LL K H b rows) (l1:rs.length≤8) (l2:rows.length≤20) (r2:∀ i,i < rs.length→(rs.getD i []).length=2)
  (q:∀ H',Same H H'→Q (.bl (zgS rs rows)) H'):zbZ K [.ref a,.ref b] H Q E:=⟨rfl,a,b,rs,rows,rfl,h1,h2,l1,l2,r2,q⟩
theorem zmX {row:List Int} {m:Nat} (nd:row.Nodup) (h:∀ r∈row,1≤r∧r≤m):row.length≤m:=by
 rw [← zjr nd h,zmH]
 exact Nat.le_trans (List.length_filter_le _ _) (by simp)
def flds (A G S:Addr):List (Str×V):=putF "spare" (.ref S) (putF "given" (.ref G) (putF "allowed" (.ref A) []))
theorem zmY (A G S:Addr):(flds A G S).lookup ("spare" : Str)=some (.ref S):=by
 unfold flds
 rw [zaA,if_pos rfl]
theorem zk8 (A G S:Addr):(flds A G S).lookup ("given" : Str)=some (.ref G):=by
 unfold flds
 rw [zaA,if_neg (by decide +kernel),zaA,if_pos rfl]
theorem zmZ (A G S:Addr):(flds A G S).lookup ("allowed" : Str)=some (.ref A):=by
 unfold flds
 rw [zaA,if_neg (by decide +kernel),zaA,if_neg (by decide +kernel),zaA,if_pos rfl]
theorem zgT (A G S:Addr) {m:Str} (h1:¬m = "spare") (h2:¬m = "given") (h3:¬m = "allowed"):(flds A G S).lookup m=none:=by
 unfold flds
 rw [zaA,if_neg h1,zaA,if_neg h2,zaA,if_neg h3]
 rfl
structure AtAd where
 x:Addr
 A:Addr
 G:Addr
 S:Addr
 aps:List Addr
 gps:List Addr
structure Att (C:Addr) (H:Hp) (d:AtAd) (al gv:List (List Int)) (sp:List Int):Prop where
 ob:∃ dx,H d.x=some (.ins C dx (flds d.A d.G d.S))
 ha:H d.A=some (.lst (d.aps.map V.ref))
 la:d.aps.length=al.length
 ra:∀ i,i < al.length→H (d.aps.getD i 0)=some (.lst ((al.getD i []).map V.int))∧d.aps.getD i 0∉d.gps∧d.aps.getD i 0≠d.S
 hg:H d.G=some (.lst (d.gps.map V.ref))
 lg:d.gps.length=gv.length
 ng:d.gps.Nodup
 rg:∀ i,i < gv.length→H (d.gps.getD i 0)=some (.lst ((gv.getD i []).map V.int))
 hs:H d.S=some (.lst (sp.map V.int))
 Sg:d.S∉d.gps
 Gg:d.G∉d.gps
 GS:d.G≠d.S
 Ag:d.A∉d.gps
 AS:d.A≠d.S
theorem Att.row {C:Addr} {H:Hp} {d:AtAd} {al gv:List (List Int)} {sp:List Int} (T:Att C H d al gv sp) {b:Addr} (hb:b∈d.gps):∃ xs:List V,H b=some (.lst xs):=by
 obtain ⟨i,hi,e⟩:=mem_getD (d:=0) hb
 have:=T.rg i (by have:=T.lg;omega)
 rw [e] at this
 exact ⟨_,this⟩
theorem Att.xg {C:Addr} {H:Hp} {d:AtAd} {al gv:List (List Int)} {sp:List Int} (T:Att C H d al gv sp):d.x∉d.gps:=fun h=>by
 obtain ⟨xs,e⟩:=T.row h
 obtain ⟨dx,e2⟩:=T.ob
 rw [e] at e2
 cases e2
theorem Att.xS {C:Addr} {H:Hp} {d:AtAd} {al gv:List (List Int)} {sp:List Int} (T:Att C H d al gv sp):d.x≠d.S:=fun h=>by
 obtain ⟨dx,e2⟩:=T.ob
 rw [h,T.hs] at e2
 cases e2
theorem Att.keep {C:Addr} {H H':Hp} {d:AtAd} {al gv:List (List Int)} {sp:List Int} {D:Addr} {kvs:List (Key×V)} (T:Att C H d al gv sp) (hD:H D=some (.dK kvs)) (k:∀ b,b≠D→H' b=H b):Att C H' d al gv sp:=by
 have nl:∀ {b:Addr} {o:HO},H b=some o→(∀ kvs,o≠.dK kvs)→H' b=some o:=fun {b o} e ne=>by
  rw [k b (fun z=>by subst z;rw [hD] at e;exact ne kvs (Option.some.inj e).symm)]
  exact e
 obtain ⟨dx,ob⟩:=T.ob
 exact ⟨⟨dx,nl ob (fun _ z=>by cases z)⟩,nl T.ha (fun _ z=>by cases z),T.la,fun i hi=>⟨nl (T.ra i hi).1 (fun _ z=>by cases z),(T.ra i hi).2⟩,nl T.hg (fun _ z=>by cases z),T.lg,T.ng,fun i hi=>nl (T.rg i hi) (fun _ z=>by cases z),nl T.hs (fun _ z=>by cases z),T.Sg,T.Gg,T.GS,T.Ag,T.AS⟩
theorem Att.same {C:Addr} {H H':Hp} {d:AtAd} {al gv:List (List Int)} {sp:List Int} (T:Att C H d al gv sp) (s:Same H H'):Att C H' d al gv sp:=by
 obtain ⟨dx,ob⟩:=T.ob
 exact ⟨⟨dx,s _ _ ob⟩,s _ _ T.ha,T.la,fun i hi=>⟨s _ _ (T.ra i hi).1,(T.ra i hi).2⟩,s _ _ T.hg,T.lg,T.ng,fun i hi=>s _ _ (T.rg i hi),s _ _ T.hs,T.Sg,T.Gg,T.GS,T.Ag,T.AS⟩
theorem zh8 {ps:List Addr} (nd:ps.Nodup) {i j:Nat} (hi:i < ps.length) (hj:j < ps.length) (h:ps.getD i 0=ps.getD j 0):i=j:=by
 rw [List.getD_eq_getElem?_getD,List.getD_eq_getElem?_getD,List.getElem?_eq_getElem hi,List.getElem?_eq_getElem hj] at h
 exact (List.getElem_inj nd).mp h
theorem Att.setRow {C:Addr} {H H':Hp} {d:AtAd} {al gv:List (List Int)} {sp row:List Int} {p:Nat} (T:Att C H d al gv sp) (hp:p < gv.length) (b:But (d.gps.getD p 0) H H') (e:H' (d.gps.getD p 0)=some (.lst (row.map V.int))):Att C H' d al (gv.set p row) sp:=by
 have l:=T.lg
 have hm:d.gps.getD p 0∈d.gps:=getD_mem (by omega)
 have nm:∀ {a:Addr},a∉d.gps→a≠d.gps.getD p 0:=fun h z=>h (z▸hm)
 obtain ⟨dx,ob⟩:=T.ob
 refine ⟨⟨dx,by rw [b _ (nm T.xg)];exact ob⟩,by rw [b _ (nm T.Ag)];exact T.ha,T.la,fun i hi=>⟨by rw [b _ (nm (T.ra i hi).2.1)];exact (T.ra i hi).1,(T.ra i hi).2⟩,by rw [b _ (nm T.Gg)];exact T.hg,by rw [List.length_set];exact l,T.ng,fun i hi=>?_,by rw [b _ (nm T.Sg)];exact T.hs,T.Sg,T.Gg,T.GS,T.Ag,T.AS⟩
 rw [List.length_set] at hi
 rw [zbg hp]
 by_cases ei:i=p
 ·subst ei;rw [if_pos rfl];exact e
 ·rw [if_neg ei,b _ (fun z=>ei (zh8 T.ng (by omega) (by omega) z))]
  exact T.rg i hi
theorem Att.setSp {C:Addr} {H H':Hp} {d:AtAd} {al gv:List (List Int)} {sp sp':List Int} (T:Att C H d al gv sp) (b:But d.S H H') (e:H' d.S=some (.lst (sp'.map V.int))):Att C H' d al gv sp':=by
 have l:=T.lg
 obtain ⟨dx,ob⟩:=T.ob
 refine ⟨⟨dx,by rw [b _ T.xS];exact ob⟩,by rw [b _ T.AS];exact T.ha,T.la,fun i hi=>⟨by rw [b _ (T.ra i hi).2.2];exact (T.ra i hi).1,(T.ra i hi).2⟩,by rw [b _ T.GS];exact T.hg,l,T.ng,fun i hi=>?_,e,T.Sg,T.Gg,T.GS,T.Ag,T.AS⟩
 rw [b _ (fun z=>T.Sg (z▸getD_mem (by omega)))]
 exact T.rg i hi
def Frm (d:AtAd) (D:Addr) (H H':Hp):Prop:=∀ b o,H b=some o→b∉d.gps→b≠d.S→b≠D→H' b=some o
theorem Frm.refl {d:AtAd} {D:Addr} {H:Hp}:Frm d D H H:=fun _ _ e _ _ _=>e
theorem Frm.trans {d:AtAd} {D:Addr} {H H1 H2:Hp} (a:Frm d D H H1) (b:Frm d D H1 H2):Frm d D H H2:=fun c o e h1 h2 h3=>b c o (a c o e h1 h2 h3) h1 h2 h3
theorem Frm.but {d:AtAd} {D a:Addr} {H H':Hp} (b:But a H H') (h:a∈d.gps∨a=d.S∨a=D):Frm d D H H':=fun c o e h1 h2 h3=>by
 rw [b c (fun z=>by subst z;rcases h with h | h | h <;> contradiction)]
 exact e
def KsOk (lim ks:List Int):Prop:=ks.Nodup∧∀ k∈ks,1≤k∧k≤lim.length
theorem KsOk.push {lim ks:List Int} {x:Int} (h:KsOk lim ks) (hx:x∉ks) (h1:1≤x∧x≤lim.length):KsOk lim (ks++[x]):=by
 refine ⟨List.nodup_append.mpr ⟨h.1,by simp,fun a ha b hb=>?_⟩,fun k hk=>?_⟩
 ·have:b=x:=by simpa using hb
  subst this
  intro e;subst e;exact hx ha
 ·rcases List.mem_append.mp hk with z | z
  ·exact h.2 k z
  ·have:k=x:=by simpa using z
   subst this;exact h1
def KpX (x:Addr) (H H':Hp):Prop:=∀ c o,H c=some o→c≠x→H' c=some o
theorem KpX.of {x:Addr} {H H':Hp} (s:Same H H'):KpX x H H':=fun c o e _=>s c o e
theorem KpX.but {x:Addr} {H H':Hp} (b:But x H H'):KpX x H H':=fun c o e n=>by rw [b c n];exact e
theorem KpX.trans {x:Addr} {H H1 H2:Hp} (a:KpX x H H1) (b:KpX x H1 H2):KpX x H H2:=fun c o e n=>b c o (a c o e n) n
theorem KpX.seq {K:PySem.W.Frag} {x C dx:Addr} {fs:List (Str×V)} {H H':Hp} {a:Addr} {xs:List V} (k:KpX x H H') (hx:H x=some (.ins C dx fs)) (h:SqL K H a xs):SqL K H' a xs:=by
 rcases h with (h | ⟨o,h⟩) | h
 ·exact .inl (.inl (k _ _ h (fun z=>by subst z;rw [hx] at h;cases h)))
 ·exact .inl (.inr ⟨o,k _ _ h (fun z=>by subst z;rw [hx] at h;cases h)⟩)
 ·exact .inr h
theorem KpX.ll {K:PySem.W.Frag} {x C dx:Addr} {fs:List (Str×V)} {H H':Hp} {a:Addr} {rs:List (List Int)} (k:KpX x H H') (hx:H x=some (.ins C dx fs)) (h:LL K H a rs):LL K H' a rs:=by
 obtain ⟨ps,h1,h2,h3⟩:=h
 exact ⟨ps,k.seq hx h1,h2,fun i hi=>k _ _ (h3 i hi) (fun z=>by have:=h3 i hi;rw [z,hx] at this;cases this)⟩
def zbM (K:PySem.W.Frag) (C:Addr):Sp:=fun vs H Q _=>vs.length=3∧∃ (x dx a b:Addr) (hs:List Int) (rs:List (List Int)),vs=[.ref x,.ref a,.ref b]∧H x=some (.ins C dx [])∧SqL K H a (hs.map V.int)∧LL K H b rs∧InB hs rs ∧
 ∀ (d:AtAd) H',d.x=x→(∀ c o,H c=some o→c≠x→H' c=some o)→(∀ g∈d.gps,H g=none)→H d.S=none →
  Att C H' d ((List.range hs.length).map fun i:Nat=>zam hs rs (1+(i:Int))) ((List.range hs.length).map fun _=>[]) ((List.range rs.length).map fun i=>(rs.getD i []).getD 1 0)→Q .non H'
theorem zc6 (T:Txt K mg t):FnOk P w K mg base CX0 3 t.f_Attempt___init__ t.d_Attempt___init__ ["self","papers","readers"] (zbM K t.C_Attempt):=by
 have G_readers_for:=zcX (P:=P) (w:=w) (base:=base) T
 refine T.F_Attempt___init__.ok sc_Attempt___init__ (fun vs H Q E h=>?_) (fun cdv A outer s H vs Q E hr h=>?_)
 ·exact (by obtain ⟨h,_⟩:=h;exact h)
 have TERM:∃ t',PSs (cxOf CX0 P w K mg base ["self","papers","readers"] "Attempt.__init__" (zab s_Attempt___init__) t.f_Attempt___init__ cdv A outer s H E).nox (zae s_Attempt___init__) t'∧t' ⟨fun _ H'=>Q .non H',Q,fun _ _=>False,fun _ _=>False⟩ (start ["self","papers","readers"] vs) H:=by
  refine ⟨_,(zac (zbt (K:=K) rfl (pv 0) (zaW (zap (sc:=zab s_Attempt___init__) (XN:=["self","papers","readers"]) (N:=["paper","papers","readers"]) (own:=1) (js:=[1,2]) rfl rfl (by decide +kernel)) rfl (zbl (by rfl) T.z_range (zaa zaf (zaa (zaw (op_addG) (zah (zak (K:=K) rfl) (by rfl) T.z_len (by rfl) (zaa (pv 1) pa_nil)) zaf) pa_nil))) (fun _ _ _ _ _=>(zaq (i:=0) (show List.Nodup [(Str.ofString "paper"),(Str.ofString "papers"),(Str.ofString "readers")] by decide +kernel) rfl (by first | exact Or.inl rfl | exact Or.inr rfl))) (fun _ _ _ _ _=>za9) (fun _ _ _ _ _=>(zao (G_readers_for) (hr.mono (by decide)) (by rfl) T.m_readers_for T.F_readers_for.kp T.b_readers_for .nil zav (zaa (pv 1) (zaa (pv 2) (zaa (pv 0) pa_nil)))))))
   (zac (zbt (K:=K) rfl (pv 0) (zaW (zap (sc:=zab s_Attempt___init__) (XN:=["self","papers","readers"]) (N:=["house"]) (own:=1) (js:=[]) rfl rfl (by decide +kernel)) rfl (zaE (K:=K) rfl (pv 1)) (fun _ _ _ _ _=>(zaq (i:=0) (show List.Nodup [(Str.ofString "house")] by decide +kernel) rfl (by first | exact Or.inl rfl | exact Or.inr rfl))) (fun _ _ _ _ _=>za9) (fun _ _ _ _ _=>(zaP pa_nil))))
   (zad (zbt (K:=K) rfl (pv 0) (zaW (zap (sc:=zab s_Attempt___init__) (XN:=["self","papers","readers"]) (N:=["row"]) (own:=1) (js:=[]) rfl rfl (by decide +kernel)) rfl (zaE (K:=K) rfl (pv 2)) (fun _ _ _ _ _=>(zaq (i:=0) (show List.Nodup [(Str.ofString "row")] by decide +kernel) rfl (by first | exact Or.inl rfl | exact Or.inr rfl))) (fun _ _ _ _ _=>za9) (fun _ _ _ _ _=>(zaH (zai (K:=K) rfl) (pv 0) zaf (fun _ _=>rfl)))))))),?_⟩
  obtain ⟨_,x,dx,a,b,hs,rs,rfl,hx,ha,L,B,q⟩:=h
  obtain ⟨psr,hb,hpl,hpr⟩:=id L
  have B1:=B.lp
  have B2:=B.lr
  have hcl:=T.cl_Attempt
  have hnA:=T.n_Attempt_allowed
  have hnG:=T.n_Attempt_given
  have hnS:=T.n_Attempt_spare
  walk_at "rd"
  refine zde ⟨by omega,by omega,by omega,by omega⟩ ?_
  have en:((hs.length:Int)+1-1).toNat=hs.length:=by omega
  rw [en]
  refine zbu (zby (zbK.one (zbG _ _ _)) (by omega) (fun i:Nat=>zam hs rs (1+(i:Int))) (fun i H' Q' hi s q'=>?_) fun p1 H1 R1=>?_)
  ·show (_:TE) (some (.int (1+(i:Int)))::_) _ _
   walk_at "rd"
   exact zdl (s.seq ha) (L.same s) (by omega) (by omega) (by omega) B.r2 q'
  obtain ⟨s1,f1,ps1,e1,l1,nd1,r1⟩:=id R1
  rw [List.length_map,List.length_range] at l1 r1
  walk_at "rd"
  refine za1 (s1 _ _ hx) hcl hnA (by show 0 < 1000;decide) fun H2 b2 e2=>?_
  have nx:∀ {c:Addr},H c=none→c≠x:=fun h z=>by subst z;rw [hx] at h;cases h
  have k2:KpX x H H2:=(KpX.of s1).trans (KpX.but b2)
  have ha2:=k2.seq hx ha
  have L2:=k2.ll hx L
  obtain ⟨psr2,hb2,hpl2,hpr2⟩:=id L2
  walk_at "rd"
  refine zaO ha2 ?_
  have ehl:(hs.map V.int).length=hs.length:=List.length_map ..
  refine zbu (zby (zbK.one (za6 ha2)) (by omega) (fun _=>[]) (fun i H' Q' hi s q'=>?_) fun p3 H3 R3=>?_)
  ·show (_:TE) (some ((hs.map V.int).getD i .non)::_) _ _
   walk_at "rd"
   exact zax (by simp) q'
  obtain ⟨s3,f3,ps3,e3,l3,nd3,r3⟩:=id R3
  rw [List.length_map,List.length_range,ehl] at l3 r3
  walk_at "rd"
  refine za1 (s3 _ _ e2) hcl hnG (by show 1 < 1000;decide) fun H4 b4 e4=>?_
  have k4:KpX x H2 H4:=(KpX.of s3).trans (KpX.but b4)
  have L4:=k4.ll e2 L2
  obtain ⟨psr4,hb4,hpl4,hpr4⟩:=id L4
  have er4:(psr4.map V.ref).length=rs.length:=by rw [List.length_map];exact hpl4
  walk_at "rd"
  refine zaO hb4 ?_
  refine zfT (za6 hb4) (by omega) (fun i=>(rs.getD i []).getD 1 0) (fun i H' Q' hi s q'=>?_) fun p5 H5 f5 s5 e5=>?_
  ·have hi':i < rs.length:=by omega
   have ex:(psr4.map V.ref).getD i .non=.ref (psr4.getD i 0):=by
    rw [List.getD_eq_getElem?_getD,List.getElem?_map,List.getElem?_eq_getElem (by omega),List.getD_eq_getElem?_getD,List.getElem?_eq_getElem (by omega)];rfl
   rw [ex]
   have h2:=B.r2 i hi'
   have hrow:=s _ _ (hpr4 i hi')
   walk_at "rd"
   exact q'
  walk_at "rd"
  refine za1 (s5 _ _ e4) hcl hnS (by show 2 < 1000;decide) fun H6 b6 e6=>?_
  rw [er4] at e5
  have k6:KpX x H4 H6:=(KpX.of s5).trans (KpX.but b6)
  have c12:∀ {c:Addr} {o:HO},H1 c=some o→c≠x→H2 c=some o:=fun e h=>by rw [b2 _ h];exact e
  have c34:∀ {c:Addr} {o:HO},H3 c=some o→c≠x→H4 c=some o:=fun e h=>by rw [b4 _ h];exact e
  have c56:∀ {c:Addr} {o:HO},H5 c=some o→c≠x→H6 c=some o:=fun e h=>by rw [b6 _ h];exact e
  have n2:∀ {c:Addr},H2 c=none→c≠x:=fun h z=>by subst z;rw [e2] at h;cases h
  have n4:∀ {c:Addr},H4 c=none→c≠x:=fun h z=>by subst z;rw [e4] at h;cases h
  have fr2:∀ {c:Addr},H2 c=none→H c=none:=fun h=>s1.free (by rw [← b2 _ (n2 h)];exact h)
  have fr4:∀ {c:Addr},H4 c=none→H2 c=none:=fun h=>s3.free (by rw [← b4 _ (n4 h)];exact h)
  have hp1x:p1≠x:=nx f1
  have hp3x:p3≠x:=n2 f3
  have hp5x:p5≠x:=n4 f5
  have A2:=c12 e1 hp1x
  have A4:=k4 _ _ A2 hp1x
  have G4:=c34 e3 hp3x
  refine q ⟨x,p1,p3,p5,ps1,ps3⟩ H6 rfl ((k2.trans k4).trans k6) (fun g hg=>?_) (fr2 (fr4 f5)) ⟨⟨dx,e6⟩,k6 _ _ A4 hp1x,by rw [List.length_map,List.length_range];exact l1,fun i hi=>?_,k6 _ _ G4 hp3x,by rw [List.length_map,List.length_range];exact l3,nd3,fun i hi=>?_,c56 e5 hp5x,fun z=>?_,fun z=>?_,fun z=>?_,fun z=>?_,fun z=>?_⟩
  ·obtain ⟨i,hi,rfl⟩:=mem_getD (d:=0) hg
   have hi:i < ps3.length:=hi
   exact fr2 (r3 i (by omega)).2.1
  ·rw [List.length_map,List.length_range] at hi
   obtain ⟨g1,g2,g3⟩:=r1 i hi
   have h2:=c12 g1 (nx g2)
   have h4:=k4 _ _ h2 (nx g2)
   refine ⟨k6 _ _ h4 (nx g2),fun z=>?_,fun z=>?_⟩
   ·obtain ⟨j,hj,ej⟩:=mem_getD (d:=0) z
    have hj:j < ps3.length:=hj
    have:=(r3 j (by omega)).2.1
    have ej':ps3.getD j 0=ps1.getD i 0:=ej
    rw [ej',h2] at this
    cases this
   ·have z':ps1.getD i 0=p5:=z
    rw [z',f5] at h4
    cases h4
  ·rw [List.length_map,List.length_range] at hi
   obtain ⟨g1,g2,g3⟩:=r3 i hi
   exact k6 _ _ (c34 g1 (n2 g2)) (n2 g2)
  ·obtain ⟨j,hj,ej⟩:=mem_getD (d:=0) z
   have hj:j < ps3.length:=hj
   obtain ⟨g1,g2,g3⟩:=r3 j (by omega)
   have h4:=c34 g1 (n2 g2)
   have ej':ps3.getD j 0=p5:=ej
   rw [ej',f5] at h4
   cases h4
  ·obtain ⟨j,hj,ej⟩:=mem_getD (d:=0) z
   have hj:j < ps3.length:=hj
   exact (r3 j (by omega)).2.2 ej
  ·have z':p3=p5:=z
   rw [z',f5] at G4
   cases G4
  ·obtain ⟨j,hj,ej⟩:=mem_getD (d:=0) z
   have hj:j < ps3.length:=hj
   have:=(r3 j (by omega)).2.1
   have ej':ps3.getD j 0=p1:=ej
   rw [ej',A2] at this
   cases this
  ·have z':p1=p5:=z
   rw [z',f5] at A4
   cases A4
 exact TERM
theorem zm0 {K:PySem.W.Frag} {C:Addr} {H:Hp} {Q:VK} {E:XK} {x dx a b:Addr} {hs:List Int} {rs:List (List Int)} (h1:H x=some (.ins C dx [])) (h2:SqL K H a (hs.map V.int)) (h3:LL K H b rs) (B:InB hs rs)
  (q:∀ (d:AtAd) H',d.x=x→(∀ c o,H c=some o→c≠x→H' c=some o)→(∀ g∈d.gps,H g=none)→H d.S=none →
   Att C H' d ((List.range hs.length).map fun i:Nat=>zam hs rs (1+(i:Int))) ((List.range hs.length).map fun _=>[]) ((List.range rs.length).map fun i=>(rs.getD i []).getD 1 0)→Q .non H'):zbM K C [.ref x,.ref a,.ref b] H Q E:=⟨rfl,x,dx,a,b,hs,rs,rfl,h1,h2,h3,B,q⟩
def zaN (K:PySem.W.Frag) (C:Addr) (n:Nat):Sp:=fun vs H Q _=>vs.length=3∧∃ (d:AtAd) (p:Int) (D:Addr) (al gv:List (List Int)) (lim sp ks:List Int),vs=[.ref d.x,.int p,.ref D]∧Att C H d al gv sp∧H D=some (.dK (kvT ks))∧Vld al gv lim sp 0∧KsOk lim ks∧lim.length≤ks.length+n∧lim.length≤8∧gv.length≤10∧1≤p∧p≤gv.length ∧
 (∀ H' gv' sp',Frm d D H H'→Att C H' d al gv' sp'→Fnd al gv gv' lim sp' ks (p-1).toNat→Q (.bl true) H') ∧
 (∀ H' ls,Frm d D H H'→Att C H' d al gv sp→H' D=some (.dK (kvT ls))→KsOk lim ls→Cls2 al gv sp ks ls→Cov al gv ls (p-1).toNat→Q (.bl false) H')
def zaK (K:PySem.W.Frag) (C:Addr) (n:Nat):Sp:=fun vs H Q _=>vs.length=3∧∃ (d:AtAd) (r:Int) (D:Addr) (al gv:List (List Int)) (lim sp ks:List Int),vs=[.ref d.x,.int r,.ref D]∧Att C H d al gv sp∧H D=some (.dK (kvT ks))∧Vld al gv lim sp 0∧KsOk lim ks∧lim.length≤ks.length+n∧lim.length≤8∧gv.length≤10∧r∈ks ∧
 (∀ H' gv' sp',Frm d D H H'→Att C H' d al gv' sp'→Fre al gv gv' lim sp' ks r→Q (.bl true) H') ∧
 (∀ H' ls,Frm d D H H'→Att C H' d al gv sp→H' D=some (.dK (kvT ls))→KsOk lim ls→Cls2 al gv sp ks ls→sp.getD (r-1).toNat 0=0→(∀ q,q < gv.length→r∈gv.getD q []→Cov al gv ls q)→Q (.bl false) H')
def zjC (K:PySem.W.Frag) (C:Addr):Nat→Sp
 | 0=>fun _ _ _ _=>False
 | n+1=>zaK K C n
theorem zgU {K:PySem.W.Frag} {C:Addr} {n:Nat}:zjC K C (n+1)=zaK K C n:=rfl
theorem zk9 {K:PySem.W.Frag} {C:Addr} {n:Nat} {H:Hp} {Q:VK} {E:XK} {d:AtAd} {p:Int} {D:Addr} {al gv:List (List Int)} {lim sp ks:List Int} (T:Att C H d al gv sp) (hD:H D=some (.dK (kvT ks))) (V:Vld al gv lim sp 0) (k:KsOk lim ks) (hn:lim.length≤ks.length+n) (hm:lim.length≤8) (h10:gv.length≤10) (p1:1≤p) (p2:p≤gv.length)
  (q1:∀ H' gv' sp',Frm d D H H'→Att C H' d al gv' sp'→Fnd al gv gv' lim sp' ks (p-1).toNat→Q (.bl true) H')
  (q2:∀ H' ls,Frm d D H H'→Att C H' d al gv sp→H' D=some (.dK (kvT ls))→KsOk lim ls→Cls2 al gv sp ks ls→Cov al gv ls (p-1).toNat→Q (.bl false) H'):zaN K C n [.ref d.x,.int p,.ref D] H Q E:=⟨rfl,d,p,D,al,gv,lim,sp,ks,rfl,T,hD,V,k,hn,hm,h10,p1,p2,q1,q2⟩
theorem zm1 {K:PySem.W.Frag} {C:Addr} {n:Nat} {H:Hp} {Q:VK} {E:XK} {d:AtAd} {r:Int} {D:Addr} {al gv:List (List Int)} {lim sp ks:List Int} (T:Att C H d al gv sp) (hD:H D=some (.dK (kvT ks))) (V:Vld al gv lim sp 0) (k:KsOk lim ks) (hn:lim.length≤ks.length+n) (hm:lim.length≤8) (h10:gv.length≤10) (hr:r∈ks)
  (q1:∀ H' gv' sp',Frm d D H H'→Att C H' d al gv' sp'→Fre al gv gv' lim sp' ks r→Q (.bl true) H')
  (q2:∀ H' ls,Frm d D H H'→Att C H' d al gv sp→H' D=some (.dK (kvT ls))→KsOk lim ls→Cls2 al gv sp ks ls→sp.getD (r-1).toNat 0=0→(∀ q,q < gv.length→r∈gv.getD q []→Cov al gv ls q)→Q (.bl false) H'):zaK K C n [.ref d.x,.int r,.ref D] H Q E:=⟨rfl,d,r,D,al,gv,lim,sp,ks,rfl,T,hD,V,k,hn,hm,h10,hr,q1,q2⟩
theorem zbf (T:Txt K mg t) (kk d:Nat) (G_Attempt_find_reader:FnOk P w K mg base CX0 kk t.f_Attempt_find_reader t.d_Attempt_find_reader ["self","paper","asked"] (zaN K t.C_Attempt d)):FnOk P w K mg base CX0 (kk+1) t.f_Attempt_free_reading t.d_Attempt_free_reading ["self","reader","asked"] (zaK K t.C_Attempt d):=by
 refine T.F_Attempt_free_reading.ok sc_Attempt_free_reading (fun vs H Q E h=>?_) (fun cdv A outer s H vs Q E hr h=>?_)
 ·exact (by obtain ⟨h,_⟩:=h;exact h)
 have TERM:∃ t',PSs (cxOf CX0 P w K mg base ["self","reader","asked","paper"] "Attempt.free_reading" (zab s_Attempt_free_reading) t.f_Attempt_free_reading cdv A outer s H E).nox (zae s_Attempt_free_reading) t'∧t' ⟨fun _ H'=>Q .non H',Q,fun _ _=>False,fun _ _=>False⟩ (start ["self","reader","asked","paper"] vs) H:=by
  refine ⟨_,(zac (zaV (zay (op_gt) (zaH (zai (K:=K) rfl) (zaz (K:=K) rfl (pv 0)) (zaw (op_sub) (pv 1) zaf) (fun _ _=>rfl)) zaf (zaJ _))
   (zac (zle (zaz (K:=K) rfl (pv 0)) (zaw (op_sub) (pv 1) zaf) (zjt (K:=K) rfl) zaf ip_sub set_list)
   (zad (zaj za4))) pss_nil)
   (zac (za2 PassesOwn.never rfl (zbl (by rfl) T.z_range (zaa zaf (zaa (zaw (op_addG) (zah (zak (K:=K) rfl) (by rfl) T.z_len (by rfl) (zaa (zaz (K:=K) rfl (pv 0)) pa_nil)) zaf) pa_nil))) (zaq (i:=3) sc_Attempt_free_reading.nd rfl (by first | exact Or.inl rfl | exact Or.inr rfl))
   (zad (zaV (zkw (zay (ze7 (K:=K) rfl (zeN hr)) (pv 1) (zaH (zai (K:=K) rfl) (zaz (K:=K) rfl (pv 0)) (zaw (op_sub) (pv 3) zaf) (fun _ _=>rfl)) (by with_unfolding_all rfl)) (ziq (zas (K:=K) rfl (zbH (pv 0) T.cl_Attempt T.me_Attempt_find_reader (G_Attempt_find_reader) (hr.mono (by first | decide | exact Nat.le_refl _)) T.b_Attempt_find_reader .nil zav (zaa (pv 3) (zaa (pv 2) pa_nil))) (fun _=>rfl)))).pt
   (zac (zaM (zbW (K:=K) rfl PySem.F.plainAttrs_list PySem.F.slot_list_remove PySem.F.type_list_remove mt_remove (zaH (zai (K:=K) rfl) (zaz (K:=K) rfl (pv 0)) (zaw (op_sub) (pv 3) zaf) (fun _ _=>rfl)) (zaa (pv 1) pa_nil)))
   (zad (zaj za4))) pss_nil)))
   (zad (zaj za4)))),?_⟩
  obtain ⟨_,dd,r,D,al,gv,lim,sp,ks,rfl,A,hD,Vd,hk,hn,hm,h10,hrk,q1,q2⟩:=h
  have hcl:=T.cl_Attempt
  have hnS:=T.n_Attempt_spare
  have hnG:=T.n_Attempt_given
  obtain ⟨dx,hob⟩:=A.ob
  have fS:=zmY dd.A dd.G dd.S
  have fG:=zk8 dd.A dd.G dd.S
  have fM:=zgT dd.A dd.G dd.S (m:="find_reader") (by decide +kernel) (by decide +kernel) (by decide +kernel)
  obtain ⟨r1,r2⟩:=hk.2 r hrk
  have lsp:=Vd.ls
  have hS:=A.hs
  walk_at "rd"
  refine zct (fun h0=>?_) (fun h0=>?_)
  ·walk_at "rd"
   refine zmK (SqL.of hS) (by omega) (by omega) ?_
   walk_at "rd"
   refine zhi hS (by omega) (by rw [List.length_map];omega) fun H1 b1 e1=>?_
   walk_at "rd"
   refine q1 H1 gv _ (Frm.but b1 (.inr (.inl rfl))) (A.setSp (sp':=sp.set (r-1).toNat (sp.getD (r-1).toNat 0-1)) b1 ?_) (Vd.taken r1 r2 h0)
   rw [e1,List.map_set]
  ·have hz:sp.getD (r-1).toNat 0=0:=by have:=Vd.s0 (r-1).toNat (by omega);omega
   have hGl:=A.hg
   have lg:=A.lg
   walk_at "rd"
   refine zde ⟨by omega,by omega,by omega,by omega⟩ ?_
   have en:((dd.gps.length:Int)+1-1).toNat=gv.length:=by omega
   rw [en]
   refine zbI (fun i σ H'=>∃ ls v,σ=[some (.ref dd.x),some (.int r),some (.ref D),v]∧Frm dd D H H'∧Att t.C_Attempt H' dd al gv sp∧H' D=some (.dK (kvT ls))∧KsOk lim ls∧Cls2 al gv sp ks ls∧∀ q,q < i→r∈gv.getD q []→Cov al gv ls q) ⟨ks,none,rfl,Frm.refl,A,hD,hk,Cls2.refl,fun q hq=>absurd hq (by omega)⟩ ?_ ?_
   ·rintro i σ H' hi ⟨ls,v,rfl,F',A',hD',hk',C',hc⟩
    obtain ⟨dx',hob'⟩:=A'.ob
    have hGl':=A'.hg
    have hrow:=A'.rg i hi
    have ei:(1+(i:Int)-1).toNat=i:=by omega
    have hl':lim.length≤ls.length+d:=by
     have:=List.Nodup.length_le_of_subset hk.1 (fun z hz=>C'.1 z hz:ks ⊆ ls)
     omega
    walk_at "rd"
    rw [ei]
    walk_at "rd"
    by_cases hin:r∈gv.getD i []
    ·rw [decide_eq_true hin]
     refine iteT ?_
     walk_at "rd"
     refine zaG hob' fM ?_
     walk_at "rd"
     refine zk9 A' hD' Vd hk' hl' hm h10 (by omega) (by omega) (fun H2 gv2 sp2 F2 A2 N2=>?_) (fun H2 ls2 F2 A2 hD2 hk2 C2 hc2=>?_)
     ·walk_at "rd"
      refine iteT ?_
      rw [ei] at N2
      obtain ⟨dx2,hob2⟩:=A2.ob
      have hGl2:=A2.hg
      have lg2:=N2.lg
      have hrow2:=A2.rg i (by omega)
      obtain ⟨hx2,N3⟩:=N2.freed hi hin (C'.1 r hrk)
      walk_at "rd"
      rw [ei]
      walk_at "rd"
      refine zgL hrow2 hx2 fun H3 b3 e3=>?_
      walk_at "rd"
      refine q1 H3 _ sp2 ((F'.trans F2).trans (Frm.but b3 (.inl (getD_mem (by omega))))) (A2.setRow (by omega) b3 e3) ⟨N3.v,N3.lg,N3.len,fun z hz=>N3.old z (C'.1 z hz),N3.own⟩
     ·walk_at "rd"
      refine iteF ?_
      walk_at "rd"
      rw [ei] at hc2
      refine ⟨ls2,_,rfl,F'.trans F2,A2,hD2,hk2,C'.trans C2,fun q hq hqr=>?_⟩
      by_cases e:q=i
      ·subst e;exact hc2
      ·exact (hc q (by omega) hqr).mono C2.1
    ·rw [decide_eq_false hin]
     refine iteF ?_
     walk_at "rd"
     refine ⟨ls,_,rfl,F',A',hD',hk',C',fun q hq hqr=>?_⟩
     by_cases e:q=i
     ·subst e;exact absurd hqr hin
     ·exact hc q (by omega) hqr
   ·rintro σ H' ⟨ls,v,rfl,F',A',hD',hk',C',hc⟩
    walk_at "rd"
    exact q2 H' ls F' A' hD' hk' C' hz hc
 exact TERM
theorem zbj (T:Txt K mg t) (kk d:Nat) (G_Attempt_free_reading:FnOk P w K mg base CX0 kk t.f_Attempt_free_reading t.d_Attempt_free_reading ["self","reader","asked"] (zjC K t.C_Attempt d)):FnOk P w K mg base CX0 (kk+1) t.f_Attempt_find_reader t.d_Attempt_find_reader ["self","paper","asked"] (zaN K t.C_Attempt d):=by
 refine T.F_Attempt_find_reader.ok sc_Attempt_find_reader (fun vs H Q E h=>?_) (fun cdv A outer s H vs Q E hr h=>?_)
 ·exact (by obtain ⟨h,_⟩:=h;exact h)
 have TERM:∃ t',PSs (cxOf CX0 P w K mg base ["self","paper","asked","reader"] "Attempt.find_reader" (zab s_Attempt_find_reader) t.f_Attempt_find_reader cdv A outer s H E).nox (zae s_Attempt_find_reader) t'∧t' ⟨fun _ H'=>Q .non H',Q,fun _ _=>False,fun _ _=>False⟩ (start ["self","paper","asked","reader"] vs) H:=by
  refine ⟨_,(zac (za2 PassesOwn.never rfl (zaE (K:=K) rfl (zaH (zai (K:=K) rfl) (zaz (K:=K) rfl (pv 0)) (zaw (op_sub) (pv 1) zaf) (fun _ _=>rfl))) (zaq (i:=3) sc_Attempt_find_reader.nd rfl (by first | exact Or.inl rfl | exact Or.inr rfl))
   (zac (zaV (zc2 (zkv (zmk (zeN hr) (pv 3) (pv 2))) (zbT (zay (ze7 (K:=K) rfl (zeN hr)) (pv 3) (zaH (zai (K:=K) rfl) (zaz (K:=K) rfl (pv 0)) (zaw (op_sub) (pv 1) zaf) (fun _ _=>rfl)) (by with_unfolding_all rfl)))).pt
   (zad ps_continue) pss_nil)
   (zac (zlw (zeN hr) (pv 2) (pv 3) za4 rfl)
   (zad (zaV (zas (K:=K) rfl (zbH (pv 0) T.cl_Attempt T.me_Attempt_free_reading (G_Attempt_free_reading) (hr.mono (by first | decide | exact Nat.le_refl _)) T.b_Attempt_free_reading .nil zav (zaa (pv 3) (zaa (pv 2) pa_nil))) (fun _=>rfl))
   (zac (zaM (zbW (K:=K) rfl PySem.F.plainAttrs_list PySem.F.slot_list_append PySem.F.type_list_append mt_append (zaH (zai (K:=K) rfl) (zaz (K:=K) rfl (pv 0)) (zaw (op_sub) (pv 1) zaf) (fun _ _=>rfl)) (zaa (pv 3) pa_nil)))
   (zad (zaj za4))) pss_nil)))))
   (zad (zaj za4))),?_⟩
  obtain ⟨_,dd,p,D,al,gv,lim,sp,ks,rfl,A,hD,Vd,hk,hn,hm,h10,p1,p2,q1,q2⟩:=h
  have hcl:=T.cl_Attempt
  have hnA:=T.n_Attempt_allowed
  have hnG:=T.n_Attempt_given
  obtain ⟨dx,hob⟩:=A.ob
  have fA:=zmZ dd.A dd.G dd.S
  have fG:=zk8 dd.A dd.G dd.S
  have fM:=zgT dd.A dd.G dd.S (m:="free_reading") (by decide +kernel) (by decide +kernel) (by decide +kernel)
  have lga:=Vd.lg
  have lg:=A.lg
  have la:=A.la
  have hA:=A.ha
  have hpl:(p-1).toNat < gv.length:=by omega
  walk_at "rd"
  generalize ep:(p-1).toNat=pn at *
  obtain ⟨hrow,hnm1,hnm2⟩:=A.ra pn (by omega)
  refine zaO (SqL.of hrow) ?_
  refine zb3 (xs:=(al.getD pn []).map V.int) (fun i σ H'=>∃ ls v,σ=[some (.ref dd.x),some (.int p),some (.ref D),v]∧Frm dd D H H'∧Att t.C_Attempt H' dd al gv sp∧H' D=some (.dK (kvT ls))∧KsOk lim ls∧Cls2 al gv sp ks ls∧∀ j,j < i→(al.getD pn []).getD j 0∈ls∨(al.getD pn []).getD j 0∈gv.getD pn []) ⟨ks,none,rfl,Frm.refl,A,hD,hk,Cls2.refl,fun q hq=>absurd hq (by omega)⟩ ?_ ?_ ?_
  ·rintro i σ H' _ ⟨ls,v,rfl,F',A',_⟩
   exact SqL.of (A'.ra pn (by omega)).1
  ·rintro i x σ H' hx ⟨ls,v,rfl,F',A',hD',hk',C',hc⟩
   obtain ⟨hi,rfl⟩:=zdx hx
   have hxm:(al.getD pn []).getD i 0∈al.getD pn []:=getD_mem hi
   generalize hxe:(al.getD pn []).getD i 0=x at *
   obtain ⟨dx',hob'⟩:=A'.ob
   have hG':=A'.hg
   have hgr:=A'.rg pn hpl
   have hxr:=Vd.ar pn (by omega) x hxm
   walk_at "rd"
   refine zkg hD' ?_
   walk_at "rd"
   have done:∀ ls2,Cls2 al gv sp ls ls2→(x∈ls2∨x∈gv.getD pn [])→∀ j,j < i+1→(al.getD pn []).getD j 0∈ls2∨(al.getD pn []).getD j 0∈gv.getD pn []:=fun ls2 C2 h j hj=>by
    by_cases e:j=i
    ·subst e;rw [hxe];exact h
    ·exact (hc j (by omega)).elim (fun z=>.inl (C2.1 _ z)) .inr
   by_cases h1:x∈ls
   ·rw [decide_eq_true h1]
    refine iteT ?_
    walk_at "rdk"
    exact ⟨ls,_,rfl,F',A',hD',hk',C',done ls Cls2.refl (.inl h1)⟩
   rw [decide_eq_false h1]
   refine iteF ?_
   walk_at "rd"
   rw [ep]
   walk_at "rd"
   by_cases h2:x∈gv.getD pn []
   ·rw [decide_eq_true h2]
    refine iteT ?_
    walk_at "rd"
    exact ⟨ls,_,rfl,F',A',hD',hk',C',done ls Cls2.refl (.inr h2)⟩
   rw [decide_eq_false h2]
   refine iteF ?_
   have hk1:=hk'.push h1 hxr
   have hl1:=zmX hk1.1 hk1.2
   rw [List.length_append,List.length_singleton] at hl1
   have hsub:=List.Nodup.length_le_of_subset hk.1 (fun z hz=>C'.1 z hz:ks ⊆ ls)
   walk_at "rd"
   refine zjw hD' (by omega) h1 fun H1 b1 e1=>?_
   have A1:=A'.keep hD' b1
   obtain ⟨dx1,hob1⟩:=A1.ob
   walk_at "rd"
   refine zaG hob1 fM ?_
   walk_at "rd"
   obtain ⟨d',rfl⟩:∃ d',d=d'+1:=⟨d-1,by omega⟩
   rw [zgU]
   refine zm1 (n:=d') (r:=x) A1 e1 Vd hk1 (by rw [List.length_append,List.length_singleton];omega) hm h10 (by simp) (fun H2 gv2 sp2 F2 A2 N2=>?_) (fun H2 ls2 F2 A2 hD2 hk2 C2 hz2 hc2=>?_)
   ·walk_at "rd"
    refine iteT ?_
    obtain ⟨dx2,hob2⟩:=A2.ob
    have hG2:=A2.hg
    have lg2:=N2.lg
    have hrow2:=A2.rg pn (by omega)
    have N3:=N2.found hpl hxm h2 h1
    have hlen:(gv2.getD pn []).length≤8:=by
     have:=zmX (N2.v.nd pn (by omega)) fun r hr=>N2.v.ar pn (by omega) r (N2.v.sub pn (by omega) r hr)
     omega
    walk_at "rd"
    rw [ep]
    walk_at "rd"
    refine zaT hrow2 (by rw [List.length_map];omega) fun H3 b3 e3=>?_
    walk_at "rd"
    refine q1 H3 _ sp2 (((F'.trans (Frm.but b1 (.inr (.inr rfl)))).trans F2).trans (Frm.but b3 (.inl (getD_mem (by omega))))) (A2.setRow (row:=gv2.getD pn []++[x]) (by omega) b3 (by rw [e3,List.map_append];rfl)) ⟨N3.v,N3.lg,N3.len,fun z hz=>N3.old z (C'.1 z hz)⟩
   ·walk_at "rd"
    refine iteF ?_
    walk_at "rd"
    have C3:=C2.one hz2 hc2
    exact ⟨ls2,_,rfl,(F'.trans (Frm.but b1 (.inr (.inr rfl)))).trans F2,A2,hD2,hk2,C'.trans C3,done ls2 C3 (.inl (C2.1 x (by simp)))⟩
  ·rintro σ H' ⟨ls,v,rfl,F',A',hD',hk',C',hc⟩
   walk_at "rd"
   refine q2 H' ls F' A' hD' hk' C' fun r hr=>?_
   obtain ⟨j,hj,rfl⟩:=mem_getD (d:=0) hr
   exact hc j (by rw [List.length_map];exact hj)
 exact TERM
theorem zjD (T:Txt K mg t):∀ n:Nat,FnOk P w K mg base CX0 (2 * n+1) t.f_Attempt_find_reader t.d_Attempt_find_reader ["self","paper","asked"] (zaN K t.C_Attempt n)∧FnOk P w K mg base CX0 (2 * n+2) t.f_Attempt_free_reading t.d_Attempt_free_reading ["self","reader","asked"] (zaK K t.C_Attempt n)
 | 0=>by
   have G0:FnOk P w K mg base CX0 0 t.f_Attempt_free_reading t.d_Attempt_free_reading ["self","reader","asked"] (zjC K t.C_Attempt 0):=⟨fun _ _ _ _ z=>z.elim,fun _ _ _ _ _ _ _ _ _ _ _ _ _ z=>z.elim⟩
   have G1:=zbj T 0 0 G0
   exact ⟨G1,zbf T 1 0 G1⟩
 | n+1=>by
   have G0:=(zjD T n).2
   have G1:=zbj T (2 * n+2) (n+1) G0
   exact ⟨G1,zbf T (2 * n+3) (n+1) G1⟩
theorem zcu (T:Txt K mg t):FnOk P w K mg base CX0 17 t.f_Attempt_find_reader t.d_Attempt_find_reader ["self","paper","asked"] (zaN K t.C_Attempt 8):=(zjD T 8).1
theorem zhA {hs:List Int} {rs:List (List Int)} {q r:Nat} (hr:r < rs.length):((r:Int)+1∈zam hs rs (1+(q:Int)))↔zbb hs rs q r=true:=by
 unfold zam
 have e:(1+(q:Int)-1).toNat=q:=by omega
 constructor
 ·intro h
  obtain ⟨i,hi,ei⟩:=List.mem_map.mp h
  have:i=r:=by omega
  subst this
  have:=(List.mem_filter.mp hi).2
  unfold mayB at this
  rw [e] at this
  exact this
 ·intro h
  refine List.mem_map.mpr ⟨r,List.mem_filter.mpr ⟨List.mem_range.mpr hr,?_⟩,by omega⟩
  unfold mayB
  rw [e]
  exact h
theorem zla {hs:List Int} {rs:List (List Int)} {k x:Int} (h:x∈zam hs rs k):1≤x∧x≤rs.length:=by
 unfold zam at h
 obtain ⟨i,hi,rfl⟩:=List.mem_map.mp h
 have:=List.mem_range.mp (List.mem_filter.mp hi).1
 omega
theorem cnt_nil (n:Nat) (x:Int):cntB ((List.range n).map fun _=>([]:List Int)) x=0:=by
 unfold cntB
 rw [List.length_eq_zero_iff,List.filter_eq_nil_iff]
 intro a ha
 obtain ⟨_,_,rfl⟩:=List.mem_map.mp ha
 simp
theorem zjE {hs:List Int} {rs:List (List Int)} (B:InB hs rs):Vld ((List.range hs.length).map fun i:Nat=>zam hs rs (1+(i:Int))) ((List.range hs.length).map fun _=>[]) ((List.range rs.length).map fun i=>(rs.getD i []).getD 1 0) ((List.range rs.length).map fun i=>(rs.getD i []).getD 1 0) 0:=by
 refine ⟨by simp,rfl,fun q hq=>?_,fun q hq r hr=>?_,fun q hq r hr=>?_,fun r hr=>?_,fun r hr=>?_⟩
 ·rw [List.length_map,List.length_range] at hq
  rw [zau hq]
  exact List.nodup_nil
 ·rw [List.length_map,List.length_range] at hq
  rw [zau hq] at hr
  cases hr
 ·rw [List.length_map,List.length_range] at hq
  rw [zau hq] at hr
  rw [List.length_map,List.length_range]
  exact zla hr
 ·rw [List.length_map,List.length_range] at hr
  rw [zau hr]
  exact (B.rl r hr).1
 ·rw [List.length_map,List.length_range] at hr
  rw [zau hr,cnt_nil,if_neg (by omega)]
  simp
def zb0 (K:PySem.W.Frag):Sp:=fun vs H Q _=>vs.length=2∧∃ (a b:Addr) (hs:List Int) (rs:List (List Int)),vs=[.ref a,.ref b]∧SqL K H a (hs.map V.int)∧LL K H b rs∧InB hs rs∧((∃ rows,zaS hs rs rows=true)→∀ H',Same H H'→Q (.bl true) H')∧((∀ rows,zaS hs rs rows=false)→∀ H',Same H H'→Q (.bl false) H')
theorem zdo (T:Txt K mg t):FnOk P w K mg base CX0 18 t.f_readers_suffice t.d_readers_suffice ["papers","readers"] (zb0 K):=by
 have G_Attempt___init__:=zc6 (P:=P) (w:=w) (base:=base) T
 have G_Attempt_find_reader:=zcu (P:=P) (w:=w) (base:=base) T
 refine T.F_readers_suffice.ok sc_readers_suffice (fun vs H Q E h=>?_) (fun cdv A outer s H vs Q E hr h=>?_)
 ·exact (by obtain ⟨h,_⟩:=h;exact h)
 have TERM:∃ t',PSs (cxOf CX0 P w K mg base ["papers","readers","attempt","paper","turn"] "readers_suffice" (zab s_readers_suffice) t.f_readers_suffice cdv A outer s H E).nox (zae s_readers_suffice) t'∧t' ⟨fun _ H'=>Q .non H',Q,fun _ _=>False,fun _ _=>False⟩ (start ["papers","readers","attempt","paper","turn"] vs) H:=by
  refine ⟨_,(zac (zaF (i:=2) sc_readers_suffice.nd rfl (by first | exact Or.inl rfl | exact Or.inr rfl) (zlp T.mk_Attempt (G_Attempt___init__) (hr.mono (by decide)) (by rfl) T.mg_Attempt T.b_Attempt___init__ .nil zav (zaa (pv 0) (zaa (pv 1) pa_nil))))
   (zac (za2 PassesOwn.never rfl (zbl (by rfl) T.z_range (zaa zaf (zaa (zaw (op_addG) (zah (zak (K:=K) rfl) (by rfl) T.z_len (by rfl) (zaa (pv 0) pa_nil)) zaf) pa_nil))) (zaq (i:=3) sc_readers_suffice.nd rfl (by first | exact Or.inl rfl | exact Or.inr rfl))
   (zad (za2 PassesOwn.never rfl (za5 (by rfl) T.z_range (zaa (zc1 (v:=.int 2) (by rfl) T.v_READERS_EACH T.w_READERS_EACH) pa_nil)) (zaq (i:=4) sc_readers_suffice.nd rfl (by first | exact Or.inl rfl | exact Or.inr rfl))
   (zad (zaV (zba (zas (K:=K) rfl (zbH (pv 2) T.cl_Attempt T.me_Attempt_find_reader (G_Attempt_find_reader) (hr.mono (by first | decide | exact Nat.le_refl _)) T.b_Attempt_find_reader .nil zav (zaa (pv 3) (zaa pe_dnewK pa_nil))) (fun _=>rfl)))
   (zad (zaj za4)) pss_nil)))))
   (zad (zaj za4)))),?_⟩
  obtain ⟨_,a,b,hs,rs,rfl,ha,L,B,q1,q2⟩:=h
  have B1:=B.lp
  have B2:=B.lr
  have h0:∀ i,i < rs.length→0≤(rs.getD i []).getD 1 0:=fun i hi=>(B.rl i hi).1
  walk_at "rd"
  refine zf6 fun x dx H1 fx fdx ne s1 ex=>?_
  refine zm0 ex (s1.seq ha) (L.same s1) B fun d H2 hdx k2 fg fS A2=>⟨rfl,?_⟩
  have V0:=zjE B
  have hal:∀ q,q < hs.length→((List.range hs.length).map fun i:Nat=>zam hs rs (1+(i:Int))).getD q []=zam hs rs (1+(q:Int)):=fun q hq=>zau hq
  have hgl:∀ q,q < hs.length→(((List.range hs.length).map fun _=>([]:List Int)).getD q []).length=0:=fun q hq=>by rw [zau hq];rfl
  have hll:((List.range rs.length).map fun i=>(rs.getD i []).getD 1 0).length=rs.length:=by rw [List.length_map,List.length_range]
  have hlg:∀ r,r < rs.length→((List.range rs.length).map fun i=>(rs.getD i []).getD 1 0).getD r 0=(rs.getD r []).getD 1 0:=fun r hr=>zau hr
  have hla:((List.range hs.length).map fun i:Nat=>zam hs rs (1+(i:Int))).length=hs.length:=by rw [List.length_map,List.length_range]
  generalize (List.range hs.length).map (fun i:Nat=>zam hs rs (1+(i:Int)))=al at *
  generalize eg0:(List.range hs.length).map (fun _=>([]:List Int))=gv0 at *
  have hlg0:gv0.length=hs.length:=by rw [← eg0,List.length_map,List.length_range]
  generalize (List.range rs.length).map (fun i=>(rs.getD i []).getD 1 0)=lim at *
  have S2:Same H H2:=fun c o e=>k2 c o (s1 c o e) (fun z=>by rw [z,fx] at e;cases e)
  have fg':∀ g∈d.gps,H g=none:=fun g hg=>s1.free (fg g hg)
  have fS':H d.S=none:=s1.free fS
  have frame:∀ {D:Addr} {H3 H4:Hp},Same H H3→H D=none→Frm d D H3 H4→Same H H4:=fun {D H3 H4} s f F c o e=>F c o (s c o e) (fun z=>by rw [fg' c z] at e;cases e) (fun z=>by rw [z,fS'] at e;cases e) (fun z=>by rw [z,f] at e;cases e)
  have ha2:=S2.seq ha
  have hcl:=T.cl_Attempt
  have fM:=zgT d.A d.G d.S (m:="find_reader") (by decide +kernel) (by decide +kernel) (by decide +kernel)
  subst hdx
  walk_at "rd"
  refine zde ⟨by omega,by omega,by omega,by omega⟩ ?_
  have en:((hs.length:Int)+1-1).toNat=hs.length:=by omega
  rw [en]
  refine zbI (fun i σ H'=>∃ gv sp v w,σ=[some (.ref a),some (.ref b),some (.ref d.x),v,w]∧Same H H'∧Att t.C_Attempt H' d al gv sp∧Vld al gv lim sp 0∧∀ q,q < hs.length→(gv.getD q []).length=if q < i then 2 else 0) ⟨gv0,lim,none,none,rfl,S2,A2,V0,fun q hq=>by rw [hgl q hq,if_neg (by omega)]⟩ ?_ ?_
  ·rintro i σ H' hi ⟨gv,sp,v,w',rfl,S',A',V',hlen⟩
   walk_at "rd"
   refine zcl (by decide) (by decide) ?_
   refine zbI (fun j σ H'=>∃ gv sp w,σ=[some (.ref a),some (.ref b),some (.ref d.x),some (.int (1+(i:Int))),w]∧Same H H'∧Att t.C_Attempt H' d al gv sp∧Vld al gv lim sp 0∧∀ q,q < hs.length→(gv.getD q []).length=if q < i then 2 else if q=i then j else 0) ⟨gv,sp,w',rfl,S',A',V',fun q hq=>by
    rw [hlen q hq]
    by_cases e:q < i
    ·rw [if_pos e,if_pos e]
    ·rw [if_neg e,if_neg e];split <;> rfl⟩ ?_ ?_
   ·rintro j σ H3 hj ⟨gv3,sp3,w3,rfl,S3,A3,V3,hlen3⟩
    have hj:j < 2:=hj
    obtain ⟨dx3,hob3⟩:=A3.ob
    have lg3:=V3.lg
    walk_at "rd"
    refine zaG hob3 fM ?_
    walk_at "rd"
    refine zf7 fun D H4 f4 s4 e4=>?_
    walk_at "rd"
    have ei:(1+(i:Int)-1).toNat=i:=by omega
    refine zk9 (n:=8) (A3.same s4) e4 V3 ⟨List.nodup_nil,fun k hk=>by cases hk⟩ (by rw [List.length_nil];omega) (by omega) (by omega) (by omega) (by omega) (fun H5 gv5 sp5 F5 A5 N5=>?_) (fun H5 ls F5 A5 hD5 hk5 C5 hc5=>?_)
    ·rw [ei] at N5
     walk_at "rd"
     refine iteF ?_
     walk_at "rd"
     refine ⟨gv5,sp5,_,rfl,frame (S3.trans s4) (S3.free f4) F5,A5,N5.v,fun q hq=>?_⟩
     rw [N5.len q (by omega),hlen3 q hq]
     by_cases e1:q < i
     ·rw [if_pos e1,if_pos e1,if_neg (by omega)]
     ·rw [if_neg e1,if_neg e1]
      by_cases e2:q=i
      ·rw [if_pos e2,if_pos e2,if_pos e2]
      ·rw [if_neg e2,if_neg e2,if_neg e2]
    ·rw [ei] at hc5
     walk_at "rd"
     refine iteT ?_
     walk_at "rd"
     refine q2 ?_ _ (frame (S3.trans s4) (S3.free f4) F5)
     refine zjs (p:=i) h0 V3 hla hll hlg (fun q hq r hr hallow=>by rw [hal q hq];exact (zhA hr).mpr hallow) (fun q hq=>?_) hi ?_ C5 hc5
     ·rw [hlen3 q hq]
      split
      ·omega
      ·split <;> omega
     ·rw [hlen3 i hi,if_neg (by omega),if_pos rfl]
      exact hj
   ·rintro σ H3 ⟨gv3,sp3,w3,rfl,S3,A3,V3,hlen3⟩
    refine ⟨gv3,sp3,_,_,rfl,S3,A3,V3,fun q hq=>?_⟩
    rw [hlen3 q hq]
    by_cases e1:q < i
    ·rw [if_pos e1,if_pos (by omega)]
    ·rw [if_neg e1]
     by_cases e2:q=i
     ·rw [if_pos e2,if_pos (by omega)];rfl
     ·rw [if_neg e2,if_neg (by omega)]
  ·rintro σ H' ⟨gv,sp,v,w',rfl,S',A',V',hlen⟩
   walk_at "rd"
   refine q1 ?_ _ S'
   refine zke h0 V' hla hll hlg (fun q hq r hr hm=>by rw [hal q hq] at hm;exact (zhA hr).mp hm) fun q hq=>?_
   rw [hlen q hq,if_pos hq]
 exact TERM
theorem zdD {H:Hp} {Q:VK} {E:XK} {a b:Addr} {hs:List Int} {rs:List (List Int)} (h2:SqL K H a (hs.map V.int)) (h3:LL K H b rs) (B:InB hs rs) (q1:(∃ rows,zaS hs rs rows=true)→∀ H',Same H H'→Q (.bl true) H') (q2:(∀ rows,zaS hs rs rows=false)→∀ H',Same H H'→Q (.bl false) H'):zb0 K [.ref a,.ref b] H Q E:=⟨rfl,a,b,hs,rs,rfl,h2,h3,B,q1,q2⟩
def zcY (K:PySem.W.Frag):Sp:=fun vs H Q _=>vs.length=2∧∃ (a b:Addr) (rs:List (List Int)) (ls:List Int),vs=[.ref a,.ref b]∧LL K H a rs∧SqL K H b (ls.map V.int)∧ls.length=rs.length∧rs.length≤8∧(∀ i,i < rs.length→(rs.getD i []).length=2)∧∀ p H',RowsAt H p (zf8 rs ls) H'→Q (.ref p) H'
theorem zeQ (T:Txt K mg t):FnOk P w K mg base CX0 1 t.f_with_limits t.d_with_limits ["readers","limits"] (zcY K):=by
 refine T.F_with_limits.ok sc_with_limits (fun vs H Q E h=>?_) (fun cdv A outer s H vs Q E hr h=>?_)
 ·exact (by obtain ⟨h,_⟩:=h;exact h)
 have TERM:∃ t',PSs (cxOf CX0 P w K mg base ["readers","limits"] "with_limits" (zab s_with_limits) t.f_with_limits cdv A outer s H E).nox (zae s_with_limits) t'∧t' ⟨fun _ H'=>Q .non H',Q,fun _ _=>False,fun _ _=>False⟩ (start ["readers","limits"] vs) H:=by
  refine ⟨_,(zad (zaj (zaW (zap (sc:=zab s_with_limits) (XN:=["readers","limits"]) (N:=["row","limit"]) (own:=2) (js:=[]) rfl rfl (by decide +kernel)) rfl (zi2 (K:=K) rfl (by rfl) T.z_zip (zaa (pv 0) (zaa (pv 1) pa_nil))) (fun _ _ _ _ _=>(zfo (K:=K) (n:=2) rfl rfl (zbU (zaq (i:=0) (show List.Nodup [(Str.ofString "row"),(Str.ofString "limit")] by decide +kernel) rfl (by first | exact Or.inl rfl | exact Or.inr rfl)) (zbU (zaq (i:=1) (show List.Nodup [(Str.ofString "row"),(Str.ofString "limit")] by decide +kernel) rfl (by first | exact Or.inl rfl | exact Or.inr rfl)) pgs_nil)))) (fun _ _ _ _ _=>za9) (fun _ _ _ _ _=>(zaP (zaa (zaH (zai (K:=K) rfl) (pv 0) zaf (fun _ _=>rfl)) (zaa (pv 1) pa_nil))))))),?_⟩
  obtain ⟨_,a,b,rs,ls,rfl,L,hb,hl,h8,r2,q⟩:=h
  obtain ⟨ps,ha,hpl,hpr⟩:=id L
  have en:(ps.map V.ref).length=rs.length:=by rw [List.length_map];exact hpl
  have em:(ls.map V.int).length=ls.length:=List.length_map ..
  walk_at "rd"
  refine zi3 ha hb ?_
  refine zby (zbK.zip ha hb (by omega)) (by omega) (fun i=>[(rs.getD i []).getD 0 0,ls.getD i 0]) (fun i H' Q' hi s q'=>?_) fun p H' R=>?_
  ·have hi':i < rs.length:=by omega
   have ex:(ps.map V.ref).getD i .non=.ref (ps.getD i 0):=by
    rw [List.getD_eq_getElem?_getD,List.getElem?_map,List.getElem?_eq_getElem (by omega),List.getD_eq_getElem?_getD,List.getElem?_eq_getElem (by omega)];rfl
   have ey:(ls.map V.int).getD i .non=.int (ls.getD i 0):=by
    rw [List.getD_eq_getElem?_getD,List.getElem?_map,List.getElem?_eq_getElem (by omega),List.getD_eq_getElem?_getD,List.getElem?_eq_getElem (by omega)];rfl
   rw [ex,ey]
   have h2:=r2 i hi'
   have hrow:=s _ _ (hpr i hi')
   show (_:TE) (some (.ref (ps.getD i 0))::some (.int (ls.getD i 0))::_) _ _
   walk_at "rd"
   exact zax (by simp) q'
  rw [en] at R
  exact q p H' R
 exact TERM
theorem zfy {H:Hp} {Q:VK} {E:XK} {a b:Addr} {rs:List (List Int)} {ls:List Int} (h:LL K H a rs) (hb:SqL K H b (ls.map V.int)) (hl:ls.length=rs.length) (h8:rs.length≤8) (r2:∀ i,i < rs.length→(rs.getD i []).length=2) (q:∀ p H',RowsAt H p (zf8 rs ls) H'→Q (.ref p) H'):zcY K [.ref a,.ref b] H Q E:=⟨rfl,a,b,rs,ls,rfl,h,hb,hl,h8,r2,q⟩
def zdP (K:PySem.W.Frag):Sp:=fun vs H Q _=>vs.length=3∧∃ (a b c:Addr) (hs:List Int) (rs rows:List (List Int)),vs=[.ref a,.ref b,.ref c]∧SqL K H a (hs.map V.int)∧LL K H b rs∧LL K H c rows∧InB hs rs∧zb4 hs rs rows∧(Ext hs rs rows→∀ H',Same H H'→Q (.bl true) H')∧(¬Ext hs rs rows→∀ H',Same H H'→Q (.bl false) H')
theorem zgd (T:Txt K mg t):FnOk P w K mg base CX0 19 t.f_can_go_on t.d_can_go_on ["papers","readers","rows"] (zdP K):=by
 have G_keeps_to_limits:=zdn (P:=P) (w:=w) (base:=base) T
 have G_readers_suffice:=zdo (P:=P) (w:=w) (base:=base) T
 have G_with_limits:=zeQ (P:=P) (w:=w) (base:=base) T
 have G_left_after:=zch (P:=P) (w:=w) (base:=base) T
 refine T.F_can_go_on.ok sc_can_go_on (fun vs H Q E h=>?_) (fun cdv A outer s H vs Q E hr h=>?_)
 ·exact (by obtain ⟨h,_⟩:=h;exact h)
 have TERM:∃ t',PSs (cxOf CX0 P w K mg base ["papers","readers","rows"] "can_go_on" (zab s_can_go_on) t.f_can_go_on cdv A outer s H E).nox (zae s_can_go_on) t'∧t' ⟨fun _ H'=>Q .non H',Q,fun _ _=>False,fun _ _=>False⟩ (start ["papers","readers","rows"] vs) H:=by
  refine ⟨_,(zac (zaV (zba (zas (K:=K) rfl (zao (G_keeps_to_limits) (hr.mono (by decide)) (by rfl) T.m_keeps_to_limits T.F_keeps_to_limits.kp T.b_keeps_to_limits .nil zav (zaa (pv 1) (zaa (pv 2) pa_nil))) (fun _=>rfl)))
   (zad (zaj za4)) pss_nil)
   (zad (zaj (zao (G_readers_suffice) (hr.mono (by decide)) (by rfl) T.m_readers_suffice T.F_readers_suffice.kp T.b_readers_suffice .nil zav (zaa (zdb (zdd (K:=K) rfl) (pv 0) (zea (zah (zak (K:=K) rfl) (by rfl) T.z_len (by rfl) (zaa (pv 2) pa_nil))) po_none) (zaa (zao (G_with_limits) (hr.mono (by decide)) (by rfl) T.m_with_limits T.F_with_limits.kp T.b_with_limits .nil zav (zaa (pv 1) (zaa (zao (G_left_after) (hr.mono (by decide)) (by rfl) T.m_left_after T.F_left_after.kp T.b_left_after .nil zav (zaa (pv 1) (zaa (pv 2) pa_nil))) pa_nil))) pa_nil)))))),?_⟩
  obtain ⟨_,a,b,c,hs,rs,rows,rfl,ha,L,L3,B,P,q1,q2⟩:=h
  have B1:=B.lp
  have B2:=B.lr
  have pl:=P.1
  have hg:=zmN P
  walk_at "rd"
  refine zdC L L3 B2 (by omega) B.r2 fun H1 s1=>?_
  walk_at "rd"
  cases ek:zgS rs rows with
  | false =>
    refine iteT ?_
    walk_at "rd"
    refine q2 (fun z=>?_) _ s1
    have:=zgc.mpr (hg.mp z).1
    rw [ek] at this
    cases this
  | true =>
    have hk:=zgc.mp ek
    refine iteF ?_
    obtain ⟨ps3,hc3,hl3,hr3⟩:=id (L3.same s1)
    walk_at "rd"
    refine zb7 (s1.seq ha) fun p2 H2 f2 s2 e2=>?_
    have el:(ps3.length:Int)=((rows.length:Nat):Int):=by omega
    rw [el,zfW,← List.map_drop] at e2
    have s12:=s1.trans s2
    walk_at "rd"
    refine zci (L.same s12) (L3.same s12) B2 (by omega) B.r2 fun p4 H4 f4 s4 e4=>?_
    have s14:=s12.trans s4
    have hll:(zbC rs rows).length=rs.length:=by unfold zbC;rw [List.length_map,List.length_range]
    walk_at "rd"
    refine zfy (L.same s14) (SqL.of e4) hll B2 B.r2 fun p5 H5 R5=>?_
    have s15:=s14.trans R5.same
    walk_at "rd"
    refine zdD (SqL.of (R5.same _ _ (s4 _ _ e2))) R5.ll (zmO B hk rows.length) (fun h H6 s6=>q1 (hg.mpr ⟨hk,h⟩) _ (s15.trans s6)) (fun h H6 s6=>q2 (fun z=>?_) _ (s15.trans s6))
    obtain ⟨_,more,hm⟩:=hg.mp z
    rw [h more] at hm
    cases hm
 exact TERM
theorem zgV {H:Hp} {Q:VK} {E:XK} {a b c:Addr} {hs:List Int} {rs rows:List (List Int)} (h1:SqL K H a (hs.map V.int)) (h2:LL K H b rs) (h3:LL K H c rows) (B:InB hs rs) (P:zb4 hs rs rows) (q1:Ext hs rs rows→∀ H',Same H H'→Q (.bl true) H') (q2:¬Ext hs rs rows→∀ H',Same H H'→Q (.bl false) H'):zdP K [.ref a,.ref b,.ref c] H Q E:=⟨rfl,a,b,c,hs,rs,rows,rfl,h1,h2,h3,B,P,q1,q2⟩
theorem zm2 (hs:List Int) (rs:List (List Int)) (k:Int):(zam hs rs k).Pairwise (· < ·):=by
 unfold zam
 rw [List.pairwise_map]
 exact (List.pairwise_lt_range.filter _).imp fun h=>by omega
theorem zm3 (hs:List Int) (rs:List (List Int)) (k:Int):(zam hs rs k).length≤rs.length:=by
 unfold zam
 rw [List.length_map]
 exact Nat.le_trans (List.length_filter_le _ _) (by simp)
theorem zkq {hs:List Int} {rs:List (List Int)} {k:Nat} {x:Int}:x∈zam hs rs ((k:Int)+1)↔1≤x∧x≤rs.length∧(rs.getD (x-1).toNat []).getD 0 0≠hs.getD k 0:=by
 have ek:(k:Int)+1=1+(k:Int):=Int.add_comm ..
 rw [ek]
 constructor
 ·intro h
  have hr:=zla h
  refine ⟨hr.1,hr.2,?_⟩
  have e:x=(((x-1).toNat:Nat):Int)+1:=by omega
  rw [e,zhA (by omega)] at h
  unfold zbb at h
  simpa using h
 ·rintro ⟨h1,h2,h3⟩
  have e:x=(((x-1).toNat:Nat):Int)+1:=by omega
  rw [e,zhA (by omega)]
  unfold zbb
  rw [decide_eq_false h3]
  rfl
theorem zd7 {hs:List Int} {rs:List (List Int)} {k:Nat} {row:List Int}:row∈prsB (zam hs rs ((k:Int)+1))↔zb8 rs (hs.getD k 0) row=true:=by
 rw [prs_mem (zm2 ..),zbJ]
 constructor
 ·rintro ⟨x,y,rfl,hx,hy,hlt⟩
  obtain ⟨x1,x2,x3⟩:=zkq.mp hx
  obtain ⟨y1,y2,y3⟩:=zkq.mp hy
  exact ⟨rfl,x1,hlt,y2,x3,y3⟩
 ·rintro ⟨h1,h2,h3,h4,h5,h6⟩
  exact ⟨row.getD 0 0,row.getD 1 0,len2 h1,zkq.mpr ⟨h2,by omega,h5⟩,zkq.mpr ⟨by omega,h4,h6⟩,h3⟩
theorem ze9 {hs:List Int} {rs rows:List (List Int)} {row:List Int} (P:zb4 hs rs rows) (hl:rows.length < hs.length) (h:zb8 rs (hs.getD rows.length 0) row=true):zb4 hs rs (rows++[row]):=by
 refine ⟨by rw [List.length_append,List.length_singleton];omega,fun k hk=>?_⟩
 rw [List.length_append,List.length_singleton] at hk
 by_cases e:k < rows.length
 ·rw [zaB e];exact P.2 k e
 ·have:k=rows.length:=by omega
  subst this
  rw [zaC];exact h
theorem zhB {hs:List Int} {rs rows more:List (List Int)} (hl:rows.length < hs.length) (h:zaS hs rs (rows++more)=true):∃ r rest,more=r::rest∧zb8 rs (hs.getD rows.length 0) r=true∧Ext hs rs (rows++[r]):=by
 obtain ⟨h1,h2,_⟩:=zbd.mp h
 match more with
 | []=>rw [List.append_nil] at h1;omega
 | r::rest =>
   refine ⟨r,rest,rfl,?_,rest,by rw [List.append_assoc];exact h⟩
   have:=h2 rows.length hl
   rw [zce (Nat.le_refl _),Nat.sub_self] at this
   exact this
theorem zh9 {hs:List Int} {rs rows:List (List Int)} (hl:rows.length < hs.length) (h:∀ r∈prsB (zam hs rs ((rows.length:Int)+1)),¬Ext hs rs (rows++[r])):¬Ext hs rs rows:=by
 rintro ⟨more,hm⟩
 obtain ⟨r,rest,_,hp,hx⟩:=zhB hl hm
 exact h r (zd7.mpr hp) hx
theorem zia {hs:List Int} {rs rows:List (List Int)} {i:Nat} (P:zb4 hs rs rows) (hl:rows.length < hs.length) (hi:i < (prsB (zam hs rs ((rows.length:Int)+1))).length)
  (h0:∀ j,j < i→¬Ext hs rs (rows++[(prsB (zam hs rs ((rows.length:Int)+1))).getD j []])) (hn:∀ full,zaS hs rs full=true→nbB rows full=true):∀ full,zaS hs rs full=true→nbB (rows++[(prsB (zam hs rs ((rows.length:Int)+1))).getD i []]) full=true:=by
 intro full hf
 refine zhu (hn full hf) fun he hlt=>?_
 obtain ⟨f1,f2,_⟩:=zbd.mp hf
 have ef:full=rows++full.drop rows.length:=by
  have e1:rows=full.take rows.length:=by
   refine zfV (by rw [List.length_take];omega) fun j hj=>?_
   rw [zej hj]
   obtain ⟨e0,e1⟩:=he j hj
   have p1:=(zbJ.mp (P.2 j hj)).1
   have p2:=(zbJ.mp (f2 j (by omega))).1
   exact zmP p1 p2 e0 e1
  conv=>rhs;arg 1;rw [e1]
  exact (List.take_append_drop _ _).symm
 rw [ef] at hf
 obtain ⟨r,rest,er,hp,hx⟩:=zhB hl hf
 have eg:full.getD rows.length []=r:=by
  rw [ef,zce (Nat.le_refl _),Nat.sub_self,er];rfl
 rw [eg]
 obtain ⟨j,hj,ej⟩:=mem_getD (d:=[]) (zd7.mpr hp)
 have hij:¬j < i:=fun z=>h0 j z (by rw [ej];exact hx)
 by_cases e:j=i
 ·subst e;rw [ej];exact .inr ⟨rfl,Int.le_refl _⟩
 ·have:=List.pairwise_iff_getElem.mp (prs_ord (zm2 hs rs ((rows.length:Int)+1))) i j hi hj (by omega)
  rw [← ej,List.getD_eq_getElem?_getD,List.getElem?_eq_getElem hi,List.getD_eq_getElem?_getD,List.getElem?_eq_getElem hj]
  exact this
def zbN (K:PySem.W.Frag):Sp:=fun vs H Q _=>vs.length=3∧∃ (a b c:Addr) (hs:List Int) (rs rows:List (List Int)) (ps:List Addr),vs=[.ref a,.ref b,.ref c]∧SqL K H a (hs.map V.int)∧LL K H b rs∧H c=some (.lst (ps.map V.ref))∧ps.length=rows.length∧(∀ i,i < rows.length→H (ps.getD i 0)=some (.lst ((rows.getD i []).map V.int)))∧InB hs rs∧zb4 hs rs rows∧rows.length < hs.length ∧
 ((∀ r∈prsB (zam hs rs ((rows.length:Int)+1)),¬Ext hs rs (rows++[r]))→∀ H',Same H H'→Q .non H') ∧
 ∀ i,i < (prsB (zam hs rs ((rows.length:Int)+1))).length→Ext hs rs (rows++[(prsB (zam hs rs ((rows.length:Int)+1))).getD i []])→(∀ j,j < i→¬Ext hs rs (rows++[(prsB (zam hs rs ((rows.length:Int)+1))).getD j []])) →
  ∀ p H',H p=none→Same H H'→H' p=some (.lst (((prsB (zam hs rs ((rows.length:Int)+1))).getD i []).map V.int))→Q (.ref p) H'
theorem zc7 (T:Txt K mg t):FnOk P w K mg base CX0 20 t.f_first_row_behind t.d_first_row_behind ["papers","readers","rows"] (zbN K):=by
 have G_pairs_of:=zgQ (P:=P) (w:=w) (base:=base) T
 have G_readers_for:=zcX (P:=P) (w:=w) (base:=base) T
 have G_can_go_on:=zgd (P:=P) (w:=w) (base:=base) T
 refine T.F_first_row_behind.ok sc_first_row_behind (fun vs H Q E h=>?_) (fun cdv A outer s H vs Q E hr h=>?_)
 ·exact (by obtain ⟨h,_⟩:=h;exact h)
 have TERM:∃ t',PSs (cxOf CX0 P w K mg base ["papers","readers","rows","paper","row"] "first_row_behind" (zab s_first_row_behind) t.f_first_row_behind cdv A outer s H E).nox (zae s_first_row_behind) t'∧t' ⟨fun _ H'=>Q .non H',Q,fun _ _=>False,fun _ _=>False⟩ (start ["papers","readers","rows","paper","row"] vs) H:=by
  refine ⟨_,(zac (zaF (i:=3) sc_first_row_behind.nd rfl (by first | exact Or.inl rfl | exact Or.inr rfl) (zaw (op_addG) (zah (zak (K:=K) rfl) (by rfl) T.z_len (by rfl) (zaa (pv 2) pa_nil)) zaf))
   (zac (za2 PassesOwn.never rfl (zaE (K:=K) rfl (zao (G_pairs_of) (hr.mono (by decide)) (by rfl) T.m_pairs_of T.F_pairs_of.kp T.b_pairs_of .nil zav (zaa (zao (G_readers_for) (hr.mono (by decide)) (by rfl) T.m_readers_for T.F_readers_for.kp T.b_readers_for .nil zav (zaa (pv 0) (zaa (pv 1) (zaa (pv 3) pa_nil)))) pa_nil))) (zaq (i:=4) sc_first_row_behind.nd rfl (by first | exact Or.inl rfl | exact Or.inr rfl))
   (zad (zaV (zas (K:=K) rfl (zao (G_can_go_on) (hr.mono (by decide)) (by rfl) T.m_can_go_on T.F_can_go_on.kp T.b_can_go_on .nil zav (zaa (pv 0) (zaa (pv 1) (zaa (zaw (op_addG) (pv 2) (zaP (zaa (pv 4) pa_nil))) pa_nil)))) (fun _=>rfl))
   (zad (zaj (pv 4))) pss_nil)))
   (zad (zaj zcv)))),?_⟩
  obtain ⟨_,a,b,c,hs,rs,rows,ps,rfl,ha,L,hc,hpl,hpr,B,P,hl,q0,q1⟩:=h
  have B1:=B.lp
  have B2:=B.lr
  walk_at "rd"
  refine zdl ha L (by omega) (by omega) (by omega) B.r2 fun p1 H1 f1 s1 e1=>?_
  have el:(ps.length:Int)+1=(rows.length:Int)+1:=by omega
  rw [el] at e1 ⊢
  have hrl:=zm3 hs rs ((rows.length:Int)+1)
  walk_at "rd"
  refine zh6 (SqL.of e1) (by omega) fun p2 H2 R2=>?_
  have hP:∀ r∈prsB (zam hs rs ((rows.length:Int)+1)),zb8 rs (hs.getD rows.length 0) r=true:=fun r hr=>zd7.mp hr
  generalize prsB (zam hs rs ((rows.length:Int)+1))=Pr at *
  obtain ⟨s2,f2,ps2,e2,l2,nd2,r2⟩:=id R2
  have s12:=s1.trans s2
  refine zaO (SqL.of e2) ?_
  refine zb3 (xs:=ps2.map V.ref) (fun i σ H'=>Same H2 H'∧(∃ v,σ=[some (.ref a),some (.ref b),some (.ref c),some (.int ((rows.length:Int)+1)),v])∧∀ j,j < i→¬Ext hs rs (rows++[Pr.getD j []])) ⟨Same.refl _,⟨none,rfl⟩,fun j hj=>absurd hj (by omega)⟩ ?_ ?_ ?_
  ·rintro i σ H' _ ⟨s,_,_⟩
   exact SqL.of (s _ _ e2)
  ·rintro i x σ H' hx ⟨s,⟨v,rfl⟩,h0⟩
   obtain ⟨hi,rfl⟩:=zgC hx
   obtain ⟨g1,g2,g3⟩:=r2 i (by omega)
   have sH:=s12.trans s
   have hc':=sH _ _ hc
   have hrow:=s _ _ g1
   have hpair:=hP _ (getD_mem (d:=[]) (show i < Pr.length by omega))
   walk_at "rd"
   refine zax (by simp) fun p3 H3 f3 s3 e3=>?_
   refine zfn (s3 _ _ hc') e3 (by rw [List.length_map];simp only [List.length_cons,List.length_nil];omega) fun p4 H4 f4 s4 e4=>?_
   have s24:=s3.trans s4
   have sH4:=sH.trans s24
   walk_at "rd"
   have L4:LL K H4 p4 (rows++[Pr.getD i []]):=LL.push (q:=ps2.getD i 0) e4 hpl (s24 _ _ hrow) fun j hj=>sH4 _ _ (hpr j hj)
   refine zgV (sH4.seq ha) (L.same sH4) L4 B (ze9 P hl hpair) (fun hx H5 s5=>?_) (fun hx H5 s5=>?_)
   ·walk_at "rd"
    refine iteT ?_
    walk_at "rd"
    exact q1 i (by omega) hx h0 _ _ (s1.free g2) (sH4.trans s5) (s5 _ _ (s24 _ _ hrow))
   ·walk_at "rd"
    refine iteF ?_
    walk_at "rd"
    refine ⟨(s.trans s24).trans s5,⟨_,rfl⟩,fun j hj=>?_⟩
    by_cases e:j=i
    ·subst e;exact hx
    ·exact h0 j (by omega)
  ·rintro σ H' ⟨s,⟨v,rfl⟩,h0⟩
   walk_at "rd"
   refine q0 (fun r hr=>?_) _ (s12.trans s)
   obtain ⟨j,hj,rfl⟩:=mem_getD (d:=[]) hr
   exact h0 j (by rw [List.length_map];omega)
 exact TERM
theorem zdp {H:Hp} {Q:VK} {E:XK} {a b c:Addr} {hs:List Int} {rs rows:List (List Int)} {ps:List Addr} (h1:SqL K H a (hs.map V.int)) (h2:LL K H b rs) (h3:H c=some (.lst (ps.map V.ref))) (h4:ps.length=rows.length) (h5:∀ i,i < rows.length→H (ps.getD i 0)=some (.lst ((rows.getD i []).map V.int))) (B:InB hs rs) (P:zb4 hs rs rows) (hl:rows.length < hs.length)
  (q0:(∀ r∈prsB (zam hs rs ((rows.length:Int)+1)),¬Ext hs rs (rows++[r]))→∀ H',Same H H'→Q .non H')
  (q1:∀ i,i < (prsB (zam hs rs ((rows.length:Int)+1))).length→Ext hs rs (rows++[(prsB (zam hs rs ((rows.length:Int)+1))).getD i []])→(∀ j,j < i→¬Ext hs rs (rows++[(prsB (zam hs rs ((rows.length:Int)+1))).getD j []])) →
   ∀ p H',H p=none→Same H H'→H' p=some (.lst (((prsB (zam hs rs ((rows.length:Int)+1))).getD i []).map V.int))→Q (.ref p) H'):zbN K [.ref a,.ref b,.ref c] H Q E:=⟨rfl,a,b,c,hs,rs,rows,ps,rfl,h1,h2,h3,h4,h5,B,P,hl,q0,q1⟩
def zcp (K:PySem.W.Frag):Sp:=fun vs H Q _=>vs.length=2∧∃ (a b:Addr) (hs:List Int) (rs:List (List Int)),vs=[.ref a,.ref b]∧SqL K H a (hs.map V.int)∧LL K H b rs∧InB hs rs∧(zbx hs rs none→∀ H',Same H H'→Q .non H')∧∀ rows,zbx hs rs (some rows)→∀ p H',RowsAt H p rows H'→Q (.ref p) H'
theorem zdY (T:Txt K mg t):FnOk P w K mg base CX0 21 t.f_first_dealing t.d_first_dealing ["papers","readers"] (zcp K):=by
 have G_first_row_behind:=zc7 (P:=P) (w:=w) (base:=base) T
 refine T.F_first_dealing.ok sc_first_dealing (fun vs H Q E h=>?_) (fun cdv A outer s H vs Q E hr h=>?_)
 ·exact (by obtain ⟨h,_⟩:=h;exact h)
 have TERM:∃ t',PSs (cxOf CX0 P w K mg base ["papers","readers","rows","row"] "first_dealing" (zab s_first_dealing) t.f_first_dealing cdv A outer s H E).nox (zae s_first_dealing) t'∧t' ⟨fun _ H'=>Q .non H',Q,fun _ _=>False,fun _ _=>False⟩ (start ["papers","readers","rows","row"] vs) H:=by
  refine ⟨_,(zac (zaF (i:=2) sc_first_dealing.nd rfl (by first | exact Or.inl rfl | exact Or.inr rfl) (zaP pa_nil))
   (zac (zff PassesOwn.never (zay (op_lt) (zah (zak (K:=K) rfl) (by rfl) T.z_len (by rfl) (zaa (pv 2) pa_nil)) (zah (zak (K:=K) rfl) (by rfl) T.z_len (by rfl) (zaa (pv 0) pa_nil)) (zaJ _))
   (zac (zaF (i:=3) sc_first_dealing.nd rfl (by first | exact Or.inl rfl | exact Or.inr rfl) (zao (G_first_row_behind) (hr.mono (by decide)) (by rfl) T.m_first_row_behind T.F_first_row_behind.kp T.b_first_row_behind .nil zav (zaa (pv 0) (zaa (pv 1) (zaa (pv 2) pa_nil)))))
   (zac (zaV (zay (op_isNN) (pv 3) zcv (zaJ _))
   (zad (zaj zcv)) pss_nil)
   (zad (zaM (zbW (K:=K) rfl PySem.F.plainAttrs_list PySem.F.slot_list_append PySem.F.type_list_append mt_append (pv 2) (zaa (pv 3) pa_nil)))))))
   (zad (zaj (pv 2))))),?_⟩
  obtain ⟨_,a,b,hs,rs,rfl,ha,L,B,q0,q1⟩:=h
  have B1:=B.lp
  walk_at "rd"
  refine zax (by decide) fun p1 H1 f1 s1 e1=>?_
  walk_at "rd"
  refine ⟨fun n σ H'=>∃ rows v,σ=[some (.ref a),some (.ref b),some (.ref p1),v]∧RowsAt H p1 rows H'∧rows.length+n=hs.length∧zb4 hs rs rows∧(rows=[]∨Ext hs rs rows)∧∀ full,zaS hs rs full=true→nbB rows full=true,⟨hs.length,[],none,rfl,RowsAt.start f1 s1 e1,by simp,⟨by simp,fun k hk=>absurd hk (by simp)⟩,.inl rfl,fun full _=>rfl⟩,?_⟩
  rintro n σ H' ⟨rows,v,rfl,R,hn,P,hx,hb⟩
  obtain ⟨sR,fR,ps,eR,lR,ndR,rR⟩:=id R
  have ha':=sR.seq ha
  walk_at "rd"
  refine zct (fun hlt=>?_) (fun hge=>?_)
  ·refine ⟨fun σ H''=>∃ rows v,σ=[some (.ref a),some (.ref b),some (.ref p1),v]∧RowsAt H p1 rows H''∧rows.length+(n-1)=hs.length∧zb4 hs rs rows∧(rows=[]∨Ext hs rs rows)∧∀ full,zaS hs rs full=true→nbB rows full=true,?_,?_⟩
   ·rintro σ' H'' ⟨rows',v',h1,h2,h3,h4⟩
    exact ⟨n-1,by omega,rows',v',h1,h2,h3,h4⟩
   ·walk_at "rd"
    refine zdp ha' (L.same sR) eR lR (fun i hi=>(rR i hi).1) B P (by omega) (fun hno H2 s2=>?_) (fun i hi hxi h0 p2 H2 f2 s2 e2=>?_)
    ·walk_at "rd"
     refine iteT ?_
     walk_at "rd"
     have hne:=zh9 (by omega) hno
     refine q0 (fun rows'=>?_) _ (sR.trans s2)
     rcases hx with hx | hx
     ·subst hx
      rw [Bool.eq_false_iff]
      intro z
      exact hne ⟨rows',z⟩
     ·exact absurd hx hne
    ·have hpair:=zd7.mp (getD_mem (d:=[]) hi)
     have hst:=zia P (by omega) hi h0 hb
     walk_at "rd"
     refine iteF ?_
     generalize (prsB (zam hs rs ((rows.length:Int)+1))).getD i []=row at *
     have eR2:=s2 _ _ eR
     walk_at "rd"
     refine zaT (s2 _ _ eR) (by rw [List.length_map];omega) fun H3 b3 e3=>?_
     walk_at "rd"
     exact ⟨rows++[row],_,rfl,R.push f2 s2 e2 (s2 _ _ eR) b3 e3,by rw [List.length_append,List.length_singleton];omega,ze9 P (by omega) hpair,.inr hxi,hst⟩
  ·have hlen:rows.length=hs.length:=by omega
   walk_at "rd"
   refine q1 rows ⟨?_,hb⟩ _ _ R
   rcases hx with hx | ⟨more,hm⟩
   ·subst hx
    refine zbd.mpr ⟨hlen,fun k hk=>?_,fun k hk=>?_⟩
    ·rw [← hlen] at hk;simp at hk
    ·have:=(B.rl k hk).1
     show ((0:Nat):Int)≤_
     simpa using this
   ·have h1:=(zbd.mp hm).1
    rw [List.length_append] at h1
    have:more=[]:=List.eq_nil_of_length_eq_zero (by omega)
    rw [this,List.append_nil] at hm
    exact hm
 exact TERM
theorem zex {H:Hp} {a b:Addr} {hs:List Int} {rs:List (List Int)} {Q:VK} {E:XK} (h1:SqL K H a (hs.map V.int)) (h2:LL K H b rs) (h4:InB hs rs) (q0:zbx hs rs none→∀ H',Same H H'→Q .non H') (q1:∀ rows,zbx hs rs (some rows)→∀ p H',RowsAt H p rows H'→Q (.ref p) H'):zcp K [.ref a,.ref b] H Q E:=⟨rfl,a,b,hs,rs,rfl,h1,h2,h4,q0,q1⟩
def zdQ (K:PySem.W.Frag) (C:Addr):Sp:=fun vs H Q _=>vs.length=1∧∃ (x:Addr) (F:Addr→Prop) (st:ExS),vs=[.ref x]∧ExAt C H x F st∧InB st.hs st.rs∧st.dl=none∧(zbx st.hs st.rs none→∀ H',Same H H'→Q (.bl false) H')∧∀ rows,zbx st.hs st.rs (some rows)→∀ H' F',ExFr H H' F F'→ExAt C H' x F' { st with dl:=some (rows,[]) }→Q (.bl true) H'
theorem zge (T:Txt K mg t):FnOk P w K mg base CX0 22 t.f_Exam_deal t.d_Exam_deal ["self"] (zdQ K t.C_Exam):=by
 have G_Exam_refuse_behind_dealing:=zaI (P:=P) (w:=w) (base:=base) T
 have G_first_dealing:=zdY (P:=P) (w:=w) (base:=base) T
 refine T.F_Exam_deal.ok sc_Exam_deal (fun vs H Q E h=>?_) (fun cdv A outer s H vs Q E hr h=>?_)
 ·exact (by obtain ⟨h,_⟩:=h;exact h)
 have TERM:∃ t',PSs (cxOf CX0 P w K mg base ["self","rows"] "Exam.deal" (zab s_Exam_deal) t.f_Exam_deal cdv A outer s H E).nox (zae s_Exam_deal) t'∧t' ⟨fun _ H'=>Q .non H',Q,fun _ _=>False,fun _ _=>False⟩ (start ["self","rows"] vs) H:=by
  refine ⟨_,(zac (zaM (zaY (pv 0) T.cl_Exam T.me_Exam_refuse_behind_dealing (G_Exam_refuse_behind_dealing) (hr.mono (by first | decide | exact Nat.le_refl _)) T.b_Exam_refuse_behind_dealing .nil zav))
   (zac (zaF (i:=1) sc_Exam_deal.nd rfl (by first | exact Or.inl rfl | exact Or.inr rfl) (zao (G_first_dealing) (hr.mono (by decide)) (by rfl) T.m_first_dealing T.F_first_dealing.kp T.b_first_dealing .nil zav (zaa (zaz (K:=K) rfl (pv 0)) (zaa (zaz (K:=K) rfl (pv 0)) pa_nil))))
   (zac (zaV (zay (op_isNN) (pv 1) zcv (zaJ _))
   (zad (zaj za4)) pss_nil)
   (zac (zbt (K:=K) rfl (pv 0) za4)
   (zac (zbt (K:=K) rfl (pv 0) (pv 1))
   (zac (zbt (K:=K) rfl (pv 0) (zaW (zap (sc:=zab s_Exam_deal) (XN:=["self","rows"]) (N:=["row"]) (own:=1) (js:=[]) rfl rfl (by decide +kernel)) rfl (zaE (K:=K) rfl (pv 1)) (fun _ _ _ _ _=>(zaq (i:=0) (show List.Nodup [(Str.ofString "row")] by decide +kernel) rfl (by first | exact Or.inl rfl | exact Or.inr rfl))) (fun _ _ _ _ _=>za9) (fun _ _ _ _ _=>pe_dnewK)))
   (zad (zaj za4)))))))),?_⟩
  obtain ⟨_,x,F,st,rfl,E0,BB,hd,q0,q1⟩:=h
  have B1:=BB.lp
  have B2:=BB.lr
  have E0':=E0
  obtain ⟨e,kvs,rfl,hF,I⟩:=E0
  have hcl:=T.cl_Exam
  have nA:=T.n_Exam_paper_houses
  have nB:=T.n_Exam_reader_rows
  have nS:=T.n_Exam_widest_step
  have nD:=T.n_Exam_is_dealt
  have nC:=T.n_Exam_named_readers
  have nE:=T.n_Exam_entered_points
  have hob:=I.ob
  have fA:=@exFs_a (.ref e.a) (.ref e.b) (.int st.step) (.bl st.dl.isSome) (.ref e.c) (.ref e.d)
  have fB:=@exFs_b (.ref e.a) (.ref e.b) (.int st.step) (.bl st.dl.isSome) (.ref e.c) (.ref e.d)
  have fS:=@exFs_s (.ref e.a) (.ref e.b) (.int st.step) (.bl st.dl.isSome) (.ref e.c) (.ref e.d)
  have fD:=@exFs_d (.ref e.a) (.ref e.b) (.int st.step) (.bl st.dl.isSome) (.ref e.c) (.ref e.d)
  have fC:=@exFs_c (.ref e.a) (.ref e.b) (.int st.step) (.bl st.dl.isSome) (.ref e.c) (.ref e.d)
  have fE:=@exFs_e (.ref e.a) (.ref e.b) (.int st.step) (.bl st.dl.isSome) (.ref e.c) (.ref e.d)
  have hha:=I.ha
  have hhb:=I.hb
  have hhc:=I.hc
  have hhd:=I.hd
  have L:LL K H e.b st.rs:=⟨e.ps,SqL.of hhb,I.lp,I.rp⟩
  walk_at "rd"
  refine zaZ E0' hd ?_
  walk_at "rd"
  refine zex (SqL.of hha) L BB (fun F0 H1 s1=>?_) (fun rows F1 p H1 R1=>?_)
  ·walk_at "rd"
   rw [decide_eq_true (rfl:V.non=V.non)]
   refine iteT ?_
   walk_at "rd"
   exact q0 F0 H1 s1
  ·have hrt:zaS st.hs st.rs rows=true:=F1.1
   have hrl:=(zbd.mp hrt).1
   obtain ⟨psr,hpr,hlr,_⟩:=R1.rows
   walk_at "rd"
   rw [decide_eq_false (show ¬V.ref p=V.non by intro z;cases z)]
   refine iteF ?_
   have x1:=R1.same _ _ hob
   have xp:p≠e.x:=(zag hob R1.new).symm
   walk_at "rd"
   refine za1 x1 hcl nD (show 6 < 1000 by decide) fun H2 b2 x2=>?_
   rw [exFs_pd] at x2
   walk_at "rd"
   refine za1 x2 hcl nC (show 6 < 1000 by decide) fun H3 b3 x3=>?_
   rw [exFs_pc] at x3
   have hp3:H3 p=some (.lst (psr.map V.ref)):=by rw [b3 _ xp,b2 _ xp];exact hpr
   walk_at "rd"
   refine zaO (SqL.of hp3) ?_
   refine zbu (zh0 (zbK.one (za6 (SqL.of hp3))) (by rw [List.length_map];omega) rfl fun d ds H4 f4 s4 e4 l4 nd4 hd4=>?_)
   rw [List.length_map,hlr] at l4
   rw [List.length_map,hlr] at hd4
   have x4:=s4 _ _ x3
   walk_at "rd"
   refine za1 x4 hcl nE (show 6 < 1000 by decide) fun H5 b5 x5=>?_
   rw [exFs_pe] at x5
   have xd:d≠e.x:=(zag x3 f4).symm
   have kk:∀ b o,H1 b=some o→b≠e.x→H5 b=some o:=fun b o eb nb=>by
    rw [b5 _ nb]
    refine s4 _ _ ?_
    rw [b3 _ nb,b2 _ nb]
    exact eb
   have n1:∀ b,H3 b=none→H1 b=none:=fun b eb=>by
    cases h1:H1 b with
    | none=>rfl
    | some o =>
      by_cases nb:b=e.x
      ·rw [nb,x3] at eb;cases eb
      ·rw [b3 _ nb,b2 _ nb,h1] at eb;cases eb
   have nx4:∀ i,i < rows.length→ds.getD i 0≠e.x:=fun i hi z=>by have:=(hd4 i hi).2.1;rw [z,x3] at this;cases this
   obtain ⟨e',hx',I',fp'⟩:=I.deal (H5:=H5) (p:=p) (q:=d) (rows:=rows) (ds:=ds) hrt R1 kk x5 (by rw [b5 _ xd];exact e4) (n1 _ f4) l4 nd4 (fun i hi=>⟨by rw [b5 _ (nx4 i hi)];exact (hd4 i hi).1,n1 _ (hd4 i hi).2.1,(hd4 i hi).2.2⟩)
   walk_at "rd"
   refine q1 rows F1 H5 _ ⟨fun b o eb nb=>?_,fun b z=>?_⟩ (hx'▸I'.at)
   ·exact kk b o (R1.same _ _ eb) (fun z=>nb ((hF _).mpr (by rw [z];exact own_x)))
   ·exact (fp' b z).imp (fun z=>(hF b).mpr z) id
 exact TERM
theorem zgW {K:PySem.W.Frag} {C x:Addr} {H:Hp} {F:Addr→Prop} {st:ExS} {Q:VK} {E:XK} (h:ExAt C H x F st) (B:InB st.hs st.rs) (hd:st.dl=none) (q0:zbx st.hs st.rs none→∀ H',Same H H'→Q (.bl false) H') (q1:∀ rows,zbx st.hs st.rs (some rows)→∀ H' F',ExFr H H' F F'→ExAt C H' x F' { st with dl:=some (rows,[]) }→Q (.bl true) H'):zdQ K C [.ref x] H Q E:=⟨rfl,x,F,st,rfl,h,B,hd,q0,q1⟩
def zbO (K:PySem.W.Frag) (C:Addr):Sp:=fun vs H Q _=>vs.length=1∧∃ (x:Addr) (F:Addr→Prop) (st:ExS),vs=[.ref x]∧ExAt C H x F st∧InB st.hs st.rs∧((st.dl=none→∀ H',Same H H'→Q .non H')∧∀ nm en,st.dl=some (nm,en)→∀ p H',RowsAt H p (nm.map (List.take 2)) H'→Q (.ref p) H')
theorem zcH (T:Txt K mg t):FnOk P w K mg base CX0 1 t.f_Exam_dealing t.d_Exam_dealing ["self"] (zbO K t.C_Exam):=by
 refine T.F_Exam_dealing.ok sc_Exam_dealing (fun vs H Q E h=>?_) (fun cdv A outer s H vs Q E hr h=>?_)
 ·exact (by obtain ⟨h,_⟩:=h;exact h)
 have TERM:∃ t',PSs (cxOf CX0 P w K mg base ["self"] "Exam.dealing" (zab s_Exam_dealing) t.f_Exam_dealing cdv A outer s H E).nox (zae s_Exam_dealing) t'∧t' ⟨fun _ H'=>Q .non H',Q,fun _ _=>False,fun _ _=>False⟩ (start ["self"] vs) H:=by
  refine ⟨_,(zac (zaV (zba (zas (K:=K) rfl (zaz (K:=K) rfl (pv 0)) (fun _=>rfl)))
   (zad (zaj zcv)) pss_nil)
   (zad (zaj (zaW (zap (sc:=zab s_Exam_dealing) (XN:=["self"]) (N:=["named"]) (own:=1) (js:=[]) rfl rfl (by decide +kernel)) rfl (zaE (K:=K) rfl (zaz (K:=K) rfl (pv 0))) (fun _ _ _ _ _=>(zaq (i:=0) (show List.Nodup [(Str.ofString "named")] by decide +kernel) rfl (by first | exact Or.inl rfl | exact Or.inr rfl))) (fun _ _ _ _ _=>za9) (fun _ _ _ _ _=>(zdb (zdd (K:=K) rfl) (pv 0) po_none (zea zaf))))))),?_⟩
  obtain ⟨_,x,F,st,rfl,E0,BB,q⟩:=h
  have B1:=BB.lp
  have B2:=BB.lr
  obtain ⟨e,kvs,rfl,hF,I⟩:=E0
  have hcl:=T.cl_Exam
  have nA:=T.n_Exam_paper_houses
  have nB:=T.n_Exam_reader_rows
  have nS:=T.n_Exam_widest_step
  have nD:=T.n_Exam_is_dealt
  have nC:=T.n_Exam_named_readers
  have nE:=T.n_Exam_entered_points
  have hob:=I.ob
  have fA:=@exFs_a (.ref e.a) (.ref e.b) (.int st.step) (.bl st.dl.isSome) (.ref e.c) (.ref e.d)
  have fB:=@exFs_b (.ref e.a) (.ref e.b) (.int st.step) (.bl st.dl.isSome) (.ref e.c) (.ref e.d)
  have fS:=@exFs_s (.ref e.a) (.ref e.b) (.int st.step) (.bl st.dl.isSome) (.ref e.c) (.ref e.d)
  have fD:=@exFs_d (.ref e.a) (.ref e.b) (.int st.step) (.bl st.dl.isSome) (.ref e.c) (.ref e.d)
  have fC:=@exFs_c (.ref e.a) (.ref e.b) (.int st.step) (.bl st.dl.isSome) (.ref e.c) (.ref e.d)
  have fE:=@exFs_e (.ref e.a) (.ref e.b) (.int st.step) (.bl st.dl.isSome) (.ref e.c) (.ref e.d)
  have hha:=I.ha
  have hhb:=I.hb
  have hhc:=I.hc
  have hhd:=I.hd
  obtain ⟨q0,q1⟩:=q
  have lq:=I.lq
  have l10:=I.wf.n10 BB
  walk_at "rd"
  cases hdl:st.dl with
  | none =>
    refine iteT ?_
    walk_at "rd"
    exact q0 hdl H (Same.refl H)
  | some d =>
    obtain ⟨nm,en⟩:=d
    refine iteF ?_
    rw [hdl] at hob
    have fC:=@exFs_c (.ref e.a) (.ref e.b) (.int st.step) (.bl (some (nm,en)).isSome) (.ref e.c) (.ref e.d)
    have enm:st.nm=nm:=by unfold ExS.nm;rw [hdl];rfl
    rw [enm] at lq l10
    have rq:=I.rq
    rw [enm] at rq
    walk_at "rd"
    refine zaO (SqL.of hhc) ?_
    have hl:=q1
    refine zbu (zby (zbK.one (za6 (SqL.of hhc))) (by rw [List.length_map];omega) (fun i=>(nm.getD i []).take 2) (fun i H' Q' hi s q'=>?_) fun p H2 R=>?_)
    ·rw [List.length_map,lq] at hi
     have ex:(e.qs.map V.ref).getD i .non=.ref (e.qs.getD i 0):=by
      rw [List.getD_eq_getElem?_getD,List.getElem?_map,List.getElem?_eq_getElem (by omega),List.getD_eq_getElem?_getD,List.getElem?_eq_getElem (by omega)];rfl
     rw [ex]
     have hrow:=s _ _ (rq i hi)
     show (_:TE) (some (.ref (e.qs.getD i 0))::_) _ _
     walk_at "rd"
     refine zb7 (SqL.of hrow) fun p2 H2 f2 s2 e2=>?_
     rw [show cutV ((nm.getD i []).map V.int) none (some 2)=((nm.getD i []).map V.int).take 2 from zgD 2,← List.map_take] at e2
     exact q' p2 H2 f2 s2 e2
    ·rw [List.length_map,lq] at R
     have em:(List.range nm.length).map (fun i=>(nm.getD i []).take 2)=nm.map (List.take 2):=by
      refine List.ext_getElem (by simp) fun i h1 h2=>?_
      simp at h1 ⊢
      rw [List.getElem?_eq_getElem h1];rfl
     rw [em] at R
     exact q1 nm en hdl p H2 R
 exact TERM
theorem zeR {K:PySem.W.Frag} {C x:Addr} {H:Hp} {F:Addr→Prop} {st:ExS} {Q:VK} {E:XK} (h:ExAt C H x F st) (B:InB st.hs st.rs) (q:((st.dl=none→∀ H',Same H H'→Q .non H')∧∀ nm en,st.dl=some (nm,en)→∀ p H',RowsAt H p (nm.map (List.take 2)) H'→Q (.ref p) H')):zbO K C [.ref x] H Q E:=⟨rfl,x,F,st,rfl,h,B,q⟩
theorem zcZ {K:PySem.W.Frag} {C x:Addr} {H:Hp} {F:Addr→Prop} {st:ExS} {Q:VK} {E:XK} {σ:L2.St} (h:ExAt C H x F st) (B:InB st.hs st.rs) (q:((st.dl=none→∀ H',Same H H'→Q .non H')∧∀ nm en,st.dl=some (nm,en)→∀ p H',RowsAt H p (nm.map (List.take 2)) H'→Q (.ref p) H')):za3 C "dealing" (zbO K C) E tNil σ (.ref x) H Q:=by
 obtain ⟨dx,fs,e,l⟩:=h.ob
 exact zaG e (l _ (by decide +kernel)) (zcN (zeR h B q))
def zcc (K:PySem.W.Frag):Sp:=fun vs H Q _=>vs.length=2∧∃ (a b:Addr) (ts rs:List (List Int)),vs=[.ref a,.ref b]∧LL K H a ts∧LL K H b rs∧ts.length=rs.length∧rs.length≤1000∧(∀ i,i < ts.length→(ts.getD i []).length=2)∧(∀ i,i < rs.length→(rs.getD i []).length=2)∧Q (.bl (nbB ts rs)) H
theorem zdE (T:Txt K mg t):FnOk P w K mg base CX0 1 t.f_law_not_behind t.d_law_not_behind ["_law_told","_law_rival"] (zcc K):=by
 refine T.F_law_not_behind.ok sc_law_not_behind (fun vs H Q E h=>?_) (fun cdv A outer s H vs Q E hr h=>?_)
 ·exact (by obtain ⟨h,_⟩:=h;exact h)
 have TERM:∃ t',PSs (cxOf CX0 P w K mg base ["_law_told","_law_rival","_law_k","_law_j"] "_law_not_behind" (zab s_law_not_behind) t.f_law_not_behind cdv A outer s H E).nox (zae s_law_not_behind) t'∧t' ⟨fun _ H'=>Q .non H',Q,fun _ _=>False,fun _ _=>False⟩ (start ["_law_told","_law_rival","_law_k","_law_j"] vs) H:=by
  refine ⟨_,(zac (za2 PassesOwn.never rfl (za5 (by rfl) T.z_range (zaa (zah (zak (K:=K) rfl) (by rfl) T.z_len (by rfl) (zaa (pv 1) pa_nil)) pa_nil)) (zaq (i:=2) sc_law_not_behind.nd rfl (by first | exact Or.inl rfl | exact Or.inr rfl))
   (zad (za2 PassesOwn.never rfl (za5 (by rfl) T.z_range (zaa zaf pa_nil)) (zaq (i:=3) sc_law_not_behind.nd rfl (by first | exact Or.inl rfl | exact Or.inr rfl))
   (zad (zaV (zay (zcS (K:=K) rfl hr.units0) (zaH (zai (K:=K) rfl) (zaH (zai (K:=K) rfl) (pv 0) (pv 2) (fun _ _=>rfl)) (pv 3) (fun _ _=>rfl)) (zaH (zai (K:=K) rfl) (zaH (zai (K:=K) rfl) (pv 1) (pv 2) (fun _ _=>rfl)) (pv 3) (fun _ _=>rfl)) (zaJ _))
   (zad (zaj (zcx (op_lt) (zaH (zai (K:=K) rfl) (zaH (zai (K:=K) rfl) (pv 0) (pv 2) (fun _ _=>rfl)) (pv 3) (fun _ _=>rfl)) (zaH (zai (K:=K) rfl) (zaH (zai (K:=K) rfl) (pv 1) (pv 2) (fun _ _=>rfl)) (pv 3) (fun _ _=>rfl)) (zaJ _)))) pss_nil)))))
   (zad (zaj za4))),?_⟩
  obtain ⟨_,a,b,ts,rs,rfl,hT,hR,hlen,hz,t2,r2,q⟩:=h
  obtain ⟨ps,ha,hl,hrow⟩:=id hT
  obtain ⟨qs,hb,hm,hrows⟩:=id hR
  walk_at "rd"
  refine zcl (by omega) (by omega) ?_
  refine zbI (fun i σ H'=>∃ v w,σ=[some (.ref a),some (.ref b),v,w]∧H'=H∧∀ j,j < i→(ts.getD j []).getD 0 0=(rs.getD j []).getD 0 0∧(ts.getD j []).getD 1 0=(rs.getD j []).getD 1 0) ⟨none,none,rfl,rfl,fun k hk=>absurd hk (by omega)⟩ ?_ ?_
  ·rintro i σ H' hi ⟨v,w,rfl,rfl,hall⟩
   have hi':i < rs.length:=by omega
   have ei:(0+(i:Int)).toNat=i:=by omega
   have hti:=hrow i (by omega)
   have hri:=hrows i hi'
   have hti':H' (ps.getD (0+(i:Int)).toNat 0)=some (.lst ((ts.getD i []).map V.int)):=by rw [ei];exact hti
   have hri':H' (qs.getD (0+(i:Int)).toNat 0)=some (.lst ((rs.getD i []).map V.int)):=by rw [ei];exact hri
   have t2i:=t2 i (by omega)
   have r2i:=r2 i hi'
   have hd:=zhm i hall (by omega) (by omega)
   have d1:ts.drop i=ts.getD i []::ts.drop (i+1):=by
    rw [List.getD_eq_getElem?_getD,List.getElem?_eq_getElem (by omega)]
    exact List.drop_eq_getElem_cons (by omega)
   have d2:rs.drop i=rs.getD i []::rs.drop (i+1):=by
    rw [List.getD_eq_getElem?_getD,List.getElem?_eq_getElem hi']
    exact List.drop_eq_getElem_cons hi'
   rw [d1,d2] at hd
   walk_at "rd"
   refine zcl (by omega) (by omega) ?_
   refine zbI (fun j σ H1=>∃ w,σ=[some (.ref a),some (.ref b),some (.int (0+(i:Int))),w]∧H1=H'∧∀ l,l < j→(ts.getD i []).getD l 0=(rs.getD i []).getD l 0) ⟨w,rfl,rfl,fun k hk=>absurd hk (by omega)⟩ ?_ ?_
   ·rintro j σ H1 hj ⟨w,rfl,rfl,hin⟩
    have hj2:j < 2:=by omega
    have ej:(0+(j:Int)).toNat=j:=by omega
    walk_at "rd"
    rw [ej]
    refine zed (fun h0=>?_) (fun h0=>?_)
    ·walk_at "rd"
     rw [ej]
     have e:nbB ts rs=decide ((ts.getD i []).getD j 0 < (rs.getD i []).getD j 0):=by
      rw [hd]
      have:j=0∨j=1:=by omega
      rcases this with rfl | rfl
      ·show (if (ts.getD i []).getD 0 0=(rs.getD i []).getD 0 0 then _ else _)=_
       rw [if_neg h0]
      ·show (if (ts.getD i []).getD 0 0=(rs.getD i []).getD 0 0 then _ else _)=_
       rw [if_pos (hin 0 (by omega)),if_neg h0]
     rw [e] at q
     exact q
    ·walk_at "rd"
     refine ⟨_,rfl,rfl,fun l hl=>?_⟩
     by_cases e:l=j
     ·subst e;exact h0
     ·exact hin l (by omega)
   ·rintro σ H1 ⟨w,rfl,rfl,hin⟩
    have e2:Int.toNat 2=2:=rfl
    rw [e2] at hin
    refine ⟨_,_,rfl,rfl,fun j hj=>?_⟩
    by_cases e:j=i
    ·subst e;exact ⟨hin 0 (by omega),hin 1 (by omega)⟩
    ·exact hall j (by omega)
  ·rintro σ H' ⟨v,w,rfl,rfl,hall⟩
   have e:nbB ts rs=true:=by
    rw [zhm rs.length (fun j hj=>hall j (by omega)) (by omega) (Nat.le_refl _),List.drop_length]
    cases ts.drop rs.length <;> rfl
   rw [e] at q
   walk_at "rd"
   exact q
 exact TERM
theorem zdZ {H:Hp} {a b:Addr} {ts rs:List (List Int)} {Q:VK} {E:XK} (h1:LL K H a ts) (h2:LL K H b rs) (h3:ts.length=rs.length) (h4:rs.length≤1000) (h5:∀ i,i < ts.length→(ts.getD i []).length=2) (h6:∀ i,i < rs.length→(rs.getD i []).length=2) (q:Q (.bl (nbB ts rs)) H):zcc K [.ref a,.ref b] H Q E:=⟨rfl,a,b,ts,rs,rfl,h1,h2,h3,h4,h5,h6,q⟩
def zdR (K:PySem.W.Frag):Sp:=fun vs H Q _=>vs.length=1∧∃ x:V,vs=[x]∧((∃ i:Int,x=.int i∧Q (.bl true) H))
theorem zcI (T:Txt K mg t):FnOk P w K mg base CX0 1 t.f_law_whole t.d_law_whole ["_law_found"] (zdR K):=by
 refine T.F_law_whole.ok sc_law_whole (fun vs H Q E h=>?_) (fun cdv A outer s H vs Q E hr h=>?_)
 ·exact (by obtain ⟨h,_⟩:=h;exact h)
 have TERM:∃ t',PSs (cxOf CX0 P w K mg base ["_law_found"] "_law_whole" (zab s_law_whole) t.f_law_whole cdv A outer s H E).nox (zae s_law_whole) t'∧t' ⟨fun _ H'=>Q .non H',Q,fun _ _=>False,fun _ _=>False⟩ (start ["_law_found"] vs) H:=by
  refine ⟨_,(zad (zaj (zhb (zah (zaL (K:=K) rfl) (by rfl) T.z_isinstance (by rfl) (zaa (pv 0) (zaa (zcw (v:=.ty "int") (u:=.type "int") (by rfl) T.z_int (by rfl) rfl) pa_nil))) (zir (zl3 (zah (zaL (K:=K) rfl) (by rfl) T.z_isinstance (by rfl) (zaa (pv 0) (zaa (zcw (v:=.ty "bool") (u:=.type "bool") (by rfl) T.z_bool (by rfl) rfl) pa_nil)))))))),?_⟩
  obtain ⟨_,x,rfl,i,rfl,q⟩:=h
  walk_at "rd"
  refine iteT ?_
  walk_at "rd"
  exact q
 exact TERM
theorem zey {H:Hp} {i:Int} {Q:VK} {E:XK} (q:Q (.bl true) H):zdR K [.int i] H Q E:=⟨rfl,_,rfl,i,rfl,q⟩
local macro_rules | `(tactic| walk_at "rd1")=>`(tactic| (with_reducible refine zey ?_))
def zez (K:PySem.W.Frag):Sp:=fun vs H Q _=>vs.length=3∧∃ (b r:Addr) (h:Int) (rs:List (List Int)) (row:List Int),vs=[.ref b,.int h,.ref r]∧LL K H b rs∧(∀ i,i < rs.length→(rs.getD i []).length=2)∧H r=some (.lst (row.map V.int))∧Q (.bl (zb8 rs h row)) H
theorem zgX (T:Txt K mg t):FnOk P w K mg base CX0 2 t.f_law_pair t.d_law_pair ["_law_staff","_law_house","_law_row_here"] (zez K):=by
 have G_law_whole:=zcI (P:=P) (w:=w) (base:=base) T
 refine T.F_law_pair.ok sc_law_pair (fun vs H Q E h=>?_) (fun cdv A outer s H vs Q E hr h=>?_)
 ·exact (by obtain ⟨h,_⟩:=h;exact h)
 have TERM:∃ t',PSs (cxOf CX0 P w K mg base ["_law_staff","_law_house","_law_row_here","_law_one"] "_law_pair" (zab s_law_pair) t.f_law_pair cdv A outer s H E).nox (zae s_law_pair) t'∧t' ⟨fun _ H'=>Q .non H',Q,fun _ _=>False,fun _ _=>False⟩ (start ["_law_staff","_law_house","_law_row_here","_law_one"] vs) H:=by
  refine ⟨_,(zac (zaV (zc2 (zba (zas (K:=K) rfl (zah (zaL (K:=K) rfl) (by rfl) T.z_isinstance (by rfl) (zaa (pv 2) (zaa (zcw (v:=.ty "list") (u:=.type "list") (by rfl) T.z_list (by rfl) rfl) pa_nil))) (fun _=>rfl))) (zbT (zay (zcS (K:=K) rfl hr.units0) (zah (zak (K:=K) rfl) (by rfl) T.z_len (by rfl) (zaa (pv 2) pa_nil)) zaf (zaJ _)))).pt
   (zad (zaj za4)) pss_nil)
   (zac (za2 PassesOwn.never rfl (zaE (K:=K) rfl (pv 2)) (zaq (i:=3) sc_law_pair.nd rfl (by first | exact Or.inl rfl | exact Or.inr rfl))
   (zac (zaV (zc2 (zba (zas (K:=K) rfl (zao (G_law_whole) (hr.mono (by decide)) (by rfl) T.m_law_whole T.F_law_whole.kp T.b_law_whole .nil zav (zaa (pv 3) pa_nil)) (fun _=>rfl))) (zc2 (zay (op_lt) (pv 3) zaf (zaJ _)) (zbT (zay (op_gt) (pv 3) (zah (zak (K:=K) rfl) (by rfl) T.z_len (by rfl) (zaa (pv 0) pa_nil)) (zaJ _))))).pt
   (zad (zaj za4)) pss_nil)
   (zad (zaV (zay (zdj (K:=K) rfl hr.units0) (zaH (zai (K:=K) rfl) (zaH (zai (K:=K) rfl) (pv 0) (zaw (op_sub) (pv 3) zaf) (fun _ _=>rfl)) zaf (fun _ _=>rfl)) (pv 1) (zaJ _))
   (zad (zaj za4)) pss_nil))))
   (zad (zaj (zcx (op_lt) (zaH (zai (K:=K) rfl) (pv 2) zaf (fun _ _=>rfl)) (zaH (zai (K:=K) rfl) (pv 2) zaf (fun _ _=>rfl)) (zaJ _)))))),?_⟩
  obtain ⟨_,b,r,h,rs,row,rfl,hL,h2,hr0,q⟩:=h
  obtain ⟨ps,hb,hl,hrow⟩:=id hL
  unfold zb8 at q
  walk_at "rd"
  refine iteF ?_
  walk_at "rd"
  refine zed (fun h0=>?_) (fun h0=>?_)
  ·rw [decide_eq_false (fun z=>h0 (by omega)),Bool.false_and,Bool.false_and] at q
   walk_at "rd"
   exact q
  rw [decide_eq_true (show row.length=2 by omega),Bool.true_and] at q
  walk_at "rd"
  refine zaO (SqL.of hr0) ?_
  refine zb3 (xs:=row.map V.int) (fun i σ H'=>∃ v,σ=[some (.ref b),some (.int h),some (.ref r),v]∧H'=H∧∀ j,j < i→(decide (1≤row.getD j 0) && decide (row.getD j 0≤(rs.length:Int)) && !decide ((rs.getD (row.getD j 0-1).toNat []).getD 0 0=h))=true) ⟨none,rfl,rfl,fun j hj=>absurd hj (by omega)⟩ ?_ ?_ ?_
  ·rintro i σ H' _ ⟨_,rfl,rfl,_⟩
   exact SqL.of hr0
  ·rintro i x σ H' hxi ⟨_,rfl,rfl,hall⟩
   obtain ⟨hi,rfl⟩:=zdx hxi
   have no:(decide (1≤row.getD i 0) && decide (row.getD i 0≤(rs.length:Int)) && !decide ((rs.getD (row.getD i 0-1).toNat []).getD 0 0=h))=false→Q (.bl false) H':=fun z=>by
    rw [zi9 (c:=fun x=>decide (1≤x) && decide (x≤(rs.length:Int)) && !decide ((rs.getD (x-1).toNat []).getD 0 0=h)) hi z,Bool.false_and] at q
    exact q
   walk_at "rd"
   refine iteF ?_
   walk_at "rd"
   refine zct (fun h1=>?_) (fun h1=>?_)
   ·refine iteT ?_
    walk_at "rd"
    exact no (by rw [decide_eq_false (by omega)];rfl)
   walk_at "rd"
   refine zct (fun h3=>?_) (fun h3=>?_)
   ·walk_at "rd"
    exact no (by rw [decide_eq_false (show ¬row.getD i 0≤(rs.length:Int) by omega),Bool.and_false];rfl)
   have hk:(row.getD i 0-1).toNat < rs.length:=by omega
   have hrk:=hrow _ hk
   have h2k:=h2 _ hk
   walk_at "rd"
   refine zct (fun h4=>?_) (fun h4=>?_)
   ·walk_at "rd"
    refine no ?_
    rw [show (rs.getD (row.getD i 0-1).toNat []).getD 0 0=h from h4,decide_eq_true (rfl:h=h)]
    simp
   ·walk_at "rd"
    refine ⟨_,rfl,rfl,fun j hj=>?_⟩
    by_cases e:j=i
    ·subst e
     rw [decide_eq_true (show 1≤row.getD j 0 by omega),decide_eq_true (show row.getD j 0≤(rs.length:Int) by omega),decide_eq_false (show ¬(rs.getD (row.getD j 0-1).toNat []).getD 0 0=h from h4)]
     rfl
    ·exact hall j (by omega)
  ·rintro σ H' ⟨_,rfl,rfl,hall⟩
   rw [List.length_map] at hall
   rw [zj2 (c:=fun x=>decide (1≤x) && decide (x≤(rs.length:Int)) && !decide ((rs.getD (x-1).toNat []).getD 0 0=h)) hall,Bool.true_and] at q
   walk_at "rd"
   exact q
 exact TERM
theorem zib {H:Hp} {b r:Addr} {h:Int} {rs:List (List Int)} {row:List Int} {Q:VK} {E:XK} (h1:LL K H b rs) (h2:∀ i,i < rs.length→(rs.getD i []).length=2) (h3:H r=some (.lst (row.map V.int))) (q:Q (.bl (zb8 rs h row)) H):zez K [.ref b,.int h,.ref r] H Q E:=⟨rfl,b,r,h,rs,row,rfl,h1,h2,h3,q⟩
def zdS (K:PySem.W.Frag):Sp:=fun vs H Q _=>vs.length=3∧∃ (a b c:Addr) (hs:List Int) (rs rows:List (List Int)),vs=[.ref a,.ref b,.ref c]∧SqL K H a (hs.map V.int)∧LL K H b rs∧(∀ i,i < rs.length→(rs.getD i []).length=2)∧(∃ zs,H c=some (.lst zs))∧LL K H c rows∧rs.length≤1000∧rows.length≤1000∧hs.length≤1000∧∀ H',Same H H'→Q (.bl (zaS hs rs rows)) H'
theorem zgf (T:Txt K mg t):FnOk P w K mg base CX0 3 t.f_law_right t.d_law_right ["_law_homes","_law_staff","_law_rows_here"] (zdS K):=by
 have G_law_pair:=zgX (P:=P) (w:=w) (base:=base) T
 refine T.F_law_right.ok sc_law_right (fun vs H Q E h=>?_) (fun cdv A outer s H vs Q E hr h=>?_)
 ·exact (by obtain ⟨h,_⟩:=h;exact h)
 have TERM:∃ t',PSs (cxOf CX0 P w K mg base ["_law_homes","_law_staff","_law_rows_here","_law_k"] "_law_right" (zab s_law_right) t.f_law_right cdv A outer s H E).nox (zae s_law_right) t'∧t' ⟨fun _ H'=>Q .non H',Q,fun _ _=>False,fun _ _=>False⟩ (start ["_law_homes","_law_staff","_law_rows_here","_law_k"] vs) H:=by
  refine ⟨_,(zac (zaV (zc2 (zba (zas (K:=K) rfl (zah (zaL (K:=K) rfl) (by rfl) T.z_isinstance (by rfl) (zaa (pv 2) (zaa (zcw (v:=.ty "list") (u:=.type "list") (by rfl) T.z_list (by rfl) rfl) pa_nil))) (fun _=>rfl))) (zbT (zay (zcS (K:=K) rfl hr.units0) (zah (zak (K:=K) rfl) (by rfl) T.z_len (by rfl) (zaa (pv 2) pa_nil)) (zah (zak (K:=K) rfl) (by rfl) T.z_len (by rfl) (zaa (pv 0) pa_nil)) (zaJ _)))).pt
   (zad (zaj za4)) pss_nil)
   (zac (za2 PassesOwn.never rfl (za5 (by rfl) T.z_range (zaa (zah (zak (K:=K) rfl) (by rfl) T.z_len (by rfl) (zaa (pv 0) pa_nil)) pa_nil)) (zaq (i:=3) sc_law_right.nd rfl (by first | exact Or.inl rfl | exact Or.inr rfl))
   (zad (zaV (zba (zas (K:=K) rfl (zao (G_law_pair) (hr.mono (by decide)) (by rfl) T.m_law_pair T.F_law_pair.kp T.b_law_pair .nil zav (zaa (pv 1) (zaa (zaH (zai (K:=K) rfl) (pv 0) (pv 3) (fun _ _=>rfl)) (zaa (zaH (zai (K:=K) rfl) (pv 2) (pv 3) (fun _ _=>rfl)) pa_nil)))) (fun _=>rfl)))
   (zad (zaj za4)) pss_nil)))
   (zac (za2 PassesOwn.never rfl (za5 (by rfl) T.z_range (zaa (zah (zak (K:=K) rfl) (by rfl) T.z_len (by rfl) (zaa (pv 1) pa_nil)) pa_nil)) (zaq (i:=3) sc_law_right.nd rfl (by first | exact Or.inl rfl | exact Or.inr rfl))
   (zad (zaV (zay (op_gt) (zah (zak (K:=K) rfl) (by rfl) T.z_len (by rfl) (zaa (zaW (zap (sc:=zab s_law_right) (XN:=["_law_homes","_law_staff","_law_rows_here","_law_k"]) (N:=["_law_row_here","_law_k"]) (own:=1) (js:=[3]) rfl rfl (by decide +kernel)) rfl (zaE (K:=K) rfl (pv 2)) (fun _ _ _ _ _=>(zaq (i:=0) (show List.Nodup [(Str.ofString "_law_row_here"),(Str.ofString "_law_k")] by decide +kernel) rfl (by first | exact Or.inl rfl | exact Or.inr rfl))) (fun _ _ _ _ _=>(zcy (zay (ze7 (K:=K) rfl (zeN hr)) (zaw (op_addG) (pv 1) zaf) (pv 0) (by with_unfolding_all rfl)))) (fun _ _ _ _ _=>(pv 0))) pa_nil)) (zaH (zai (K:=K) rfl) (zaH (zai (K:=K) rfl) (pv 1) (pv 3) (fun _ _=>rfl)) zaf (fun _ _=>rfl)) (zaJ _))
   (zad (zaj za4)) pss_nil)))
   (zad (zaj za4))))),?_⟩
  obtain ⟨_,a,b,c,hs,rs,rows,rfl,ha,hL,h2,⟨zs,hz⟩,hM,l1,l2,l3,q⟩:=h
  obtain ⟨ps,hb,hl,hrow⟩:=id hL
  obtain ⟨qs,hc,hm,hrows⟩:=id hM
  have hzs:SqL K H c (qs.map V.ref):=hc
  unfold zaS at q
  walk_at "rd"
  refine iteF ?_
  walk_at "rd"
  refine zed (fun h0=>?_) (fun h0=>?_)
  ·rw [decide_eq_false (fun z=>h0 (by omega)),Bool.false_and,Bool.false_and] at q
   walk_at "rd"
   exact q _ (Same.refl _)
  rw [decide_eq_true (show rows.length=hs.length by omega),Bool.true_and] at q
  walk_at "rd"
  refine zcl (by omega) (by omega) ?_
  refine zbI (fun i σ H'=>∃ v,σ=[some (.ref a),some (.ref b),some (.ref c),v]∧H'=H∧∀ k,k < i→zb8 rs (hs.getD k 0) (rows.getD k [])=true) ⟨none,rfl,rfl,fun k hk=>absurd hk (by omega)⟩ ?_ ?_
  ·rintro i σ H' hi ⟨_,rfl,rfl,hall⟩
   have ei:(0+(i:Int)).toNat=i:=by omega
   walk_at "rd"
   rw [ei]
   refine zib hL h2 (hrows i (by omega)) ?_
   walk_at "rd"
   refine zmn (fun h1=>?_) (fun h1=>?_)
   ·rw [zcB (c:=fun k=>zb8 rs (hs.getD k 0) (rows.getD k [])) (show i < hs.length by omega) h1,Bool.false_and] at q
    walk_at "rd"
    exact q _ (Same.refl _)
   ·walk_at "rd"
    refine ⟨_,rfl,rfl,fun k hk=>?_⟩
    by_cases e:k=i
    ·subst e;exact h1
    ·exact hall k (by omega)
  rintro σ H' ⟨v,rfl,rfl,hall⟩
  rw [za8 (c:=fun k=>zb8 rs (hs.getD k 0) (rows.getD k [])) (fun k hk=>hall k (by omega)),Bool.true_and] at q
  walk_at "rd"
  refine zcl (by omega) (by omega) ?_
  refine zbI (fun i σ H1=>∃ v,σ=[some (.ref a),some (.ref b),some (.ref c),v]∧Same H' H1∧∀ k,k < i→(cntB rows (0+(k:Int)+1):Int)≤(rs.getD k []).getD 1 0) ⟨v,rfl,Same.refl _,fun k hk=>absurd hk (by omega)⟩ ?_ ?_
  ·rintro i σ H1 hi ⟨_,rfl,s1,hle⟩
   have ei:(0+(i:Int)).toNat=i:=by omega
   have hri:=s1 _ _ (hrow i (by omega))
   have h2i:=h2 i (by omega)
   have hc1:=s1.seq hc
   have hb1:=s1.seq hb
   walk_at "rd"
   refine zaO hc1 ?_
   refine zd5 (rows:=rows) (x:=0+(i:Int)+1) hc1 hm l2 (fun j H2 Q' hj s2 q'=>?_) fun p H2 zs2 f2 s2 e2 z2=>?_
   ·have hrj:=s2 _ _ (s1 _ _ (hrows j hj))
    walk_at "rd"
    exact q'
   have hri2:=s2 _ _ hri
   have hb2:=s2.seq hb1
   walk_at "rd"
   rw [ei]
   walk_at "rd"
   rw [z2]
   refine zct (fun h1=>?_) (fun h1=>?_)
   ·rw [zcB (c:=fun k=>decide ((cntB rows (0+(k:Int)+1):Int)≤(rs.getD k []).getD 1 0)) (show i < rs.length by omega) (decide_eq_false (show ¬(cntB rows (0+(i:Int)+1):Int)≤(rs.getD i []).getD 1 0 by have e1:Int.toNat 1=1:=rfl;rw [e1] at h1;omega))] at q
    walk_at "rd"
    exact q _ (s1.trans s2)
   ·walk_at "rd"
    refine ⟨_,rfl,s1.trans s2,fun k hk=>?_⟩
    by_cases e:k=i
    ·subst e
     have e1:Int.toNat 1=1:=rfl
     rw [e1] at h1
     omega
    ·exact hle k (by omega)
  ·rintro σ H1 ⟨_,rfl,s1,hle⟩
   rw [za8 (c:=fun k=>decide ((cntB rows (0+(k:Int)+1):Int)≤(rs.getD k []).getD 1 0)) (fun k hk=>decide_eq_true (hle k (by omega)))] at q
   walk_at "rd"
   exact q _ s1
 exact TERM
theorem zgY {H:Hp} {a b c:Addr} {hs:List Int} {rs rows:List (List Int)} {Q:VK} {E:XK} (h1:SqL K H a (hs.map V.int)) (h2:LL K H b rs) (h3:∀ i,i < rs.length→(rs.getD i []).length=2) (h4:∃ zs,H c=some (.lst zs)) (h5:LL K H c rows) (l1:rs.length≤1000) (l2:rows.length≤1000) (l3:hs.length≤1000)
  (q:∀ H',Same H H'→Q (.bl (zaS hs rs rows)) H'):zdS K [.ref a,.ref b,.ref c] H Q E:=⟨rfl,a,b,c,hs,rs,rows,rfl,h1,h2,h3,h4,h5,l1,l2,l3,q⟩
def zfa (K:PySem.W.Frag):Sp:=fun vs H Q _=>vs.length=2∧∃ (a b:Addr) (xs ys:List Int),vs=[.ref a,.ref b]∧H a=some (.lst (xs.map V.int))∧SqL K H b (ys.map V.int)∧ys.length≤1000000∧Q (.bl (decide (xs=ys))) H
theorem zdF (T:Txt K mg t):FnOk P w K mg base CX0 2 t.f_law_row t.d_law_row ["_law_found","_law_due"] (zfa K):=by
 have G_law_whole:=zcI (P:=P) (w:=w) (base:=base) T
 refine T.F_law_row.ok sc_law_row (fun vs H Q E h=>?_) (fun cdv A outer s H vs Q E hr h=>?_)
 ·exact (by obtain ⟨h,_⟩:=h;exact h)
 have TERM:∃ t',PSs (cxOf CX0 P w K mg base ["_law_found","_law_due","_law_k"] "_law_row" (zab s_law_row) t.f_law_row cdv A outer s H E).nox (zae s_law_row) t'∧t' ⟨fun _ H'=>Q .non H',Q,fun _ _=>False,fun _ _=>False⟩ (start ["_law_found","_law_due","_law_k"] vs) H:=by
  refine ⟨_,(zac (zaV (zc2 (zba (zas (K:=K) rfl (zah (zaL (K:=K) rfl) (by rfl) T.z_isinstance (by rfl) (zaa (pv 0) (zaa (zcw (v:=.ty "list") (u:=.type "list") (by rfl) T.z_list (by rfl) rfl) pa_nil))) (fun _=>rfl))) (zbT (zay (zcS (K:=K) rfl hr.units0) (zah (zak (K:=K) rfl) (by rfl) T.z_len (by rfl) (zaa (pv 0) pa_nil)) (zah (zak (K:=K) rfl) (by rfl) T.z_len (by rfl) (zaa (pv 1) pa_nil)) (zaJ _)))).pt
   (zad (zaj za4)) pss_nil)
   (zac (za2 PassesOwn.never rfl (za5 (by rfl) T.z_range (zaa (zah (zak (K:=K) rfl) (by rfl) T.z_len (by rfl) (zaa (pv 1) pa_nil)) pa_nil)) (zaq (i:=2) sc_law_row.nd rfl (by first | exact Or.inl rfl | exact Or.inr rfl))
   (zad (zaV (zc2 (zba (zas (K:=K) rfl (zao (G_law_whole) (hr.mono (by decide)) (by rfl) T.m_law_whole T.F_law_whole.kp T.b_law_whole .nil zav (zaa (zaH (zai (K:=K) rfl) (pv 0) (pv 2) (fun _ _=>rfl)) pa_nil)) (fun _=>rfl))) (zbT (zay (zcS (K:=K) rfl hr.units0) (zaH (zai (K:=K) rfl) (pv 0) (pv 2) (fun _ _=>rfl)) (zaH (zai (K:=K) rfl) (pv 1) (pv 2) (fun _ _=>rfl)) (zaJ _)))).pt
   (zad (zaj za4)) pss_nil)))
   (zad (zaj za4)))),?_⟩
  obtain ⟨_,a,b,xs,ys,rfl,ha,hb,hy,q⟩:=h
  walk_at "rd"
  refine iteF ?_
  walk_at "rd"
  refine zed (fun h0=>?_) (fun h0=>?_)
  ·rw [decide_eq_false (by rintro rfl;exact h0 rfl)] at q
   walk_at "rd"
   exact q
  ·have hlen:xs.length=ys.length:=by omega
   walk_at "rd"
   refine zcl (by omega) (by omega) ?_
   refine zbI (fun i σ H1=>∃ v,σ=[some (.ref a),some (.ref b),v]∧H1=H∧∀ j,j < i→xs.getD j 0=ys.getD j 0) ⟨none,rfl,rfl,fun j hj=>absurd hj (by omega)⟩ ?_ ?_
   ·rintro i σ H1 hi ⟨v,rfl,rfl,hall⟩
    walk_at "rd"
    refine iteF ?_
    walk_at "rd"
    refine zed (fun h1=>?_) (fun h1=>?_)
    ·rw [decide_eq_false (by rintro rfl;exact h1 rfl)] at q
     walk_at "rd"
     exact q
    ·walk_at "rd"
     refine ⟨_,rfl,rfl,fun j hj=>?_⟩
     by_cases e:j=i
     ·subst e
      have e2:(0+(j:Int)).toNat=j:=by omega
      rw [e2] at h1
      exact h1
     ·exact hall j (by omega)
   ·rintro σ H1 ⟨v,rfl,rfl,hall⟩
    rw [decide_eq_true (zjY hlen fun j hj=>hall j (by omega))] at q
    walk_at "rd"
    exact q
 exact TERM
theorem zeA {H:Hp} {a b:Addr} {xs ys:List Int} {Q:VK} {E:XK} (h:H a=some (.lst (xs.map V.int))) (h':SqL K H b (ys.map V.int)) (hl:ys.length≤1000000) (q:Q (.bl (decide (xs=ys))) H):zfa K [.ref a,.ref b] H Q E:=⟨rfl,a,b,xs,ys,rfl,h,h',hl,q⟩
def zeB (K:PySem.W.Frag):Sp:=fun vs H Q _=>vs.length=2∧∃ (a b:Addr) (xs ys:List (List Int)),vs=[.ref a,.ref b]∧(∃ zs,H a=some (.lst zs))∧LL K H a xs∧LL K H b ys∧ys.length≤1000000∧(∀ i,i < ys.length→(ys.getD i []).length≤1000000)∧Q (.bl (decide (xs=ys))) H
theorem zeC (T:Txt K mg t):FnOk P w K mg base CX0 3 t.f_law_rows t.d_law_rows ["_law_found","_law_due"] (zeB K):=by
 have G_law_row:=zdF (P:=P) (w:=w) (base:=base) T
 refine T.F_law_rows.ok sc_law_rows (fun vs H Q E h=>?_) (fun cdv A outer s H vs Q E hr h=>?_)
 ·exact (by obtain ⟨h,_⟩:=h;exact h)
 have TERM:∃ t',PSs (cxOf CX0 P w K mg base ["_law_found","_law_due","_law_k"] "_law_rows" (zab s_law_rows) t.f_law_rows cdv A outer s H E).nox (zae s_law_rows) t'∧t' ⟨fun _ H'=>Q .non H',Q,fun _ _=>False,fun _ _=>False⟩ (start ["_law_found","_law_due","_law_k"] vs) H:=by
  refine ⟨_,(zac (zaV (zc2 (zba (zas (K:=K) rfl (zah (zaL (K:=K) rfl) (by rfl) T.z_isinstance (by rfl) (zaa (pv 0) (zaa (zcw (v:=.ty "list") (u:=.type "list") (by rfl) T.z_list (by rfl) rfl) pa_nil))) (fun _=>rfl))) (zbT (zay (zcS (K:=K) rfl hr.units0) (zah (zak (K:=K) rfl) (by rfl) T.z_len (by rfl) (zaa (pv 0) pa_nil)) (zah (zak (K:=K) rfl) (by rfl) T.z_len (by rfl) (zaa (pv 1) pa_nil)) (zaJ _)))).pt
   (zad (zaj za4)) pss_nil)
   (zac (za2 PassesOwn.never rfl (za5 (by rfl) T.z_range (zaa (zah (zak (K:=K) rfl) (by rfl) T.z_len (by rfl) (zaa (pv 1) pa_nil)) pa_nil)) (zaq (i:=2) sc_law_rows.nd rfl (by first | exact Or.inl rfl | exact Or.inr rfl))
   (zad (zaV (zba (zas (K:=K) rfl (zao (G_law_row) (hr.mono (by decide)) (by rfl) T.m_law_row T.F_law_row.kp T.b_law_row .nil zav (zaa (zaH (zai (K:=K) rfl) (pv 0) (pv 2) (fun _ _=>rfl)) (zaa (zaH (zai (K:=K) rfl) (pv 1) (pv 2) (fun _ _=>rfl)) pa_nil))) (fun _=>rfl)))
   (zad (zaj za4)) pss_nil)))
   (zad (zaj za4)))),?_⟩
  obtain ⟨_,a,b,xs,ys,rfl,⟨zs,hz⟩,⟨ps,ha,hla,hpa⟩,⟨qs,hb,hlb,hpb⟩,hy,hyi,q⟩:=h
  walk_at "rd"
  refine iteF ?_
  walk_at "rd"
  refine zed (fun h0=>?_) (fun h0=>?_)
  ·rw [decide_eq_false (by rintro rfl;exact h0 (by omega))] at q
   walk_at "rd"
   exact q
  ·have hlen:xs.length=ys.length:=by omega
   walk_at "rd"
   refine zcl (by omega) (by omega) ?_
   refine zbI (fun i σ H1=>∃ v,σ=[some (.ref a),some (.ref b),v]∧H1=H∧∀ j,j < i→xs.getD j []=ys.getD j []) ⟨none,rfl,rfl,fun j hj=>absurd hj (by omega)⟩ ?_ ?_
   ·rintro i σ H1 hi ⟨v,rfl,rfl,hall⟩
    walk_at "rd"
    have e2:(0+(i:Int)).toNat=i:=by omega
    rw [e2]
    refine zeA (hpa i (by omega)) (SqL.of (hpb i (by omega))) (hyi i (by omega)) ?_
    walk_at "rd"
    refine zed (fun h1=>?_) (fun h1=>?_)
    ·rw [decide_eq_false (by rintro rfl;exact h1 rfl)] at q
     walk_at "rd"
     exact q
    ·walk_at "rd"
     refine ⟨_,rfl,rfl,fun j hj=>?_⟩
     by_cases e:j=i
     ·subst e
      exact h1
     ·exact hall j (by omega)
   ·rintro σ H1 ⟨v,rfl,rfl,hall⟩
    rw [decide_eq_true (zfV hlen fun j hj=>hall j (by omega))] at q
    walk_at "rd"
    exact q
 exact TERM
theorem zdG {H:Hp} {a b:Addr} {xs ys:List (List Int)} {Q:VK} {E:XK} (hz:∃ zs,H a=some (.lst zs)) (h:LL K H a xs) (h':LL K H b ys) (hl:ys.length≤1000000) (hi:∀ i,i < ys.length→(ys.getD i []).length≤1000000) (q:Q (.bl (decide (xs=ys))) H):zeB K [.ref a,.ref b] H Q E:=⟨rfl,a,b,xs,ys,rfl,hz,h,h',hl,hi,q⟩
def zbP (K:PySem.W.Frag) (C:Addr):Sp:=fun vs H Q _=>vs.length=1∧∃ (x:Addr) (F:Addr→Prop) (st:ExS),vs=[.ref x]∧ExAt C H x F st∧InB st.hs st.rs∧(∀ p H',RowsAt H p st.rs H'→Q (.ref p) H')
theorem zeD (T:Txt K mg t):FnOk P w K mg base CX0 1 t.f_Exam_readers t.d_Exam_readers ["self"] (zbP K t.C_Exam):=by
 refine T.F_Exam_readers.ok sc_Exam_readers (fun vs H Q E h=>?_) (fun cdv A outer s H vs Q E hr h=>?_)
 ·exact (by obtain ⟨h,_⟩:=h;exact h)
 have TERM:∃ t',PSs (cxOf CX0 P w K mg base ["self"] "Exam.readers" (zab s_Exam_readers) t.f_Exam_readers cdv A outer s H E).nox (zae s_Exam_readers) t'∧t' ⟨fun _ H'=>Q .non H',Q,fun _ _=>False,fun _ _=>False⟩ (start ["self"] vs) H:=by
  refine ⟨_,(zad (zaj (zaW (zap (sc:=zab s_Exam_readers) (XN:=["self"]) (N:=["row"]) (own:=1) (js:=[]) rfl rfl (by decide +kernel)) rfl (zaE (K:=K) rfl (zaz (K:=K) rfl (pv 0))) (fun _ _ _ _ _=>(zaq (i:=0) (show List.Nodup [(Str.ofString "row")] by decide +kernel) rfl (by first | exact Or.inl rfl | exact Or.inr rfl))) (fun _ _ _ _ _=>za9) (fun _ _ _ _ _=>(zfM (ze2 (K:=K) rfl) (by rfl) T.z_list (by rfl) (zaa (pv 0) pa_nil)))))),?_⟩
  obtain ⟨_,x,F,st,rfl,E0,BB,q⟩:=h
  have B1:=BB.lp
  have B2:=BB.lr
  obtain ⟨e,kvs,rfl,hF,I⟩:=E0
  have hcl:=T.cl_Exam
  have nA:=T.n_Exam_paper_houses
  have nB:=T.n_Exam_reader_rows
  have nS:=T.n_Exam_widest_step
  have nD:=T.n_Exam_is_dealt
  have nC:=T.n_Exam_named_readers
  have nE:=T.n_Exam_entered_points
  have hob:=I.ob
  have fA:=@exFs_a (.ref e.a) (.ref e.b) (.int st.step) (.bl st.dl.isSome) (.ref e.c) (.ref e.d)
  have fB:=@exFs_b (.ref e.a) (.ref e.b) (.int st.step) (.bl st.dl.isSome) (.ref e.c) (.ref e.d)
  have fS:=@exFs_s (.ref e.a) (.ref e.b) (.int st.step) (.bl st.dl.isSome) (.ref e.c) (.ref e.d)
  have fD:=@exFs_d (.ref e.a) (.ref e.b) (.int st.step) (.bl st.dl.isSome) (.ref e.c) (.ref e.d)
  have fC:=@exFs_c (.ref e.a) (.ref e.b) (.int st.step) (.bl st.dl.isSome) (.ref e.c) (.ref e.d)
  have fE:=@exFs_e (.ref e.a) (.ref e.b) (.int st.step) (.bl st.dl.isSome) (.ref e.c) (.ref e.d)
  have hha:=I.ha
  have hhb:=I.hb
  have hhc:=I.hc
  have hhd:=I.hd
  have L:LL K H e.b st.rs:=⟨e.ps,SqL.of hhb,I.lp,I.rp⟩
  walk_at "rd"
  refine zaO (SqL.of hhb) ?_
  refine zhZ L (by omega) fun p H2 R=>?_
  exact q p H2 R
 exact TERM
theorem zeS {K:PySem.W.Frag} {C x:Addr} {H:Hp} {F:Addr→Prop} {st:ExS} {Q:VK} {E:XK} (h:ExAt C H x F st) (B:InB st.hs st.rs) (q:(∀ p H',RowsAt H p st.rs H'→Q (.ref p) H')):zbP K C [.ref x] H Q E:=⟨rfl,x,F,st,rfl,h,B,q⟩
theorem zeT {K:PySem.W.Frag} {C x:Addr} {H:Hp} {F:Addr→Prop} {st:ExS} {Q:VK} {E:XK} {σ:L2.St} (h:ExAt C H x F st) (B:InB st.hs st.rs) (q:(∀ p H',RowsAt H p st.rs H'→Q (.ref p) H')):za3 C "readers" (zbP K C) E tNil σ (.ref x) H Q:=by
 obtain ⟨dx,fs,e,l⟩:=h.ob
 exact zaG e (l _ (by decide +kernel)) (zcN (zeS h B q))
def zb5 (K:PySem.W.Frag) (C:Addr):Sp:=fun vs H Q _=>vs.length=1∧∃ (x:Addr) (F:Addr→Prop) (st:ExS),vs=[.ref x]∧ExAt C H x F st∧InB st.hs st.rs∧(∀ p H',H p=none→Same H H'→H' p=some (.lst (st.hs.map V.int))→Q (.ref p) H')
theorem zeU (T:Txt K mg t):FnOk P w K mg base CX0 1 t.f_Exam_papers t.d_Exam_papers ["self"] (zb5 K t.C_Exam):=by
 refine T.F_Exam_papers.ok sc_Exam_papers (fun vs H Q E h=>?_) (fun cdv A outer s H vs Q E hr h=>?_)
 ·exact (by obtain ⟨h,_⟩:=h;exact h)
 have TERM:∃ t',PSs (cxOf CX0 P w K mg base ["self"] "Exam.papers" (zab s_Exam_papers) t.f_Exam_papers cdv A outer s H E).nox (zae s_Exam_papers) t'∧t' ⟨fun _ H'=>Q .non H',Q,fun _ _=>False,fun _ _=>False⟩ (start ["self"] vs) H:=by
  refine ⟨_,(zad (zaj (zfM (ze2 (K:=K) rfl) (by rfl) T.z_list (by rfl) (zaa (zaz (K:=K) rfl (pv 0)) pa_nil)))),?_⟩
  obtain ⟨_,x,F,st,rfl,E0,BB,q⟩:=h
  have B1:=BB.lp
  have B2:=BB.lr
  obtain ⟨e,kvs,rfl,hF,I⟩:=E0
  have hcl:=T.cl_Exam
  have nA:=T.n_Exam_paper_houses
  have nB:=T.n_Exam_reader_rows
  have nS:=T.n_Exam_widest_step
  have nD:=T.n_Exam_is_dealt
  have nC:=T.n_Exam_named_readers
  have nE:=T.n_Exam_entered_points
  have hob:=I.ob
  have fA:=@exFs_a (.ref e.a) (.ref e.b) (.int st.step) (.bl st.dl.isSome) (.ref e.c) (.ref e.d)
  have fB:=@exFs_b (.ref e.a) (.ref e.b) (.int st.step) (.bl st.dl.isSome) (.ref e.c) (.ref e.d)
  have fS:=@exFs_s (.ref e.a) (.ref e.b) (.int st.step) (.bl st.dl.isSome) (.ref e.c) (.ref e.d)
  have fD:=@exFs_d (.ref e.a) (.ref e.b) (.int st.step) (.bl st.dl.isSome) (.ref e.c) (.ref e.d)
  have fC:=@exFs_c (.ref e.a) (.ref e.b) (.int st.step) (.bl st.dl.isSome) (.ref e.c) (.ref e.d)
  have fE:=@exFs_e (.ref e.a) (.ref e.b) (.int st.step) (.bl st.dl.isSome) (.ref e.c) (.ref e.d)
  have hha:=I.ha
  have hhb:=I.hb
  have hhc:=I.hc
  have hhd:=I.hd
  walk_at "rd"
  refine zfR (SqL.of hha) fun p H1 f1 s1 e1=>?_
  exact q p H1 f1 s1 e1
 exact TERM
theorem zfz {K:PySem.W.Frag} {C x:Addr} {H:Hp} {F:Addr→Prop} {st:ExS} {Q:VK} {E:XK} (h:ExAt C H x F st) (B:InB st.hs st.rs) (q:(∀ p H',H p=none→Same H H'→H' p=some (.lst (st.hs.map V.int))→Q (.ref p) H')):zb5 K C [.ref x] H Q E:=⟨rfl,x,F,st,rfl,h,B,q⟩
theorem zfA {K:PySem.W.Frag} {C x:Addr} {H:Hp} {F:Addr→Prop} {st:ExS} {Q:VK} {E:XK} {σ:L2.St} (h:ExAt C H x F st) (B:InB st.hs st.rs) (q:(∀ p H',H p=none→Same H H'→H' p=some (.lst (st.hs.map V.int))→Q (.ref p) H')):za3 C "papers" (zb5 K C) E tNil σ (.ref x) H Q:=by
 obtain ⟨dx,fs,e,l⟩:=h.ob
 exact zaG e (l _ (by decide +kernel)) (zcN (zfz h B q))
def zbz (ns:List Int):Int:=(mxOf none ns).getD 0
def zc0 (K:PySem.W.Frag):Sp:=fun vs H Q _=>vs.length=1∧∃ (a:Addr) (ns:List Int),vs=[.ref a]∧SqL K H a (ns.map V.int)∧Q (.int (zbz ns)) H
theorem zeV (T:Txt K mg t):FnOk P w K mg base CX0 1 t.f_greatest_of t.d_greatest_of ["chosen"] (zc0 K):=by
 refine T.F_greatest_of.ok sc_greatest_of (fun vs H Q E h=>?_) (fun cdv A outer s H vs Q E hr h=>?_)
 ·exact (by obtain ⟨h,_⟩:=h;exact h)
 have TERM:∃ t',PSs (cxOf CX0 P w K mg base ["chosen"] "greatest_of" (zab s_greatest_of) t.f_greatest_of cdv A outer s H E).nox (zae s_greatest_of) t'∧t' ⟨fun _ H'=>Q .non H',Q,fun _ _=>False,fun _ _=>False⟩ (start ["chosen"] vs) H:=by
  refine ⟨_,(zad (zaj (zeO (K:=K) rfl rfl (by rfl) T.z_max (pv 0) zaf))),?_⟩
  obtain ⟨_,a,ns,rfl,ha,q⟩:=h
  walk_at "rd"
  exact q
 exact TERM
theorem zfB {H:Hp} {a:Addr} {ns:List Int} {Q:VK} {E:XK} (h:SqL K H a (ns.map V.int)) (q:Q (.int (zbz ns)) H):zc0 K [.ref a] H Q E:=⟨rfl,a,ns,rfl,h,q⟩
def extB (m:Int) (c:List Int):List (List Int):=(List.range (m+1-(zbz c+1)).toNat).map fun i:Nat=>c++[zbz c+1+(i:Int)]
def zaU (m:Int) (L:List (List Int)):List (List Int):=L.flatMap (extB m)
theorem zdT (m:Int) (L:List (List Int)) (i:Nat) (h:i < L.length):zaU m (L.take (i+1))=zaU m (L.take i)++extB m (L.getD i []):=by
 unfold zaU
 rw [List.take_add_one,List.getElem?_eq_getElem h,List.flatMap_append,List.getD_eq_getElem?_getD,List.getElem?_eq_getElem h]
 simp
theorem zic (m:Int) (L:List (List Int)) (i:Nat):(zaU m (L.take i)).length≤(zaU m L).length:=by
 have e:zaU m L=zaU m (L.take i)++zaU m (L.drop i):=by
  unfold zaU
  rw [← List.flatMap_append,List.take_append_drop]
 rw [e,List.length_append]
 omega
def zb1 (K:PySem.W.Frag):Sp:=fun vs H Q _=>vs.length=2∧∃ (a:Addr) (L:List (List Int)) (m:Int),vs=[.ref a,.int m]∧LL K H a L∧0≤m∧m≤10∧(zaU m L).length≤1000∧(∀ i,i < L.length→(L.getD i []).length≤100∧0≤zbz (L.getD i [])∧zbz (L.getD i [])≤10)∧∀ (p:Addr) (H2:Hp),RowsAt H p (zaU m L) H2→Q (.ref p) H2
theorem zdq (T:Txt K mg t):FnOk P w K mg base CX0 2 t.f_sets_one_larger t.d_sets_one_larger ["of_one_size","many"] (zb1 K):=by
 have G_greatest_of:=zeV (P:=P) (w:=w) (base:=base) T
 refine T.F_sets_one_larger.ok sc_sets_one_larger (fun vs H Q E h=>?_) (fun cdv A outer s H vs Q E hr h=>?_)
 ·exact (by obtain ⟨h,_⟩:=h;exact h)
 have TERM:∃ t',PSs (cxOf CX0 P w K mg base ["of_one_size","many","larger","chosen","paper"] "sets_one_larger" (zab s_sets_one_larger) t.f_sets_one_larger cdv A outer s H E).nox (zae s_sets_one_larger) t'∧t' ⟨fun _ H'=>Q .non H',Q,fun _ _=>False,fun _ _=>False⟩ (start ["of_one_size","many","larger","chosen","paper"] vs) H:=by
  refine ⟨_,(zac (zaF (i:=2) sc_sets_one_larger.nd rfl (by first | exact Or.inl rfl | exact Or.inr rfl) (zaP pa_nil))
   (zac (za2 PassesOwn.never rfl (zaE (K:=K) rfl (pv 0)) (zaq (i:=3) sc_sets_one_larger.nd rfl (by first | exact Or.inl rfl | exact Or.inr rfl))
   (zad (za2 PassesOwn.never rfl (zbl (by rfl) T.z_range (zaa (zaw (op_addG) (zao (G_greatest_of) (hr.mono (by decide)) (by rfl) T.m_greatest_of T.F_greatest_of.kp T.b_greatest_of .nil zav (zaa (pv 3) pa_nil)) zaf) (zaa (zaw (op_addG) (pv 1) zaf) pa_nil))) (zaq (i:=4) sc_sets_one_larger.nd rfl (by first | exact Or.inl rfl | exact Or.inr rfl))
   (zad (zaM (zbW (K:=K) rfl PySem.F.plainAttrs_list PySem.F.slot_list_append PySem.F.type_list_append mt_append (pv 2) (zaa (zaw (op_addG) (pv 3) (zaP (zaa (pv 4) pa_nil))) pa_nil)))))))
   (zad (zaj (pv 2))))),?_⟩
  obtain ⟨_,a,L,m,rfl,hL,m0,m1,hz,hg,q⟩:=h
  obtain ⟨ps,hb,hl,hrow⟩:=id hL
  walk_at "rd"
  refine zax (by decide) fun p1 H1 f1 s1 e1=>?_
  walk_at "rd"
  refine zaO (s1.seq hb) ?_
  refine zb3 (xs:=ps.map V.ref) (fun i σ H'=>∃ v w,σ=[some (.ref a),some (.int m),some (.ref p1),v,w]∧RowsAt H p1 (zaU m (L.take i)) H') ⟨none,none,rfl,RowsAt.start f1 s1 e1⟩ ?_ ?_ ?_
  ·rintro i σ H' _ ⟨v,w,rfl,R⟩
   exact R.same.seq hb
  ·rintro i x σ H' hx ⟨v,w,rfl,R⟩
   have hi:i < ps.length:=by
    have:=(List.getElem?_eq_some_iff.mp hx).1
    simpa using this
   have ex:x=.ref (ps.getD i 0):=by
    rw [List.getElem?_map,List.getElem?_eq_getElem hi] at hx
    rw [List.getD_eq_getElem?_getD,List.getElem?_eq_getElem hi]
    exact (Option.some.inj hx).symm
   subst ex
   have hc:=R.same _ _ (hrow i (by omega))
   obtain ⟨g1,g2,g3⟩:=hg i (by omega)
   walk_at "rd"
   refine zfB (SqL.of hc) ?_
   walk_at "rd"
   refine zde ⟨by omega,by omega,by omega,by omega⟩ ?_
   refine zbI (fun j σ H'=>∃ w,σ=[some (.ref a),some (.int m),some (.ref p1),some (.ref (ps.getD i 0)),w]∧RowsAt H p1 (zaU m (L.take i)++(extB m (L.getD i [])).take j) H') ⟨w,rfl,by rw [List.take_zero,List.append_nil];exact R⟩ ?_ ?_
   ·rintro j σ H3 hj ⟨w,rfl,R3⟩
    have hc3:=R3.same _ _ (hrow i (by omega))
    obtain ⟨zs,hz3,hzl⟩:=R3.lst
    have hlen:zs.length≤1000:=by
     rw [hzl,List.length_append]
     have e1:=zic m L (i+1)
     rw [zdT m L i (by omega),List.length_append] at e1
     have e2:((extB m (L.getD i [])).take j).length≤(extB m (L.getD i [])).length:=by rw [List.length_take];omega
     omega
    walk_at "rd"
    refine zax (by simp) fun q1 H4 f4 s4 e4=>?_
    refine zfn (s4 _ _ hc3) e4 (by rw [List.length_map];simp only [List.length_cons,List.length_nil];omega) fun q2 H5 f5 s5 e5=>?_
    walk_at "rd"
    have s45:=s4.trans s5
    refine zaT (s45 _ _ hz3) (by omega) fun H6 b6 e6=>?_
    walk_at "rd"
    refine ⟨_,rfl,?_⟩
    have ej:(extB m (L.getD i [])).take (j+1)=(extB m (L.getD i [])).take j++[L.getD i []++[zbz (L.getD i [])+1+(j:Int)]]:=by
     have hjl:j < (extB m (L.getD i [])).length:=by unfold extB;rw [List.length_map,List.length_range];exact hj
     rw [List.take_add_one,List.getElem?_eq_getElem hjl]
     unfold extB
     simp
    rw [ej,← List.append_assoc]
    refine R3.push (s4.free f5) s45 ?_ (s45 _ _ hz3) b6 e6
    rw [e5,List.map_append]
    rfl
   ·rintro σ H3 ⟨w,rfl,R3⟩
    refine ⟨_,_,rfl,?_⟩
    rw [zdT m L i (by omega)]
    have et:(extB m (L.getD i [])).take (m+1-(zbz (L.getD i [])+1)).toNat=extB m (L.getD i []):=by
     refine List.take_of_length_le ?_
     unfold extB
     rw [List.length_map,List.length_range]
     exact Nat.le_refl _
    rw [et] at R3
    exact R3
  ·rintro σ H' ⟨v,w,rfl,R⟩
   rw [List.length_map,hl,List.take_length] at R
   walk_at "rd"
   exact q p1 H' R
 exact TERM
theorem zdH {H:Hp} {a:Addr} {L:List (List Int)} {m:Int} {Q:VK} {E:XK} (h1:LL K H a L) (m0:0≤m) (m1:m≤10) (hz:(zaU m L).length≤1000) (hg:∀ i,i < L.length→(L.getD i []).length≤100∧0≤zbz (L.getD i [])∧zbz (L.getD i [])≤10)
  (q:∀ (p:Addr) (H2:Hp),RowsAt H p (zaU m L) H2→Q (.ref p) H2):zb1 K [.ref a,.int m] H Q E:=⟨rfl,a,L,m,rfl,h1,m0,m1,hz,hg,q⟩
def aheadAll:List (List Int)→Bool
 | a::b::r=>zcP a b && aheadAll (b::r)
 | _=>true
def zgZ (m:Int):Nat→List (List Int)→Bool
 | 0,L=>L.isEmpty
 | n+1,L=>decide ((zaU m L).length≤1000) && L.all (fun c=>decide (c.length≤100) && decide (0≤zbz c) && decide (zbz c≤10)) && zgZ m n (zaU m L)
def allFrom (m:Int):Nat→List (List Int)→List (List Int)
 | 0,_=>[]
 | n+1,L=>L++allFrom m n (zaU m L)
def zb6 (m:Int):List (List Int):=allFrom m 11 [[]]
def chk (m:Nat):Bool:=zgZ m 11 [[]] && (let S:=zb6 m;decide (S.length=2 ^ m) && S.all (zf0 m 0) && aheadAll S)
theorem chk_all:(List.range 11).all chk=true:=by decide +kernel
theorem zlb {m:Int} (h0:0≤m) (h1:m≤10):zgZ m 11 [[]]=true∧(zb6 m).length=2 ^ m.toNat∧(∀ xs∈zb6 m,zf0 m 0 xs=true)∧aheadAll (zb6 m)=true:=by
 obtain ⟨n,rfl⟩:=Int.eq_ofNat_of_zero_le h0
 have:=List.all_eq_true.mp chk_all n (List.mem_range.mpr (by omega))
 unfold chk at this
 simp only [Bool.and_eq_true,decide_eq_true_eq,List.all_eq_true] at this
 obtain ⟨a,⟨b,c⟩,d⟩:=this
 exact ⟨a,b,c,d⟩
theorem zeE (m:Int):∀ n,allFrom m n []=[]
 | 0=>rfl
 | n+1=>zeE m n
structure Told (B:Hp) (p:Addr) (rs:List (List Int)) (H:Hp):Prop where
 same:Same B H
 new:B p=none
 rows:∃ ps:List Addr,H p=some (.lst (ps.map V.ref))∧ps.length=rs.length∧∀ i,i < rs.length→H (ps.getD i 0)=some (.lst ((rs.getD i []).map V.int))∧B (ps.getD i 0)=none∧ps.getD i 0≠p
theorem Told.ll {K:PySem.W.Frag} {B H:Hp} {p:Addr} {rs:List (List Int)} (R:Told B p rs H):LL K H p rs:=by
 obtain ⟨sb,hp,ps,h1,h2,h3⟩:=R
 exact ⟨ps,SqL.of h1,h2,fun i hi=>(h3 i hi).1⟩
theorem Told.mono {B H H':Hp} {p:Addr} {rs:List (List Int)} (R:Told B p rs H) (s:Same H H'):Told B p rs H':=by
 obtain ⟨sb,hp,ps,h1,h2,h3⟩:=R
 exact ⟨sb.trans s,hp,ps,s _ _ h1,h2,fun i hi=>⟨s _ _ (h3 i hi).1,(h3 i hi).2⟩⟩
theorem Told.ext {B H H3:Hp} {p:Addr} {rs rs2:List (List Int)} {ps qs:List Addr} (sb:Same B H) (hp:B p=none) (h1:H p=some (.lst (ps.map V.ref))) (h2:ps.length=rs.length)
  (h3:∀ i,i < rs.length→H (ps.getD i 0)=some (.lst ((rs.getD i []).map V.int))∧B (ps.getD i 0)=none∧ps.getD i 0≠p)
  (k2:qs.length=rs2.length) (k3:∀ i,i < rs2.length→H (qs.getD i 0)=some (.lst ((rs2.getD i []).map V.int))∧B (qs.getD i 0)=none∧qs.getD i 0≠p)
  (b:But p H H3) (e:H3 p=some (.lst (ps.map V.ref++qs.map V.ref))):Told B p (rs++rs2) H3:=by
 refine ⟨sb.but b hp,hp,ps++qs,by rw [e,List.map_append],by rw [List.length_append,List.length_append,h2,k2],fun i hi=>?_⟩
 rw [List.length_append] at hi
 by_cases hlt:i < rs.length
 ·rw [zaB (by omega),zaB hlt]
  obtain ⟨a1,a2,a3⟩:=h3 i hlt
  exact ⟨by rw [b _ a3];exact a1,a2,a3⟩
 ·obtain ⟨j,rfl⟩:∃ j,i=rs.length+j:=⟨i-rs.length,by omega⟩
  have e1:(ps++qs).getD (rs.length+j) 0=qs.getD j 0:=by
   rw [List.getD_eq_getElem?_getD,List.getD_eq_getElem?_getD,List.getElem?_append_right (by omega)]
   congr 2;omega
  have e2:(rs++rs2).getD (rs.length+j) []=rs2.getD j []:=by
   rw [List.getD_eq_getElem?_getD,List.getD_eq_getElem?_getD,List.getElem?_append_right (by omega)]
   congr 2;omega
  rw [e1,e2]
  obtain ⟨a1,a2,a3⟩:=k3 j (by omega)
  exact ⟨by rw [b _ a3];exact a1,a2,a3⟩
theorem zg0 {H:Hp} {Q:VK} {p b:Addr} {xs ys:List V} (h:H p=some (.lst xs)) (h':H b=some (.lst ys)) (hz:xs.length+ys.length≤1000000) (q:∀ H2,But p H H2→H2 p=some (.lst (xs++ys))→Q .non H2):rExtend (.ref p) [.ref b] H Q :=
 ⟨p,b,xs,ys,rfl,rfl,h,h',by rw [sizeLine_eq];omega,q _ But.upd zar⟩
def zfb (K:PySem.W.Frag):Sp:=fun vs H Q _=>vs.length=1∧∃ (m:Int),vs=[.int m]∧0≤m∧m≤10∧∀ (p:Addr) (H2:Hp),Told H p (zb6 m) H2→Q (.ref p) H2
theorem zid (T:Txt K mg t):FnOk P w K mg base CX0 3 t.f_sets_of t.d_sets_of ["many"] (zfb K):=by
 have G_sets_one_larger:=zdq (P:=P) (w:=w) (base:=base) T
 refine T.F_sets_of.ok sc_sets_of (fun vs H Q E h=>?_) (fun cdv A outer s H vs Q E hr h=>?_)
 ·exact (by obtain ⟨h,_⟩:=h;exact h)
 have TERM:∃ t',PSs (cxOf CX0 P w K mg base ["many","told","of_one_size"] "sets_of" (zab s_sets_of) t.f_sets_of cdv A outer s H E).nox (zae s_sets_of) t'∧t' ⟨fun _ H'=>Q .non H',Q,fun _ _=>False,fun _ _=>False⟩ (start ["many","told","of_one_size"] vs) H:=by
  refine ⟨_,(zac (zaF (i:=1) sc_sets_of.nd rfl (by first | exact Or.inl rfl | exact Or.inr rfl) (zaP pa_nil))
   (zac (zaF (i:=2) sc_sets_of.nd rfl (by first | exact Or.inl rfl | exact Or.inr rfl) (zaP (zaa (zaP pa_nil) pa_nil)))
   (zac (zff PassesOwn.never (zay (op_gt) (zah (zak (K:=K) rfl) (by rfl) T.z_len (by rfl) (zaa (pv 2) pa_nil)) zaf (zaJ _))
   (zac (zaM (zbW (K:=K) rfl PySem.F.plainAttrs_list PySem.F.slot_list_extend PySem.F.type_list_extend mt_extend (pv 1) (zaa (pv 2) pa_nil)))
   (zad (zaF (i:=2) sc_sets_of.nd rfl (by first | exact Or.inl rfl | exact Or.inr rfl) (zao (G_sets_one_larger) (hr.mono (by decide)) (by rfl) T.m_sets_one_larger T.F_sets_one_larger.kp T.b_sets_one_larger .nil zav (zaa (pv 2) (zaa (pv 0) pa_nil)))))))
   (zad (zaj (pv 1)))))),?_⟩
  obtain ⟨_,m,rfl,m0,m1,q⟩:=h
  obtain ⟨c1,c2,c3,c4⟩:=zlb m0 m1
  walk_at "rd"
  refine zax (by decide) fun p1 H1 f1 s1 e1=>?_
  walk_at "rd"
  refine zax (by decide) fun p2 H2 f2 s2 e2=>?_
  walk_at "rd"
  refine zax (by simp) fun p3 H3 f3 s3 e3=>?_
  walk_at "rd"
  have f2':H p2=none:=s1.free f2
  have f3':H p3=none:=(s1.trans s2).free f3
  refine ⟨fun n σ H'=>∃ pc told cur,σ=[some (.int m),some (.ref p1),some (.ref pc)]∧Told H p1 told H'∧Told H pc cur H'∧pc≠p1∧(∃ qs:List Addr,H' pc=some (.lst (qs.map V.ref))∧∀ i,i < cur.length→qs.getD i 0≠p1)∧told++allFrom m n cur=zb6 m∧zgZ m n cur=true,⟨11,p3,[],[[]],rfl,?_,?_,?_,?_,rfl,c1⟩,?_⟩
  ·exact ⟨(s1.trans s2).trans s3,f1,[],s3 _ _ (s2 _ _ e1),rfl,fun i hi=>absurd hi (by simp)⟩
  ·refine ⟨(s1.trans s2).trans s3,f3',[p2],e3,rfl,fun i hi=>?_⟩
   have hi0:i=0:=by simpa using hi
   subst hi0
   exact ⟨s3 _ _ e2,f2',zag e2 f3⟩
  ·exact (zag (s2 _ _ e1) f3).symm
  ·refine ⟨[p2],e3,fun i hi=>?_⟩
   have hi0:i=0:=by simpa using hi
   subst hi0
   exact (zag e1 f2).symm
  rintro n σ H' ⟨pc,told,cur,rfl,R1,R2,hne,⟨qs',hq',hqn⟩,hall,hlev⟩
  obtain ⟨sb,hp,ps,h1,h2,h3⟩:=id R1
  obtain ⟨_,hpc,qs,k1,k2,k3⟩:=id R2
  have eqs:qs'=qs:=by
   rw [hq'] at k1
   have:=HO.lst.inj (Option.some.inj k1)
   exact map_ref_inj this
  subst eqs
  walk_at "rd"
  refine zct (fun h0=>?_) (fun h0=>?_)
  ·cases n with
   | zero =>
     have:cur=[]:=by simpa [zgZ] using hlev
     rw [this] at k2
     rw [k2] at h0
     exact absurd h0 (by simp)
   | succ n =>
     unfold zgZ at hlev
     simp only [Bool.and_eq_true,decide_eq_true_eq,List.all_eq_true] at hlev
     obtain ⟨⟨g1,g2⟩,g3⟩:=hlev
     refine ⟨fun σ H'=>∃ pc told cur,σ=[some (.int m),some (.ref p1),some (.ref pc)]∧Told H p1 told H'∧Told H pc cur H'∧pc≠p1∧(∃ qs:List Addr,H' pc=some (.lst (qs.map V.ref))∧∀ i,i < cur.length→qs.getD i 0≠p1)∧told++allFrom m n cur=zb6 m∧zgZ m n cur=true,
      fun σ' H' z=>⟨n,by omega,z⟩,?_⟩
     have htot:told.length+cur.length≤1024:=by
      have e1:=congrArg List.length hall
      rw [c2,List.length_append] at e1
      unfold allFrom at e1
      rw [List.length_append] at e1
      have e2:2 ^ m.toNat≤2 ^ 10:=Nat.pow_le_pow_right (by decide) (by omega)
      omega
     walk_at "rd"
     refine zg0 h1 k1 (by rw [List.length_map,List.length_map];omega) fun H4 b4 e4=>?_
     have T4:Told H p1 (told++cur) H4:=Told.ext sb hp h1 h2 h3 k2 (fun i hi=>⟨(k3 i hi).1,(k3 i hi).2.1,hqn i hi⟩) b4 e4
     have C4:Told H pc cur H4:=by
      refine ⟨T4.same,hpc,qs',by rw [b4 _ hne];exact k1,k2,fun i hi=>?_⟩
      obtain ⟨a1,a2,a3⟩:=k3 i hi
      exact ⟨by rw [b4 _ (hqn i hi)];exact a1,a2,a3⟩
     walk_at "rd"
     refine zdH C4.ll m0 m1 g1 (fun i hi=>?_) fun p5 H5 R5=>?_
     ·have:=g2 (cur.getD i []) (by rw [List.getD_eq_getElem?_getD,List.getElem?_eq_getElem hi];exact List.getElem_mem hi)
      exact ⟨this.1.1,this.1.2,this.2⟩
     walk_at "rd"
     obtain ⟨s5,n5,qs5,w1,w2,wnd,w3⟩:=R5
     obtain ⟨_,_,ps4,v1,_,_⟩:=id T4
     refine ⟨p5,told++cur,zaU m cur,rfl,T4.mono s5,⟨T4.same.trans s5,T4.same.free n5,qs5,w1,w2,fun i hi=>?_⟩,(zag v1 n5).symm,⟨qs5,w1,fun i hi=>?_⟩,?_,g3⟩
     ·obtain ⟨a1,a2,a3⟩:=w3 i hi
      exact ⟨a1,T4.same.free a2,a3⟩
     ·exact (zag v1 (w3 i hi).2.1).symm
     ·rw [← hall,List.append_assoc]
      rfl
  ·have hc:cur=[]:=by
    cases cur with
    | nil=>rfl
    | cons x r=>rw [List.length_cons] at k2;exact absurd (show (0:Int) < qs'.length by omega) h0
   rw [hc,zeE,List.append_nil] at hall
   rw [hall] at R1
   walk_at "rd"
   exact q p1 H' R1
 exact TERM
theorem zjF {H:Hp} {m:Int} {Q:VK} {E:XK} (m0:0≤m) (m1:m≤10) (q:∀ (p:Addr) (H2:Hp),Told H p (zb6 m) H2→Q (.ref p) H2):zfb K [.int m] H Q E:=⟨rfl,m,rfl,m0,m1,q⟩
def zfc (K:PySem.W.Frag):Sp:=fun vs H Q _=>vs.length=4∧∃ (a b c:Addr) (j:Int) (hs:List Int) (rs:List (List Int)) (xs:List Int),vs=[.ref a,.ref b,.ref c,.int j]∧SqL K H a (hs.map V.int)∧LL K H b rs∧SqL K H c (xs.map V.int)∧InB hs rs∧SetM hs.length xs∧1≤j∧j≤rs.length∧∀ H',Same H H'→Q (.int (zbq hs (rs.getD (j-1).toNat []) xs)) H'
theorem zie (T:Txt K mg t):FnOk P w K mg base CX0 2 t.f_room_of t.d_room_of ["papers","readers","chosen","reader"] (zfc K):=by
 have G_may_read:=zev (P:=P) (w:=w) (base:=base) T
 refine T.F_room_of.ok sc_room_of (fun vs H Q E h=>?_) (fun cdv A outer s H vs Q E hr h=>?_)
 ·exact (by obtain ⟨h,_⟩:=h;exact h)
 have TERM:∃ t',PSs (cxOf CX0 P w K mg base ["papers","readers","chosen","reader","limit","may_be_read"] "room_of" (zab s_room_of) t.f_room_of cdv A outer s H E).nox (zae s_room_of) t'∧t' ⟨fun _ H'=>Q .non H',Q,fun _ _=>False,fun _ _=>False⟩ (start ["papers","readers","chosen","reader","limit","may_be_read"] vs) H:=by
  refine ⟨_,(zac (zaF (i:=4) sc_room_of.nd rfl (by first | exact Or.inl rfl | exact Or.inr rfl) (zaH (zai (K:=K) rfl) (zaH (zai (K:=K) rfl) (pv 1) (zaw (op_sub) (pv 3) zaf) (fun _ _=>rfl)) zaf (fun _ _=>rfl)))
   (zac (zdw (i:=5) sc_room_of.nd rfl (Or.inl rfl) (by rfl) (zap (sc:=zab s_room_of) (XN:=["papers","readers","chosen","reader","limit","may_be_read"]) (N:=["paper","papers","readers","reader"]) (own:=1) (js:=[0,1,3]) rfl rfl (by decide +kernel)) rfl (zaE (K:=K) rfl (pv 2)) (fun _ _ _ _ _=>(zaq (i:=0) (show List.Nodup [(Str.ofString "paper"),(Str.ofString "papers"),(Str.ofString "readers"),(Str.ofString "reader")] by decide +kernel) rfl (by first | exact Or.inl rfl | exact Or.inr rfl))) (fun _ _ _ _ _=>(zcy (zas (K:=K) rfl (zao (G_may_read) (hr.mono (by decide)) (by rfl) T.m_may_read T.F_may_read.kp T.b_may_read .nil zav (zaa (pv 1) (zaa (pv 2) (zaa (pv 0) (zaa (pv 3) pa_nil))))) (fun _=>rfl)))) (fun _ _ _ _ _=>(pv 0)))
   (zad (zaj (zah (zdy rfl) (by rfl) T.z_min (by rfl) (zaa (pv 4) (zaa (zah (zak (K:=K) rfl) (by rfl) T.z_len (by rfl) (zaa (pv 5) pa_nil)) pa_nil))))))),?_⟩
  obtain ⟨_,a,b,c,j,hs,rs,xs,rfl,ha,L,hc,B,X,j1,j2,q⟩:=h
  obtain ⟨ps,hb,hl,hr⟩:=id L
  have hj:(j-1).toNat < rs.length:=by omega
  have hr':=hr _ hj
  have h2':=B.r2 _ hj
  have hx:=X.few (by omega)
  have B1:=B.lp
  have hlim:=B.rl _ hj
  walk_at "rd"
  refine zaO hc ?_
  generalize er:rs.getD (j-1).toNat []=r at *
  refine zfZ hc (by rw [List.length_map];omega) (neV hs (r.getD 0 0)) (fun i H' Q' hi s q'=>?_) fun p H2 f s e=>?_
  ·rw [List.length_map] at hi
   have ex:(xs.map V.int).getD i .non=.int (xs.getD i 0):=by
    rw [List.getD_eq_getElem?_getD,List.getElem?_map,List.getElem?_eq_getElem hi,List.getD_eq_getElem?_getD,List.getElem?_eq_getElem hi];rfl
   rw [ex] at q' ⊢
   have hm:=X.rng (xs.getD i 0) (by rw [List.getD_eq_getElem?_getD,List.getElem?_eq_getElem hi];exact List.getElem_mem hi)
   walk_at "rd"
   refine ze8 (s.seq ha) (L.same s) (by omega) (by omega) j1 j2 B.r2 ?_
   walk_at "rd"
   rw [er]
   have es:neV hs (r.getD 0 0) (V.int (xs.getD i 0)) = !decide (r.getD 0 0=hs.getD (xs.getD i 0-1).toNat 0):=by
    show (!decide _)=(!decide _)
    congr 1
    exact decide_eq_decide.mpr ⟨Eq.symm,Eq.symm⟩
   rw [es] at q'
   exact q'
  walk_at "rd"
  have et:zbq hs r xs=min (r.getD 1 0) (((xs.map V.int).filter (neV hs (r.getD 0 0))).length:Int):=by
   match r,h2' with
   | [h,l],_=>exact zf1 hs h l xs hlim.1
  have em:(if (((xs.map V.int).filter (neV hs (r.getD 0 0))).length:Int) < r.getD 1 0 then (((xs.map V.int).filter (neV hs (r.getD 0 0))).length:Int) else r.getD 1 0)=zbq hs r xs:=by
   rw [et]
   split <;> omega
  have em':(if (((xs.map V.int).filter (neV hs (r.getD 0 0))).length:Int) < r.getD (Int.toNat 1) 0 then (((xs.map V.int).filter (neV hs (r.getD 0 0))).length:Int) else r.getD (Int.toNat 1) 0)=zbq hs r xs:=em
  rw [em']
  exact q _ s
 exact TERM
theorem zjG {H:Hp} {a b c:Addr} {j:Int} {hs:List Int} {rs:List (List Int)} {xs:List Int} {Q:VK} {E:XK} (h1:SqL K H a (hs.map V.int)) (h2:LL K H b rs) (h3:SqL K H c (xs.map V.int)) (h4:InB hs rs) (h5:SetM hs.length xs) (j1:1≤j) (j2:j≤rs.length)
  (q:∀ H',Same H H'→Q (.int (zbq hs (rs.getD (j-1).toNat []) xs)) H'):zfc K [.ref a,.ref b,.ref c,.int j] H Q E:=⟨rfl,a,b,c,j,hs,rs,xs,rfl,h1,h2,h3,h4,h5,j1,j2,q⟩
theorem zgg (hs:List Int) (rs:List (List Int)) (xs:List Int):((List.range rs.length).map fun i=>zbq hs (rs.getD i []) xs).sum=zcQ hs rs xs:=by
 have key:∀ n,n≤rs.length→((List.range n).map fun i=>zbq hs (rs.getD i []) xs).sum=zcQ hs (rs.take n) xs:=by
  intro n
  induction n with
  | zero=>intro _;rfl
  | succ n ih =>
    intro hn
    rw [List.range_succ,List.map_append,List.sum_append,ih (by omega),zeh _ _ _ _ (by omega)]
    simp
 rw [key _ (Nat.le_refl _),List.take_length]
theorem zif {hs r xs:List Int} (h2:r.length=2) (h0:0≤r.getD 1 0):0≤zbq hs r xs∧zbq hs r xs≤r.getD 1 0:=by
 match r,h2 with
 | [h,l],_ =>
   rw [zf1 hs h l xs h0]
   have h0':0≤l:=h0
   show _∧_≤l
   omega
def zjH (K:PySem.W.Frag):Sp:=fun vs H Q _=>vs.length=3∧∃ (a b c:Addr) (hs:List Int) (rs:List (List Int)) (xs:List Int),vs=[.ref a,.ref b,.ref c]∧SqL K H a (hs.map V.int)∧LL K H b rs∧SqL K H c (xs.map V.int)∧InB hs rs∧SetM hs.length xs∧∀ H',Same H H'→Q (.int (zcQ hs rs xs)) H'
theorem zlS (T:Txt K mg t):FnOk P w K mg base CX0 3 t.f_room t.d_room ["papers","readers","chosen"] (zjH K):=by
 have G_room_of:=zie (P:=P) (w:=w) (base:=base) T
 refine T.F_room.ok sc_room (fun vs H Q E h=>?_) (fun cdv A outer s H vs Q E hr h=>?_)
 ·exact (by obtain ⟨h,_⟩:=h;exact h)
 have TERM:∃ t',PSs (cxOf CX0 P w K mg base ["papers","readers","chosen"] "room" (zab s_room) t.f_room cdv A outer s H E).nox (zae s_room) t'∧t' ⟨fun _ H'=>Q .non H',Q,fun _ _=>False,fun _ _=>False⟩ (start ["papers","readers","chosen"] vs) H:=by
  refine ⟨_,(zad (zaj (zah (zf2 (K:=K) rfl rfl) (by rfl) T.z_sum (by rfl) (zaa (zaW (zap (sc:=zab s_room) (XN:=["papers","readers","chosen"]) (N:=["reader","papers","readers","chosen"]) (own:=1) (js:=[0,1,2]) rfl rfl (by decide +kernel)) rfl (zbl (by rfl) T.z_range (zaa zaf (zaa (zaw (op_addG) (zah (zak (K:=K) rfl) (by rfl) T.z_len (by rfl) (zaa (pv 1) pa_nil)) zaf) pa_nil))) (fun _ _ _ _ _=>(zaq (i:=0) (show List.Nodup [(Str.ofString "reader"),(Str.ofString "papers"),(Str.ofString "readers"),(Str.ofString "chosen")] by decide +kernel) rfl (by first | exact Or.inl rfl | exact Or.inr rfl))) (fun _ _ _ _ _=>za9) (fun _ _ _ _ _=>(zao (G_room_of) (hr.mono (by decide)) (by rfl) T.m_room_of T.F_room_of.kp T.b_room_of .nil zav (zaa (pv 1) (zaa (pv 2) (zaa (pv 3) (zaa (pv 0) pa_nil))))))) pa_nil)))),?_⟩
  obtain ⟨_,a,b,c,hs,rs,xs,rfl,ha,L,hc,B,X,q⟩:=h
  obtain ⟨ps,hb,hl,hr⟩:=id L
  have B2:=B.lr
  walk_at "rd"
  refine zde ⟨by omega,by omega,by omega,by omega⟩ ?_
  have en:((ps.length:Int)+1-1).toNat=rs.length:=by omega
  rw [en]
  refine zbu (zem (zbK.one (zbG _ _ _)) (by omega) (fun _=>true) (fun i=>.int (zbq hs (rs.getD i []) xs)) (fun i H' Q' _ _ q'=>q' _ (Same.refl _)) (fun i H' Q' hi s _ q'=>?_) fun p H2 f s e=>?_)
  ·show (_:TE) (some (.int (1+(i:Int)))::_) _ _
   walk_at "rd"
   refine zjG (s.seq ha) (L.same s) (s.seq hc) B X (by omega) (by omega) fun H3 s3=>?_
   have e:(1+(i:Int)-1).toNat=i:=by omega
   rw [e]
   exact q' _ s3
  have ef:((List.range rs.length).filter fun _=>true).map (fun i=>V.int (zbq hs (rs.getD i []) xs))=((List.range rs.length).map fun i=>zbq hs (rs.getD i []) xs).map V.int:=by
   rw [List.filter_eq_self.mpr (fun _ _=>rfl),List.map_map];rfl
  rw [ef] at e
  refine zhn (SqL.of e) (fun x hx=>?_) (by rw [List.length_map,List.length_range];omega) ?_
  ·obtain ⟨i,hi,rfl⟩:=List.mem_map.mp hx
   have hi':=List.mem_range.mp hi
   have:=zif (hs:=hs) (xs:=xs) (B.r2 i hi') (B.rl i hi').1
   have:=B.rl i hi'
   omega
  rw [zgg]
  exact q _ s
 exact TERM
theorem zm4 {H:Hp} {a b c:Addr} {hs:List Int} {rs:List (List Int)} {xs:List Int} {Q:VK} {E:XK} (h1:SqL K H a (hs.map V.int)) (h2:LL K H b rs) (h3:SqL K H c (xs.map V.int)) (h4:InB hs rs) (h5:SetM hs.length xs)
  (q:∀ H',Same H H'→Q (.int (zcQ hs rs xs)) H'):zjH K [.ref a,.ref b,.ref c] H Q E:=⟨rfl,a,b,c,hs,rs,xs,rfl,h1,h2,h3,h4,h5,q⟩
def zdr (K:PySem.W.Frag):Sp:=fun vs H Q _=>vs.length=3∧∃ (a b c:Addr) (hs:List Int) (rs:List (List Int)) (xs:List Int),vs=[.ref a,.ref b,.ref c]∧SqL K H a (hs.map V.int)∧LL K H b rs∧SqL K H c (xs.map V.int)∧InB hs rs∧SetM hs.length xs∧∀ H',Same H H'→Q (.bl (agB hs rs xs)) H'
theorem zfC (T:Txt K mg t):FnOk P w K mg base CX0 4 t.f_is_against t.d_is_against ["papers","readers","chosen"] (zdr K):=by
 have G_room:=zlS (P:=P) (w:=w) (base:=base) T
 refine T.F_is_against.ok sc_is_against (fun vs H Q E h=>?_) (fun cdv A outer s H vs Q E hr h=>?_)
 ·exact (by obtain ⟨h,_⟩:=h;exact h)
 have TERM:∃ t',PSs (cxOf CX0 P w K mg base ["papers","readers","chosen"] "is_against" (zab s_is_against) t.f_is_against cdv A outer s H E).nox (zae s_is_against) t'∧t' ⟨fun _ H'=>Q .non H',Q,fun _ _=>False,fun _ _=>False⟩ (start ["papers","readers","chosen"] vs) H:=by
  refine ⟨_,(zad (zaj (zcx (op_lt) (zao (G_room) (hr.mono (by decide)) (by rfl) T.m_room T.F_room.kp T.b_room .nil zav (zaa (pv 0) (zaa (pv 1) (zaa (pv 2) pa_nil)))) (zaw (op_mulB) zaf (zah (zak (K:=K) rfl) (by rfl) T.z_len (by rfl) (zaa (pv 2) pa_nil))) (zaJ _)))),?_⟩
  obtain ⟨_,a,b,c,hs,rs,xs,rfl,ha,L,hc,B,X,q⟩:=h
  have B1:=B.lp
  have hx:=X.few (by omega)
  walk_at "rd"
  refine zm4 ha L hc B X fun H1 s1=>?_
  have hc1:=s1.seq hc
  walk_at "rd"
  exact q _ s1
 exact TERM
theorem zgh {H:Hp} {a b c:Addr} {hs:List Int} {rs:List (List Int)} {xs:List Int} {Q:VK} {E:XK} (h1:SqL K H a (hs.map V.int)) (h2:LL K H b rs) (h3:SqL K H c (xs.map V.int)) (h4:InB hs rs) (h5:SetM hs.length xs)
  (q:∀ H',Same H H'→Q (.bl (agB hs rs xs)) H'):zdr K [.ref a,.ref b,.ref c] H Q E:=⟨rfl,a,b,c,hs,rs,xs,rfl,h1,h2,h3,h4,h5,q⟩
theorem zm5 {x:Int}:∀ (ns:List Int) (o:Option Int),(∀ y∈ns,y < x)→(∀ y,o=some y→y < x)→∀ y,mxOf o ns=some y→y < x
 | [],o,_,ho,y,h=>ho y h
 | n::ns,o,hn,ho,y,h=>by
   have h':mxOf (zdL o n) ns=some y:=h
   refine zm5 ns (zdL o n) (fun z hz=>hn z (List.mem_cons_of_mem _ hz)) (fun z hz=>?_) y h'
   have h0:=hn n List.mem_cons_self
   cases o with
   | none=>unfold zdL at hz;simp at hz;omega
   | some w =>
     have:=ho w rfl
     unfold zdL at hz
     simp only at hz
     split at hz <;> · have:=Option.some.inj hz;omega
theorem zkr {x:Int} {ns:List Int} (h:∀ y∈ns,y < x) (h0:0 < x):zbz ns < x:=by
 unfold zbz
 cases e:mxOf none ns with
 | none=>exact h0
 | some y=>exact zm5 ns none h (fun y z=>by cases z) y e
def levB (m:Int):Nat→List (List Int)
 | 0=>[[]]
 | k+1=>zaU m (levB m k)
theorem zjI {m:Int}:∀ (k:Nat) {xs:List Int},xs.length=k→xs.Pairwise (· < ·)→(∀ x∈xs,1≤x∧x≤m)→xs∈levB m k
 | 0,xs,h,_,_=>by
   have:xs=[]:=List.eq_nil_of_length_eq_zero h
   subst this
   exact List.mem_singleton.mpr rfl
 | k+1,xs,h,hp,hb=>by
   have hne:xs≠[]:=by rintro rfl;simp at h
   have ex:=(List.dropLast_concat_getLast hne).symm
   generalize xs.dropLast=ys at ex
   generalize xs.getLast hne=x at ex
   subst ex
   obtain ⟨p1,_,p3⟩:=List.pairwise_append.mp hp
   have hx:=hb x (by simp)
   have hy:ys∈levB m k:=zjI k (by simpa using h) p1 fun y hy=>hb y (List.mem_append_left _ hy)
   show ys++[x]∈zaU m (levB m k)
   unfold zaU
   refine List.mem_flatMap.mpr ⟨ys,hy,?_⟩
   unfold extB
   have hg:=zkr (ns:=ys) (x:=x) (fun y hy=>p3 y hy x (by simp)) (by omega)
   refine List.mem_map.mpr ⟨(x-(zbz ys+1)).toNat,List.mem_range.mpr (by omega),?_⟩
   have:zbz ys+1+((x-(zbz ys+1)).toNat:Int)=x:=by omega
   rw [this]
theorem zeF {m:Int}:∀ (n k j:Nat) {xs:List Int},xs∈levB m (j+k)→k < n→xs∈allFrom m n (levB m j)
 | 0,k,j,xs,_,hk=>by omega
 | n+1,0,j,xs,h,_=>List.mem_append_left _ h
 | n+1,k+1,j,xs,h,hk=>by
   refine List.mem_append_right _ ?_
   have:zaU m (levB m j)=levB m (j+1):=rfl
   rw [this]
   refine zeF n k (j+1) ?_ (by omega)
   have e:j+1+k=j+(k+1):=by omega
   rw [e];exact h
theorem zgi {m:Int} {xs:List Int} (m0:0≤m) (m1:m≤10) (h:SetM m xs):xs∈zb6 m:=by
 have hl:=h.few m0
 have:=zjI (m:=m) xs.length rfl h.up h.rng
 refine zeF (m:=m) 11 xs.length 0 ?_ (by omega)
 rw [Nat.zero_add];exact this
theorem ahead_pw:∀ {L:List (List Int)},aheadAll L=true→L.Pairwise fun a b=>zcP a b=true
 | [],_=>List.Pairwise.nil
 | [a],_=>by simp
 | a::b::r,h=>by
   unfold aheadAll at h
   simp only [Bool.and_eq_true] at h
   have ih:=ahead_pw h.2
   refine List.pairwise_cons.mpr ⟨fun c hc=>?_,ih⟩
   rcases List.mem_cons.mp hc with rfl | hc
   ·exact h.1
   ·exact zdM h.1 ((List.pairwise_cons.mp ih).1 c hc)
theorem zks {hs:List Int} {rs:List (List Int)} {i:Nat} (hl:hs.length≤10) (hM:∀ xs∈zb6 hs.length,SetM hs.length xs) (hA:aheadAll (zb6 hs.length)=true) (hi:i < (zb6 hs.length).length)
  (h1:agB hs rs ((zb6 hs.length).getD i [])=true) (h0:∀ j,j < i→agB hs rs ((zb6 hs.length).getD j [])=false):zbB hs rs (some ((zb6 hs.length).getD i [])):=by
 refine ⟨hM _ (getD_mem hi),h1,fun ys hy hag=>?_⟩
 obtain ⟨j,hj,rfl⟩:=mem_getD (d:=[]) (zgi (by omega) (by omega) hy)
 by_cases hlt:j < i
 ·rw [h0 j hlt] at hag;cases hag
 ·by_cases e:j=i
  ·subst e;exact zek _
  ·have hp:=ahead_pw hA
   rw [Bool.eq_false_iff]
   intro z
   have h2:zcP ((zb6 hs.length).getD i []) ((zb6 hs.length).getD j [])=true:=by
    rw [List.getD_eq_getElem?_getD,List.getElem?_eq_getElem hi,List.getD_eq_getElem?_getD,List.getElem?_eq_getElem hj]
    exact List.pairwise_iff_getElem.mp hp i j hi hj (by omega)
   have:=zdM h2 z
   rw [zek] at this
   cases this
theorem none_of {hs:List Int} {rs:List (List Int)} (hl:hs.length≤10) (h0:∀ j,j < (zb6 hs.length).length→agB hs rs ((zb6 hs.length).getD j [])=false):zbB hs rs none:=by
 intro ys hy
 obtain ⟨j,hj,rfl⟩:=mem_getD (d:=[]) (zgi (by omega) (by omega) hy)
 exact h0 j hj
def zcq (K:PySem.W.Frag):Sp:=fun vs H Q _=>vs.length=2∧∃ (a b:Addr) (hs:List Int) (rs:List (List Int)),vs=[.ref a,.ref b]∧SqL K H a (hs.map V.int)∧LL K H b rs∧InB hs rs∧(zbB hs rs none→∀ H',Same H H'→Q .non H')∧∀ xs,zbB hs rs (some xs)→∀ p H',H p=none→Same H H'→H' p=some (.lst (xs.map V.int))→Q (.ref p) H'
theorem zd0 (T:Txt K mg t):FnOk P w K mg base CX0 5 t.f_first_against t.d_first_against ["papers","readers"] (zcq K):=by
 have G_sets_of:=zid (P:=P) (w:=w) (base:=base) T
 have G_is_against:=zfC (P:=P) (w:=w) (base:=base) T
 refine T.F_first_against.ok sc_first_against (fun vs H Q E h=>?_) (fun cdv A outer s H vs Q E hr h=>?_)
 ·exact (by obtain ⟨h,_⟩:=h;exact h)
 have TERM:∃ t',PSs (cxOf CX0 P w K mg base ["papers","readers","chosen"] "first_against" (zab s_first_against) t.f_first_against cdv A outer s H E).nox (zae s_first_against) t'∧t' ⟨fun _ H'=>Q .non H',Q,fun _ _=>False,fun _ _=>False⟩ (start ["papers","readers","chosen"] vs) H:=by
  refine ⟨_,(zac (za2 PassesOwn.never rfl (zaE (K:=K) rfl (zao (G_sets_of) (hr.mono (by decide)) (by rfl) T.m_sets_of T.F_sets_of.kp T.b_sets_of .nil zav (zaa (zah (zak (K:=K) rfl) (by rfl) T.z_len (by rfl) (zaa (pv 0) pa_nil)) pa_nil))) (zaq (i:=2) sc_first_against.nd rfl (by first | exact Or.inl rfl | exact Or.inr rfl))
   (zad (zaV (zas (K:=K) rfl (zao (G_is_against) (hr.mono (by decide)) (by rfl) T.m_is_against T.F_is_against.kp T.b_is_against .nil zav (zaa (pv 0) (zaa (pv 1) (zaa (pv 2) pa_nil)))) (fun _=>rfl))
   (zad (zaj (pv 2))) pss_nil)))
   (zad (zaj zcv))),?_⟩
  obtain ⟨_,a,b,hs,rs,rfl,ha,L,B,q0,q1⟩:=h
  have B1:=B.lp
  walk_at "rd"
  refine zjF (by omega) (by omega) fun p H1 T1=>?_
  obtain ⟨_,_,c3,hA⟩:=zlb (m:=(hs.length:Int)) (by omega) (by omega)
  have hM:∀ xs∈zb6 hs.length,SetM hs.length xs:=fun xs hx=>⟨(zdA (c3 xs hx)).1,fun x h=>by have:=(zdA (c3 xs hx)).2 x h;omega⟩
  obtain ⟨s1,f1,ps,e1,hl1,hr1⟩:=id T1
  generalize eS:zb6 (hs.length:Int)=S at *
  walk_at "rd"
  refine zaO (SqL.of e1) ?_
  refine zb3 (xs:=ps.map V.ref) (fun i σ H'=>Same H1 H'∧(∃ v,σ=[some (.ref a),some (.ref b),v])∧∀ j,j < i→agB hs rs (S.getD j [])=false) ⟨Same.refl _,⟨none,rfl⟩,fun j hj=>absurd hj (by omega)⟩ ?_ ?_ ?_
  ·rintro i σ H' _ ⟨s,_,_⟩
   exact SqL.of (s _ _ e1)
  ·rintro i x σ H' hx ⟨s,⟨v,rfl⟩,h0⟩
   obtain ⟨hi,rfl⟩:=zgC hx
   obtain ⟨g1,g2,g3⟩:=hr1 i (by omega)
   have sH:=s1.trans s
   have hm:SetM hs.length (S.getD i []):=hM _ (getD_mem (by omega))
   walk_at "rd"
   refine zgh (sH.seq ha) (L.same sH) (SqL.of (s _ _ g1)) B hm fun H3 s3=>?_
   walk_at "rd"
   cases eg:agB hs rs (S.getD i []) with
   | true =>
     refine iteT ?_
     walk_at "rd"
     refine q1 (S.getD i []) ?_ _ _ g2 (sH.trans s3) (s3 _ _ (s _ _ g1))
     subst eS
     exact zks B1 hM hA (by omega) eg h0
   | false =>
     refine iteF ?_
     walk_at "rd"
     refine ⟨s.trans s3,⟨_,rfl⟩,fun j hj=>?_⟩
     by_cases e:j=i
     ·subst e;exact eg
     ·exact h0 j (by omega)
  ·rintro σ H' ⟨s,⟨v,rfl⟩,h0⟩
   walk_at "rd"
   refine q0 ?_ _ (s1.trans s)
   subst eS
   exact none_of B1 fun j hj=>h0 j (by rw [List.length_map];omega)
 exact TERM
theorem zeG {H:Hp} {a b:Addr} {hs:List Int} {rs:List (List Int)} {Q:VK} {E:XK} (h1:SqL K H a (hs.map V.int)) (h2:LL K H b rs) (h4:InB hs rs) (q0:zbB hs rs none→∀ H',Same H H'→Q .non H') (q1:∀ xs,zbB hs rs (some xs)→∀ p H',H p=none→Same H H'→H' p=some (.lst (xs.map V.int))→Q (.ref p) H'):zcq K [.ref a,.ref b] H Q E:=⟨rfl,a,b,hs,rs,rfl,h1,h2,h4,q0,q1⟩
def zbQ (K:PySem.W.Frag) (C:Addr):Sp:=fun vs H Q _=>vs.length=1∧∃ (x:Addr) (F:Addr→Prop) (st:ExS),vs=[.ref x]∧ExAt C H x F st∧InB st.hs st.rs∧((st.dl≠none∨zbB st.hs st.rs none→∀ H',Same H H'→Q .non H')∧∀ xs,st.dl=none→zbB st.hs st.rs (some xs)→∀ p H',H p=none→Same H H'→H' p=some (.lst (xs.map V.int))→Q (.ref p) H')
theorem zeH (T:Txt K mg t):FnOk P w K mg base CX0 6 t.f_Exam_against t.d_Exam_against ["self"] (zbQ K t.C_Exam):=by
 have G_first_against:=zd0 (P:=P) (w:=w) (base:=base) T
 refine T.F_Exam_against.ok sc_Exam_against (fun vs H Q E h=>?_) (fun cdv A outer s H vs Q E hr h=>?_)
 ·exact (by obtain ⟨h,_⟩:=h;exact h)
 have TERM:∃ t',PSs (cxOf CX0 P w K mg base ["self"] "Exam.against" (zab s_Exam_against) t.f_Exam_against cdv A outer s H E).nox (zae s_Exam_against) t'∧t' ⟨fun _ H'=>Q .non H',Q,fun _ _=>False,fun _ _=>False⟩ (start ["self"] vs) H:=by
  refine ⟨_,(zac (zaV (zas (K:=K) rfl (zaz (K:=K) rfl (pv 0)) (fun _=>rfl))
   (zad (zaj zcv)) pss_nil)
   (zad (zaj (zao (G_first_against) (hr.mono (by decide)) (by rfl) T.m_first_against T.F_first_against.kp T.b_first_against .nil zav (zaa (zaz (K:=K) rfl (pv 0)) (zaa (zaz (K:=K) rfl (pv 0)) pa_nil)))))),?_⟩
  obtain ⟨_,x,F,st,rfl,E0,BB,q⟩:=h
  have B1:=BB.lp
  have B2:=BB.lr
  obtain ⟨e,kvs,rfl,hF,I⟩:=E0
  have hcl:=T.cl_Exam
  have nA:=T.n_Exam_paper_houses
  have nB:=T.n_Exam_reader_rows
  have nS:=T.n_Exam_widest_step
  have nD:=T.n_Exam_is_dealt
  have nC:=T.n_Exam_named_readers
  have nE:=T.n_Exam_entered_points
  have hob:=I.ob
  have fA:=@exFs_a (.ref e.a) (.ref e.b) (.int st.step) (.bl st.dl.isSome) (.ref e.c) (.ref e.d)
  have fB:=@exFs_b (.ref e.a) (.ref e.b) (.int st.step) (.bl st.dl.isSome) (.ref e.c) (.ref e.d)
  have fS:=@exFs_s (.ref e.a) (.ref e.b) (.int st.step) (.bl st.dl.isSome) (.ref e.c) (.ref e.d)
  have fD:=@exFs_d (.ref e.a) (.ref e.b) (.int st.step) (.bl st.dl.isSome) (.ref e.c) (.ref e.d)
  have fC:=@exFs_c (.ref e.a) (.ref e.b) (.int st.step) (.bl st.dl.isSome) (.ref e.c) (.ref e.d)
  have fE:=@exFs_e (.ref e.a) (.ref e.b) (.int st.step) (.bl st.dl.isSome) (.ref e.c) (.ref e.d)
  have hha:=I.ha
  have hhb:=I.hb
  have hhc:=I.hc
  have hhd:=I.hd
  obtain ⟨q0,q1⟩:=q
  have L:LL K H e.b st.rs:=⟨e.ps,SqL.of hhb,I.lp,I.rp⟩
  walk_at "rd"
  cases hdl:st.dl with
  | some d =>
    refine iteT ?_
    walk_at "rd"
    exact q0 (.inl (by rw [hdl];simp)) H (Same.refl H)
  | none =>
    refine iteF ?_
    rw [hdl] at hob
    have fA:=@exFs_a (.ref e.a) (.ref e.b) (.int st.step) (.bl (none:Option (List (List Int)×List (List Int))).isSome) (.ref e.c) (.ref e.d)
    have fB:=@exFs_b (.ref e.a) (.ref e.b) (.int st.step) (.bl (none:Option (List (List Int)×List (List Int))).isSome) (.ref e.c) (.ref e.d)
    walk_at "rd"
    refine zeG (SqL.of hha) L BB (fun F H8 s8=>?_) (fun xs F pf H8 ff s8 ef=>?_)
    ·exact q0 (.inr F) H8 s8
    ·exact q1 xs hdl F pf H8 ff s8 ef
 exact TERM
theorem zeW {K:PySem.W.Frag} {C x:Addr} {H:Hp} {F:Addr→Prop} {st:ExS} {Q:VK} {E:XK} (h:ExAt C H x F st) (B:InB st.hs st.rs) (q:((st.dl≠none∨zbB st.hs st.rs none→∀ H',Same H H'→Q .non H')∧∀ xs,st.dl=none→zbB st.hs st.rs (some xs)→∀ p H',H p=none→Same H H'→H' p=some (.lst (xs.map V.int))→Q (.ref p) H')):zbQ K C [.ref x] H Q E:=⟨rfl,x,F,st,rfl,h,B,q⟩
theorem zeX {K:PySem.W.Frag} {C x:Addr} {H:Hp} {F:Addr→Prop} {st:ExS} {Q:VK} {E:XK} {σ:L2.St} (h:ExAt C H x F st) (B:InB st.hs st.rs) (q:((st.dl≠none∨zbB st.hs st.rs none→∀ H',Same H H'→Q .non H')∧∀ xs,st.dl=none→zbB st.hs st.rs (some xs)→∀ p H',H p=none→Same H H'→H' p=some (.lst (xs.map V.int))→Q (.ref p) H')):za3 C "against" (zbQ K C) E tNil σ (.ref x) H Q:=by
 obtain ⟨dx,fs,e,l⟩:=h.ob
 exact zaG e (l _ (by decide +kernel)) (zcN (zeW h B q))
def zcj (K:PySem.W.Frag) (C:Addr):Sp:=fun vs H Q _=>vs.length=1∧∃ (x:Addr) (F:Addr→Prop) (st:ExS),vs=[.ref x]∧ExAt C H x F st∧InB st.hs st.rs∧(∀ H',Same H H'→Q (.bl st.dl.isSome) H')
theorem zfD (T:Txt K mg t):FnOk P w K mg base CX0 1 t.f_Exam_dealt t.d_Exam_dealt ["self"] (zcj K t.C_Exam):=by
 refine T.F_Exam_dealt.ok sc_Exam_dealt (fun vs H Q E h=>?_) (fun cdv A outer s H vs Q E hr h=>?_)
 ·exact (by obtain ⟨h,_⟩:=h;exact h)
 have TERM:∃ t',PSs (cxOf CX0 P w K mg base ["self"] "Exam.dealt" (zab s_Exam_dealt) t.f_Exam_dealt cdv A outer s H E).nox (zae s_Exam_dealt) t'∧t' ⟨fun _ H'=>Q .non H',Q,fun _ _=>False,fun _ _=>False⟩ (start ["self"] vs) H:=by
  refine ⟨_,(zad (zaj (zaz (K:=K) rfl (pv 0)))),?_⟩
  obtain ⟨_,x,F,st,rfl,E0,BB,q⟩:=h
  have B1:=BB.lp
  have B2:=BB.lr
  obtain ⟨e,kvs,rfl,hF,I⟩:=E0
  have hcl:=T.cl_Exam
  have nA:=T.n_Exam_paper_houses
  have nB:=T.n_Exam_reader_rows
  have nS:=T.n_Exam_widest_step
  have nD:=T.n_Exam_is_dealt
  have nC:=T.n_Exam_named_readers
  have nE:=T.n_Exam_entered_points
  have hob:=I.ob
  have fA:=@exFs_a (.ref e.a) (.ref e.b) (.int st.step) (.bl st.dl.isSome) (.ref e.c) (.ref e.d)
  have fB:=@exFs_b (.ref e.a) (.ref e.b) (.int st.step) (.bl st.dl.isSome) (.ref e.c) (.ref e.d)
  have fS:=@exFs_s (.ref e.a) (.ref e.b) (.int st.step) (.bl st.dl.isSome) (.ref e.c) (.ref e.d)
  have fD:=@exFs_d (.ref e.a) (.ref e.b) (.int st.step) (.bl st.dl.isSome) (.ref e.c) (.ref e.d)
  have fC:=@exFs_c (.ref e.a) (.ref e.b) (.int st.step) (.bl st.dl.isSome) (.ref e.c) (.ref e.d)
  have fE:=@exFs_e (.ref e.a) (.ref e.b) (.int st.step) (.bl st.dl.isSome) (.ref e.c) (.ref e.d)
  have hha:=I.ha
  have hhb:=I.hb
  have hhc:=I.hc
  have hhd:=I.hd
  walk_at "rd"
  exact q H (Same.refl H)
 exact TERM
theorem zgj {K:PySem.W.Frag} {C x:Addr} {H:Hp} {F:Addr→Prop} {st:ExS} {Q:VK} {E:XK} (h:ExAt C H x F st) (B:InB st.hs st.rs) (q:(∀ H',Same H H'→Q (.bl st.dl.isSome) H')):zcj K C [.ref x] H Q E:=⟨rfl,x,F,st,rfl,h,B,q⟩
theorem zgk {K:PySem.W.Frag} {C x:Addr} {H:Hp} {F:Addr→Prop} {st:ExS} {Q:VK} {E:XK} {σ:L2.St} (h:ExAt C H x F st) (B:InB st.hs st.rs) (q:(∀ H',Same H H'→Q (.bl st.dl.isSome) H')):za3 C "dealt" (zcj K C) E tNil σ (.ref x) H Q:=by
 obtain ⟨dx,fs,e,l⟩:=h.ob
 exact zaG e (l _ (by decide +kernel)) (zcN (zgj h B q))
def zcJ (K:PySem.W.Frag) (C:Addr):Sp:=fun vs H Q _=>vs.length=1∧∃ (x:Addr) (F:Addr→Prop) (st:ExS),vs=[.ref x]∧ExAt C H x F st∧InB st.hs st.rs∧(∀ H',Same H H'→Q (.int st.step) H')
theorem zgl (T:Txt K mg t):FnOk P w K mg base CX0 1 t.f_Exam_step t.d_Exam_step ["self"] (zcJ K t.C_Exam):=by
 refine T.F_Exam_step.ok sc_Exam_step (fun vs H Q E h=>?_) (fun cdv A outer s H vs Q E hr h=>?_)
 ·exact (by obtain ⟨h,_⟩:=h;exact h)
 have TERM:∃ t',PSs (cxOf CX0 P w K mg base ["self"] "Exam.step" (zab s_Exam_step) t.f_Exam_step cdv A outer s H E).nox (zae s_Exam_step) t'∧t' ⟨fun _ H'=>Q .non H',Q,fun _ _=>False,fun _ _=>False⟩ (start ["self"] vs) H:=by
  refine ⟨_,(zad (zaj (zaz (K:=K) rfl (pv 0)))),?_⟩
  obtain ⟨_,x,F,st,rfl,E0,BB,q⟩:=h
  have B1:=BB.lp
  have B2:=BB.lr
  obtain ⟨e,kvs,rfl,hF,I⟩:=E0
  have hcl:=T.cl_Exam
  have nA:=T.n_Exam_paper_houses
  have nB:=T.n_Exam_reader_rows
  have nS:=T.n_Exam_widest_step
  have nD:=T.n_Exam_is_dealt
  have nC:=T.n_Exam_named_readers
  have nE:=T.n_Exam_entered_points
  have hob:=I.ob
  have fA:=@exFs_a (.ref e.a) (.ref e.b) (.int st.step) (.bl st.dl.isSome) (.ref e.c) (.ref e.d)
  have fB:=@exFs_b (.ref e.a) (.ref e.b) (.int st.step) (.bl st.dl.isSome) (.ref e.c) (.ref e.d)
  have fS:=@exFs_s (.ref e.a) (.ref e.b) (.int st.step) (.bl st.dl.isSome) (.ref e.c) (.ref e.d)
  have fD:=@exFs_d (.ref e.a) (.ref e.b) (.int st.step) (.bl st.dl.isSome) (.ref e.c) (.ref e.d)
  have fC:=@exFs_c (.ref e.a) (.ref e.b) (.int st.step) (.bl st.dl.isSome) (.ref e.c) (.ref e.d)
  have fE:=@exFs_e (.ref e.a) (.ref e.b) (.int st.step) (.bl st.dl.isSome) (.ref e.c) (.ref e.d)
  have hha:=I.ha
  have hhb:=I.hb
  have hhc:=I.hc
  have hhd:=I.hd
  walk_at "rd"
  exact q H (Same.refl H)
 exact TERM
theorem zg1 {K:PySem.W.Frag} {C x:Addr} {H:Hp} {F:Addr→Prop} {st:ExS} {Q:VK} {E:XK} (h:ExAt C H x F st) (B:InB st.hs st.rs) (q:(∀ H',Same H H'→Q (.int st.step) H')):zcJ K C [.ref x] H Q E:=⟨rfl,x,F,st,rfl,h,B,q⟩
theorem zeI {K:PySem.W.Frag} {C x:Addr} {H:Hp} {F:Addr→Prop} {st:ExS} {Q:VK} {E:XK} {σ:L2.St} (h:ExAt C H x F st) (B:InB st.hs st.rs) (q:(∀ H',Same H H'→Q (.int st.step) H')):za3 C "step" (zcJ K C) E tNil σ (.ref x) H Q:=by
 obtain ⟨dx,fs,e,l⟩:=h.ob
 exact zaG e (l _ (by decide +kernel)) (zcN (zg1 h B q))
def zeJ (K:PySem.W.Frag) (C:Addr):Sp:=fun vs H Q _=>vs.length=5∧∃ (x a b c:Addr) (F:Addr→Prop) (st:ExS),vs=[.ref x,.ref a,.ref b,.int st.step,.ref c]∧ExAt C H x F st∧InB st.hs st.rs∧st.dl.isSome=true∧SqL K H a (st.hs.map V.int)∧LL K H b st.rs∧LL K H c st.nm∧∀ H',Same H H'→Q (.bl true) H'
theorem zg2 (T:Txt K mg t):FnOk P w K mg base CX0 7 t.f_law_kept t.d_law_kept ["_law_exam_here","_law_homes","_law_staff","_law_step_here","_law_names"] (zeJ K t.C_Exam):=by
 have G_law_rows:=zeC (P:=P) (w:=w) (base:=base) T
 have G_Exam_readers:=zeD (P:=P) (w:=w) (base:=base) T
 have G_law_row:=zdF (P:=P) (w:=w) (base:=base) T
 have G_Exam_papers:=zeU (P:=P) (w:=w) (base:=base) T
 have G_Exam_against:=zeH (P:=P) (w:=w) (base:=base) T
 have G_Exam_dealing:=zcH (P:=P) (w:=w) (base:=base) T
 have G_law_truth:=zdO (P:=P) (w:=w) (base:=base) T
 have G_Exam_dealt:=zfD (P:=P) (w:=w) (base:=base) T
 have G_Exam_step:=zgl (P:=P) (w:=w) (base:=base) T
 have G_law_whole:=zcI (P:=P) (w:=w) (base:=base) T
 refine T.F_law_kept.ok sc_law_kept (fun vs H Q E h=>?_) (fun cdv A outer s H vs Q E hr h=>?_)
 ·exact (by obtain ⟨h,_⟩:=h;exact h)
 have TERM:∃ t',PSs (cxOf CX0 P w K mg base ["_law_exam_here","_law_homes","_law_staff","_law_step_here","_law_names"] "_law_kept" (zab s_law_kept) t.f_law_kept cdv A outer s H E).nox (zae s_law_kept) t'∧t' ⟨fun _ H'=>Q .non H',Q,fun _ _=>False,fun _ _=>False⟩ (start ["_law_exam_here","_law_homes","_law_staff","_law_step_here","_law_names"] vs) H:=by
  refine ⟨_,(zac (zaV (zc2 (zba (zas (K:=K) rfl (zao (G_law_row) (hr.mono (by decide)) (by rfl) T.m_law_row T.F_law_row.kp T.b_law_row .nil zav (zaa (zaY (pv 0) T.cl_Exam T.me_Exam_papers (G_Exam_papers) (hr.mono (by first | decide | exact Nat.le_refl _)) T.b_Exam_papers .nil zav) (zaa (pv 1) pa_nil))) (fun _=>rfl))) (zbT (zba (zas (K:=K) rfl (zao (G_law_rows) (hr.mono (by decide)) (by rfl) T.m_law_rows T.F_law_rows.kp T.b_law_rows .nil zav (zaa (zaY (pv 0) T.cl_Exam T.me_Exam_readers (G_Exam_readers) (hr.mono (by first | decide | exact Nat.le_refl _)) T.b_Exam_readers .nil zav) (zaa (pv 2) pa_nil))) (fun _=>rfl))))).pt
   (zad (zaj za4)) pss_nil)
   (zac (zaV (zc2 (zba (zas (K:=K) rfl (zao (G_law_rows) (hr.mono (by decide)) (by rfl) T.m_law_rows T.F_law_rows.kp T.b_law_rows .nil zav (zaa (zaY (pv 0) T.cl_Exam T.me_Exam_dealing (G_Exam_dealing) (hr.mono (by first | decide | exact Nat.le_refl _)) T.b_Exam_dealing .nil zav) (zaa (zaW (zap (sc:=zab s_law_kept) (XN:=["_law_exam_here","_law_homes","_law_staff","_law_step_here","_law_names"]) (N:=["_law_row_here"]) (own:=1) (js:=[]) rfl rfl (by decide +kernel)) rfl (zaE (K:=K) rfl (pv 4)) (fun _ _ _ _ _=>(zaq (i:=0) (show List.Nodup [(Str.ofString "_law_row_here")] by decide +kernel) rfl (by first | exact Or.inl rfl | exact Or.inr rfl))) (fun _ _ _ _ _=>za9) (fun _ _ _ _ _=>(zdb (zdd (K:=K) rfl) (pv 0) po_none (zea zaf)))) pa_nil))) (fun _=>rfl))) (zbT (zay (op_notNN) (zaY (pv 0) T.cl_Exam T.me_Exam_against (G_Exam_against) (hr.mono (by first | decide | exact Nat.le_refl _)) T.b_Exam_against .nil zav) zcv (zaJ _)))).pt
   (zad (zaj za4)) pss_nil)
   (zad (zaj (zhb (zao (G_law_whole) (hr.mono (by decide)) (by rfl) T.m_law_whole T.F_law_whole.kp T.b_law_whole .nil zav (zaa (zaY (pv 0) T.cl_Exam T.me_Exam_step (G_Exam_step) (hr.mono (by first | decide | exact Nat.le_refl _)) T.b_Exam_step .nil zav) pa_nil)) (zhb (zcx (zdj (K:=K) rfl hr.units0) (zaY (pv 0) T.cl_Exam T.me_Exam_step (G_Exam_step) (hr.mono (by first | decide | exact Nat.le_refl _)) T.b_Exam_step .nil zav) (pv 3) (zaJ _)) (zir (zao (G_law_truth) (hr.mono (by decide)) (by rfl) T.m_law_truth T.F_law_truth.kp T.b_law_truth .nil zav (zaa (zaY (pv 0) T.cl_Exam T.me_Exam_dealt (G_Exam_dealt) (hr.mono (by first | decide | exact Nat.le_refl _)) T.b_Exam_dealt .nil zav) (zaa za4 pa_nil)))))))))),?_⟩
  obtain ⟨_,x,a,b,c,F,st,rfl,E0,BB,hd,ha,LB,LC,q⟩:=h
  have B1:=BB.lp
  have B2:=BB.lr
  have W:=E0.wf
  have l10:=W.n10 BB
  obtain ⟨d,hdl⟩:=Option.isSome_iff_exists.mp hd
  obtain ⟨nm,en⟩:=d
  have enm:st.nm=nm:=by unfold ExS.nm;rw [hdl];rfl
  rw [enm] at LC l10
  walk_at "rd"
  refine zfA E0 BB fun p1 H1 f1 s1 e1=>?_
  have E1:=E0.same s1
  walk_at "rd"
  refine zeA e1 (s1.seq ha) (by omega) ?_
  walk_at "rd"
  rw [decide_eq_true (rfl:st.hs=st.hs)]
  refine iteF ?_
  walk_at "rd"
  refine zeT E1 BB fun p2 H2 R2=>?_
  have s02:=s1.trans R2.same
  have E2:=E0.same s02
  obtain ⟨zs2,z2,_⟩:=R2.lst
  walk_at "rd"
  refine zdG ⟨_,z2⟩ R2.ll (LB.same s02) (by omega) (fun i hi=>by rw [BB.r2 i hi];decide) ?_
  walk_at "rd"
  rw [decide_eq_true (rfl:st.rs=st.rs)]
  refine iteF ?_
  walk_at "rd"
  refine zcZ E2 BB ⟨fun z=>absurd z (by rw [hdl];simp),fun nm' en' z p3 H3 R3=>?_⟩
  obtain ⟨rfl,rfl⟩:nm'=nm∧en'=en:=by rw [hdl] at z;injection z with z;injection z with z1 z2;exact ⟨z1.symm,z2.symm⟩
  have s03:=s02.trans R3.same
  have LC3:=LC.same s03
  obtain ⟨qs,hc,hlc,hrc⟩:=id LC3
  obtain ⟨zs3,z3,_⟩:=R3.lst
  walk_at "rd"
  refine zaO hc ?_
  refine zbu (zby (zbK.one (za6 hc)) (by rw [List.length_map];omega) (fun i=>(nm'.getD i []).take 2) (fun i H' Q' hi s q'=>?_) fun p4 H4 R4=>?_)
  ·rw [List.length_map,hlc] at hi
   rw [zjA (show i < qs.length by omega)]
   have hrow:=s _ _ (hrc i hi)
   show (_:TE) (some (.ref (qs.getD i 0))::_) _ _
   walk_at "rd"
   refine zb7 (SqL.of hrow) fun p5 H5 f5 s5 e5=>?_
   rw [show cutV ((nm'.getD i []).map V.int) none (some 2)=((nm'.getD i []).map V.int).take 2 from zgD 2,← List.map_take] at e5
   exact q' p5 H5 f5 s5 e5
  rw [List.length_map,hlc] at R4
  have em:(List.range nm'.length).map (fun i=>(nm'.getD i []).take 2)=nm'.map (List.take 2):=by
   conv=>rhs;rw [← zbv nm' []]
   rw [List.map_map]
   rfl
  rw [em] at R4
  have s04:=s03.trans R4.same
  walk_at "rd"
  refine zdG ⟨_,R4.same _ _ z3⟩ (R3.ll.same R4.same) R4.ll (by rw [List.length_map];omega) (fun i hi=>?_) ?_
  ·rw [List.length_map] at hi
   rw [List.getD_eq_getElem?_getD,List.getElem?_map,List.getElem?_eq_getElem hi]
   show (List.take 2 _).length≤_
   rw [List.length_take]
   omega
  walk_at "rd"
  rw [decide_eq_true (rfl:nm'.map (List.take 2)=nm'.map (List.take 2))]
  refine iteF ?_
  have E4:=E0.same s04
  walk_at "rd"
  refine zeX E4 BB ⟨fun _ H5 s5=>?_,fun xs z=>absurd z (by rw [hdl];simp)⟩
  have E5:=E4.same s5
  walk_at "rd"
  rw [decide_eq_true (rfl:V.non=V.non)]
  refine iteF ?_
  walk_at "rd"
  refine zeI E5 BB fun H6 s6=>?_
  have E6:=E5.same s6
  walk_at "rd"
  refine iteT ?_
  walk_at "rd"
  refine zeI E6 BB fun H7 s7=>?_
  have E7:=E6.same s7
  walk_at "rd"
  rw [decide_eq_true (rfl:st.step=st.step)]
  refine iteT ?_
  walk_at "rd"
  refine zgk E7 BB fun H8 s8=>?_
  walk_at "rd"
  rw [hdl]
  exact q _ ((((s04.trans s5).trans s6).trans s7).trans s8)
 exact TERM
theorem zig {C:Addr} {H:Hp} {x a b c:Addr} {F:Addr→Prop} {st:ExS} {Q:VK} {E:XK} (h:ExAt C H x F st) (B:InB st.hs st.rs) (hd:st.dl.isSome=true) (h0:SqL K H a (st.hs.map V.int)) (h1:LL K H b st.rs) (h2:LL K H c st.nm) (q:∀ H',Same H H'→Q (.bl true) H'):zeJ K C [.ref x,.ref a,.ref b,.int st.step,.ref c] H Q E:=⟨rfl,x,a,b,c,F,st,rfl,h,B,hd,h0,h1,h2,q⟩
def zbh (K:PySem.W.Frag) (C:Addr):Sp:=fun vs H Q _=>vs.length=2∧∃ (x:Addr) (F:Addr→Prop) (st:ExS) (k:Int),vs=[.ref x,.int k]∧ExAt C H x F st∧InB st.hs st.rs∧1≤k∧k≤st.nm.length∧(∀ p H',H p=none→Same H H'→H' p=some (.lst ((zbc st.nm st.en (k-1).toNat).map V.int))→Q (.ref p) H')
theorem zbR (T:Txt K mg t):FnOk P w K mg base CX0 1 t.f_Exam_due_readers t.d_Exam_due_readers ["self","paper"] (zbh K t.C_Exam):=by
 refine T.F_Exam_due_readers.ok sc_Exam_due_readers (fun vs H Q E h=>?_) (fun cdv A outer s H vs Q E hr h=>?_)
 ·exact (by obtain ⟨h,_⟩:=h;exact h)
 have TERM:∃ t',PSs (cxOf CX0 P w K mg base ["self","paper","entered"] "Exam.due_readers" (zab s_Exam_due_readers) t.f_Exam_due_readers cdv A outer s H E).nox (zae s_Exam_due_readers) t'∧t' ⟨fun _ H'=>Q .non H',Q,fun _ _=>False,fun _ _=>False⟩ (start ["self","paper","entered"] vs) H:=by
  refine ⟨_,(zac (zaF (i:=2) sc_Exam_due_readers.nd rfl (by first | exact Or.inl rfl | exact Or.inr rfl) (zaH (zai (K:=K) rfl) (zaz (K:=K) rfl (pv 0)) (zaw (op_sub) (pv 1) zaf) (fun _ _=>rfl)))
   (zad (zaj (zaW (zap (sc:=zab s_Exam_due_readers) (XN:=["self","paper","entered"]) (N:=["reader","entered"]) (own:=1) (js:=[2]) rfl rfl (by decide +kernel)) rfl (zaE (K:=K) rfl (zaH (zai (K:=K) rfl) (zaz (K:=K) rfl (pv 0)) (zaw (op_sub) (pv 1) zaf) (fun _ _=>rfl))) (fun _ _ _ _ _=>(zaq (i:=0) (show List.Nodup [(Str.ofString "reader"),(Str.ofString "entered")] by decide +kernel) rfl (by first | exact Or.inl rfl | exact Or.inr rfl))) (fun _ _ _ _ _=>(zcy (zkv (ziS (zeN hr) (pv 0) (pv 1))))) (fun _ _ _ _ _=>(pv 0)))))),?_⟩
  obtain ⟨_,x,F,st,k,rfl,E0,BB,k1,k2,q⟩:=h
  have B1:=BB.lp
  have B2:=BB.lr
  have E0':=E0
  obtain ⟨e,kvs,rfl,hF,I⟩:=E0
  have hcl:=T.cl_Exam
  have nA:=T.n_Exam_paper_houses
  have nB:=T.n_Exam_reader_rows
  have nS:=T.n_Exam_widest_step
  have nD:=T.n_Exam_is_dealt
  have nC:=T.n_Exam_named_readers
  have nE:=T.n_Exam_entered_points
  have hob:=I.ob
  have fA:=@exFs_a (.ref e.a) (.ref e.b) (.int st.step) (.bl st.dl.isSome) (.ref e.c) (.ref e.d)
  have fB:=@exFs_b (.ref e.a) (.ref e.b) (.int st.step) (.bl st.dl.isSome) (.ref e.c) (.ref e.d)
  have fS:=@exFs_s (.ref e.a) (.ref e.b) (.int st.step) (.bl st.dl.isSome) (.ref e.c) (.ref e.d)
  have fD:=@exFs_d (.ref e.a) (.ref e.b) (.int st.step) (.bl st.dl.isSome) (.ref e.c) (.ref e.d)
  have fC:=@exFs_c (.ref e.a) (.ref e.b) (.int st.step) (.bl st.dl.isSome) (.ref e.c) (.ref e.d)
  have fE:=@exFs_e (.ref e.a) (.ref e.b) (.int st.step) (.bl st.dl.isSome) (.ref e.c) (.ref e.d)
  have hha:=I.ha
  have hhb:=I.hb
  have hhc:=I.hc
  have hhd:=I.hd
  have lq:=I.lq
  have ld:=I.ld
  have l10:=I.wf.n10 BB
  have hk:(k-1).toNat < st.nm.length:=by omega
  have hdic:=I.rd _ hk
  have hrow:=I.rq _ hk
  have hvk:=I.vk _ hk
  have hlr:=(I.wf.row _ hk).len
  walk_at "rd"
  refine zaO (SqL.of hrow) ?_
  refine zfZ (SqL.of hrow) (by rw [List.length_map];omega) (fun v=>match v with | .int r=>(zcf st.en (k-1).toNat r).isNone | _=>false) (fun i H' Q' hi s q'=>?_) fun p H2 f s e2=>?_
  ·rw [List.length_map] at hi
   have ex:((st.nm.getD (k-1).toNat []).map V.int).getD i .non=.int ((st.nm.getD (k-1).toNat []).getD i 0):=zcF hi
   rw [ex] at q' ⊢
   walk_at "rd"
   refine zjx (s _ _ hdic) ?_
   rw [hvk]
   have eb:(!((zcf st.en (k-1).toNat ((st.nm.getD (k-1).toNat []).getD i 0)).map V.int).isSome)=(zcf st.en (k-1).toNat ((st.nm.getD (k-1).toNat []).getD i 0)).isNone:=by
    cases zcf st.en (k-1).toNat ((st.nm.getD (k-1).toNat []).getD i 0) <;> rfl
   walk_at "rd"
   rw [eb]
   exact q'
  ·have ew:((st.nm.getD (k-1).toNat []).map V.int).filter (fun v=>match v with | .int r=>(zcf st.en (k-1).toNat r).isNone | _=>false)=(zbc st.nm st.en (k-1).toNat).map V.int:=by
    unfold zbc
    rw [List.filter_map]
    rfl
   rw [ew] at e2
   exact q p H2 f s e2
 exact TERM
theorem zds {K:PySem.W.Frag} {C x:Addr} {H:Hp} {F:Addr→Prop} {st:ExS} {k:Int} {Q:VK} {E:XK} (h:ExAt C H x F st) (B:InB st.hs st.rs) (k1:1≤k) (k2:k≤st.nm.length) (q:(∀ p H',H p=none→Same H H'→H' p=some (.lst ((zbc st.nm st.en (k-1).toNat).map V.int))→Q (.ref p) H')):zbh K C [.ref x,.int k] H Q E:=⟨rfl,x,F,st,k,rfl,h,B,k1,k2,q⟩
theorem zb2 {K:PySem.W.Frag} {C x:Addr} {H:Hp} {F:Addr→Prop} {st:ExS} {k:Int} {Q:VK} {E:XK} {σ:L2.St} {tk:TE} (h:ExAt C H x F st) (B:InB st.hs st.rs) (k1:1≤k) (k2:k≤st.nm.length) (hk:∀ Q:VK,Q (.int k) H→tk σ H Q) (q:(∀ p H',H p=none→Same H H'→H' p=some (.lst ((zbc st.nm st.en (k-1).toNat).map V.int))→Q (.ref p) H')):za3 C "due_readers" (zbh K C) E (zfh tk tNil) σ (.ref x) H Q:=by
 obtain ⟨dx,fs,e,l⟩:=h.ob
 exact zaG e (l _ (by decide +kernel)) (ze3 (hk _ (zcN (zds h B k1 k2  q))))
def zc8 (K:PySem.W.Frag) (C:Addr):Sp:=fun vs H Q _=>vs.length=1∧∃ (x:Addr) (F:Addr→Prop) (st:ExS),vs=[.ref x]∧ExAt C H x F st∧InB st.hs st.rs∧(∀ p H',RowsAt H p (dueS st) H'→Q (.ref p) H')
theorem zg3 (T:Txt K mg t):FnOk P w K mg base CX0 2 t.f_Exam_due t.d_Exam_due ["self"] (zc8 K t.C_Exam):=by
 have G_Exam_due_readers:=zbR (P:=P) (w:=w) (base:=base) T
 refine T.F_Exam_due.ok sc_Exam_due (fun vs H Q E h=>?_) (fun cdv A outer s H vs Q E hr h=>?_)
 ·exact (by obtain ⟨h,_⟩:=h;exact h)
 have TERM:∃ t',PSs (cxOf CX0 P w K mg base ["self","rows","paper"] "Exam.due" (zab s_Exam_due) t.f_Exam_due cdv A outer s H E).nox (zae s_Exam_due) t'∧t' ⟨fun _ H'=>Q .non H',Q,fun _ _=>False,fun _ _=>False⟩ (start ["self","rows","paper"] vs) H:=by
  refine ⟨_,(zac (zaF (i:=1) sc_Exam_due.nd rfl (by first | exact Or.inl rfl | exact Or.inr rfl) (zaP pa_nil))
   (zac (za2 PassesOwn.never rfl (zbl (by rfl) T.z_range (zaa zaf (zaa (zaw (op_addG) (zah (zak (K:=K) rfl) (by rfl) T.z_len (by rfl) (zaa (zaz (K:=K) rfl (pv 0)) pa_nil)) zaf) pa_nil))) (zaq (i:=2) sc_Exam_due.nd rfl (by first | exact Or.inl rfl | exact Or.inr rfl))
   (zad (zaM (zbW (K:=K) rfl PySem.F.plainAttrs_list PySem.F.slot_list_extend PySem.F.type_list_extend mt_extend (pv 1) (zaa (zaW (zap (sc:=zab s_Exam_due) (XN:=["self","rows","paper"]) (N:=["reader","paper"]) (own:=1) (js:=[2]) rfl rfl (by decide +kernel)) rfl (zaE (K:=K) rfl (zbH (pv 0) T.cl_Exam T.me_Exam_due_readers (G_Exam_due_readers) (hr.mono (by first | decide | exact Nat.le_refl _)) T.b_Exam_due_readers .nil zav (zaa (pv 2) pa_nil))) (fun _ _ _ _ _=>(zaq (i:=0) (show List.Nodup [(Str.ofString "reader"),(Str.ofString "paper")] by decide +kernel) rfl (by first | exact Or.inl rfl | exact Or.inr rfl))) (fun _ _ _ _ _=>za9) (fun _ _ _ _ _=>(zaP (zaa (pv 1) (zaa (pv 0) pa_nil))))) pa_nil)))))
   (zad (zaj (pv 1))))),?_⟩
  obtain ⟨_,x,F,st,rfl,E0,BB,q⟩:=h
  have B1:=BB.lp
  have B2:=BB.lr
  have E0':=E0
  obtain ⟨e,kvs,rfl,hF,I⟩:=E0
  have hcl:=T.cl_Exam
  have nA:=T.n_Exam_paper_houses
  have nB:=T.n_Exam_reader_rows
  have nS:=T.n_Exam_widest_step
  have nD:=T.n_Exam_is_dealt
  have nC:=T.n_Exam_named_readers
  have nE:=T.n_Exam_entered_points
  have hob:=I.ob
  have fA:=@exFs_a (.ref e.a) (.ref e.b) (.int st.step) (.bl st.dl.isSome) (.ref e.c) (.ref e.d)
  have fB:=@exFs_b (.ref e.a) (.ref e.b) (.int st.step) (.bl st.dl.isSome) (.ref e.c) (.ref e.d)
  have fS:=@exFs_s (.ref e.a) (.ref e.b) (.int st.step) (.bl st.dl.isSome) (.ref e.c) (.ref e.d)
  have fD:=@exFs_d (.ref e.a) (.ref e.b) (.int st.step) (.bl st.dl.isSome) (.ref e.c) (.ref e.d)
  have fC:=@exFs_c (.ref e.a) (.ref e.b) (.int st.step) (.bl st.dl.isSome) (.ref e.c) (.ref e.d)
  have fE:=@exFs_e (.ref e.a) (.ref e.b) (.int st.step) (.bl st.dl.isSome) (.ref e.c) (.ref e.d)
  have hha:=I.ha
  have hhb:=I.hb
  have hhc:=I.hc
  have hhd:=I.hd
  have lq:=I.lq
  have l10:=I.wf.n10 BB
  walk_at "rd"
  refine zax (by decide) fun p1 H1 f1 s1 e1=>?_
  have hob1:=s1 _ _ hob
  have hhc1:=s1 _ _ hhc
  walk_at "rd"
  refine zde ⟨by omega,by omega,by omega,by omega⟩ ?_
  have en:((e.qs.length:Int)+1-1).toNat=st.nm.length:=by omega
  rw [en]
  refine zbI (fun i σ H'=>(∃ v,σ=[some (.ref e.x),some (.ref p1),v])∧RowsAt H p1 ((List.range i).flatMap fun k=>(zbc st.nm st.en k).map fun r=>[(k:Int)+1,r]) H'∧((List.range i).flatMap fun k=>(zbc st.nm st.en k).map fun r=>[(k:Int)+1,r]).length≤3 * i) ⟨⟨none,rfl⟩,RowsAt.start f1 s1 e1,by simp⟩ ?_ ?_
  ·rintro i σ H' hi ⟨⟨v,rfl⟩,R,hlen⟩
   have E':=E0'.same R.same
   have ek:(1+(i:Int)-1).toNat=i:=by omega
   have hw:=zlP st.nm st.en i
   have hlr:=(I.wf.row i hi).len
   obtain ⟨zs',z',_⟩:=R.lst
   walk_at "rd"
   refine zb2 E' BB (k:=1+(i:Int)) (by omega) (by omega) (fun Q z=>zfm (i:=2) rfl z) fun p2 H2 f2 s2 e2=>?_
   rw [ek] at e2
   refine zaO (SqL.of e2) ?_
   refine zbu (zby (zbK.one (za6 (SqL.of e2))) (by rw [List.length_map];omega) (fun j=>[(i:Int)+1,(zbc st.nm st.en i).getD j 0]) (fun j H3 Q' hj s3 q'=>?_) fun p3 H3 R3=>?_)
   ·rw [List.length_map] at hj
    have ex:((zbc st.nm st.en i).map V.int).getD j .non=.int ((zbc st.nm st.en i).getD j 0):=zcF hj
    rw [ex]
    show (_:TE) (some (.int _)::some (.int (1+(i:Int)))::_) _ _
    walk_at "rd"
    rw [Int.add_comm 1 (i:Int)]
    refine zax (by simp) fun p4 H4 f4 s4 e4=>?_
    exact q' p4 H4 f4 s4 e4
   ·have er:(List.range ((zbc st.nm st.en i).map V.int).length).map (fun j=>[(i:Int)+1,(zbc st.nm st.en i).getD j 0])=(zbc st.nm st.en i).map fun r=>[(i:Int)+1,r]:=by
     rw [List.length_map]
     conv=>rhs;rw [← zbv (zbc st.nm st.en i) 0]
     rw [List.map_map]
     rfl
    rw [er] at R3
    have R':RowsAt H p1 _ H2:=⟨R.same.trans s2,R.new,by obtain ⟨ps,a1,a2,a3,a4⟩:=R.rows;exact ⟨ps,s2 _ _ a1,a2,a3,fun j hj=>⟨s2 _ _ (a4 j hj).1,(a4 j hj).2⟩⟩⟩
    obtain ⟨zs,zs2,z1,z2,z3,z4,zz⟩:=R'.ext (H3:=H3) R3
    rw [List.length_map] at z4
    obtain ⟨zs,zs2,z1,z2,z3,z4,_⟩:=R'.ext (H3:=H3) R3
    rw [List.length_map] at z4
    walk_at "rd"
    refine zkk z1 z2 (by omega) fun H4 b4 e4=>?_
    obtain ⟨ys,ys2,y1,y2,y3,y4,yy⟩:=R'.ext (H3:=H4) R3
    have eq1:ys=zs:=by rw [y1] at z1;exact HO.lst.inj (Option.some.inj z1)
    have eq2:ys2=zs2:=by rw [y2] at z2;exact HO.lst.inj (Option.some.inj z2)
    rw [eq1,eq2] at yy
    walk_at "rd"
    refine ⟨⟨_,rfl⟩,?_,?_⟩
    ·rw [zdi _ _ _ hi]
     exact yy b4 e4
    ·rw [zdi _ _ _ hi,List.length_append,List.length_map]
     omega
  ·rintro σ H' ⟨⟨v,rfl⟩,R,_⟩
   walk_at "rd"
   exact q p1 H' R
 exact TERM
theorem zih {K:PySem.W.Frag} {C x:Addr} {H:Hp} {F:Addr→Prop} {st:ExS} {Q:VK} {E:XK} (h:ExAt C H x F st) (B:InB st.hs st.rs) (q:(∀ p H',RowsAt H p (dueS st) H'→Q (.ref p) H')):zc8 K C [.ref x] H Q E:=⟨rfl,x,F,st,rfl,h,B,q⟩
theorem zii {K:PySem.W.Frag} {C x:Addr} {H:Hp} {F:Addr→Prop} {st:ExS} {Q:VK} {E:XK} {σ:L2.St} (h:ExAt C H x F st) (B:InB st.hs st.rs) (q:(∀ p H',RowsAt H p (dueS st) H'→Q (.ref p) H')):za3 C "due" (zc8 K C) E tNil σ (.ref x) H Q:=by
 obtain ⟨dx,fs,e,l⟩:=h.ob
 exact zaG e (l _ (by decide +kernel)) (zcN (zih h B q))
def zeK (K:PySem.W.Frag):Sp:=fun vs H Q _=>vs.length=2∧∃ (a:Addr) (n:Nat),vs=[.ref a,.int (n:Int)]∧H a=some (.lst (List.replicate n .non))∧n≤1000∧Q (.bl true) H
theorem zg4 (T:Txt K mg t):FnOk P w K mg base CX0 1 t.f_law_none t.d_law_none ["_law_found","_law_many"] (zeK K):=by
 refine T.F_law_none.ok sc_law_none (fun vs H Q E h=>?_) (fun cdv A outer s H vs Q E hr h=>?_)
 ·exact (by obtain ⟨h,_⟩:=h;exact h)
 have TERM:∃ t',PSs (cxOf CX0 P w K mg base ["_law_found","_law_many","_law_one"] "_law_none" (zab s_law_none) t.f_law_none cdv A outer s H E).nox (zae s_law_none) t'∧t' ⟨fun _ H'=>Q .non H',Q,fun _ _=>False,fun _ _=>False⟩ (start ["_law_found","_law_many","_law_one"] vs) H:=by
  refine ⟨_,(zac (zaV (zc2 (zba (zas (K:=K) rfl (zah (zaL (K:=K) rfl) (by rfl) T.z_isinstance (by rfl) (zaa (pv 0) (zaa (zcw (v:=.ty "list") (u:=.type "list") (by rfl) T.z_list (by rfl) rfl) pa_nil))) (fun _=>rfl))) (zbT (zay (zcS (K:=K) rfl hr.units0) (zah (zak (K:=K) rfl) (by rfl) T.z_len (by rfl) (zaa (pv 0) pa_nil)) (pv 1) (zaJ _)))).pt
   (zad (zaj za4)) pss_nil)
   (zac (za2 PassesOwn.never rfl (zaE (K:=K) rfl (pv 0)) (zaq (i:=2) sc_law_none.nd rfl (by first | exact Or.inl rfl | exact Or.inr rfl))
   (zad (zaV (zay (op_notNN) (pv 2) zcv (zaJ _))
   (zad (zaj za4)) pss_nil)))
   (zad (zaj za4)))),?_⟩
  obtain ⟨_,a,n,rfl,ha,hn,q⟩:=h
  have el:(List.replicate n V.non).length=n:=List.length_replicate
  walk_at "rd"
  refine iteF ?_
  walk_at "rd"
  rw [el,decide_eq_true (rfl:(n:Int)=(n:Int))]
  refine iteF ?_
  walk_at "rd"
  refine zaO (SqL.of ha) ?_
  refine zb3 (xs:=List.replicate n V.non) (fun i σ H'=>(∃ v,σ=[some (.ref a),some (.int (n:Int)),v])∧H'=H) ⟨⟨none,rfl⟩,rfl⟩ ?_ ?_ ?_
  ·rintro i σ H' _ ⟨_,rfl⟩
   exact SqL.of ha
  ·rintro i x σ H' hx ⟨⟨v,rfl⟩,rfl⟩
   have hxn:x=.non:=by
    have:=List.mem_of_getElem? hx
    exact (List.mem_replicate.mp this).2
   subst hxn
   walk_at "rd"
   rw [decide_eq_true (rfl:V.non=V.non)]
   refine iteF ?_
   walk_at "rd"
   exact ⟨⟨_,rfl⟩,rfl⟩
  ·rintro σ H' ⟨⟨v,rfl⟩,rfl⟩
   walk_at "rd"
   exact q
 exact TERM
theorem zij {H:Hp} {a:Addr} {n:Nat} {Q:VK} {E:XK} (h:H a=some (.lst (List.replicate n .non))) (hn:n≤1000) (q:Q (.bl true) H):zeK K [.ref a,.int (n:Int)] H Q E:=⟨rfl,a,n,rfl,h,hn,q⟩
def zbp (K:PySem.W.Frag) (C:Addr):Sp:=fun vs H Q _=>vs.length=2∧∃ (x:Addr) (F:Addr→Prop) (st:ExS) (k:Int),vs=[.ref x,.int k]∧ExAt C H x F st∧InB st.hs st.rs∧1≤k∧k≤st.nm.length∧zbc st.nm st.en (k-1).toNat=[]∧(∀ p H',H p=none→Same H H'→H' p=some (.lst ((ptsOf st.nm st.en (k-1).toNat).map V.int))→Q (.ref p) H')
theorem zdt (T:Txt K mg t):FnOk P w K mg base CX0 1 t.f_Exam_points_for t.d_Exam_points_for ["self","paper"] (zbp K t.C_Exam):=by
 refine T.F_Exam_points_for.ok sc_Exam_points_for (fun vs H Q E h=>?_) (fun cdv A outer s H vs Q E hr h=>?_)
 ·exact (by obtain ⟨h,_⟩:=h;exact h)
 have TERM:∃ t',PSs (cxOf CX0 P w K mg base ["self","paper","entered"] "Exam.points_for" (zab s_Exam_points_for) t.f_Exam_points_for cdv A outer s H E).nox (zae s_Exam_points_for) t'∧t' ⟨fun _ H'=>Q .non H',Q,fun _ _=>False,fun _ _=>False⟩ (start ["self","paper","entered"] vs) H:=by
  refine ⟨_,(zac (zaF (i:=2) sc_Exam_points_for.nd rfl (by first | exact Or.inl rfl | exact Or.inr rfl) (zaH (zai (K:=K) rfl) (zaz (K:=K) rfl (pv 0)) (zaw (op_sub) (pv 1) zaf) (fun _ _=>rfl)))
   (zad (zaj (zaW (zap (sc:=zab s_Exam_points_for) (XN:=["self","paper","entered"]) (N:=["reader","entered"]) (own:=1) (js:=[2]) rfl rfl (by decide +kernel)) rfl (zaE (K:=K) rfl (zaH (zai (K:=K) rfl) (zaz (K:=K) rfl (pv 0)) (zaw (op_sub) (pv 1) zaf) (fun _ _=>rfl))) (fun _ _ _ _ _=>(zaq (i:=0) (show List.Nodup [(Str.ofString "reader"),(Str.ofString "entered")] by decide +kernel) rfl (by first | exact Or.inl rfl | exact Or.inr rfl))) (fun _ _ _ _ _=>za9) (fun _ _ _ _ _=>(zlv (zeN hr) (pv 1) (pv 0) (fun _ _=>rfl))))))),?_⟩
  obtain ⟨_,x,F,st,k,rfl,E0,BB,k1,k2,hw,q⟩:=h
  have B1:=BB.lp
  have B2:=BB.lr
  have E0':=E0
  obtain ⟨e,kvs,rfl,hF,I⟩:=E0
  have hcl:=T.cl_Exam
  have nA:=T.n_Exam_paper_houses
  have nB:=T.n_Exam_reader_rows
  have nS:=T.n_Exam_widest_step
  have nD:=T.n_Exam_is_dealt
  have nC:=T.n_Exam_named_readers
  have nE:=T.n_Exam_entered_points
  have hob:=I.ob
  have fA:=@exFs_a (.ref e.a) (.ref e.b) (.int st.step) (.bl st.dl.isSome) (.ref e.c) (.ref e.d)
  have fB:=@exFs_b (.ref e.a) (.ref e.b) (.int st.step) (.bl st.dl.isSome) (.ref e.c) (.ref e.d)
  have fS:=@exFs_s (.ref e.a) (.ref e.b) (.int st.step) (.bl st.dl.isSome) (.ref e.c) (.ref e.d)
  have fD:=@exFs_d (.ref e.a) (.ref e.b) (.int st.step) (.bl st.dl.isSome) (.ref e.c) (.ref e.d)
  have fC:=@exFs_c (.ref e.a) (.ref e.b) (.int st.step) (.bl st.dl.isSome) (.ref e.c) (.ref e.d)
  have fE:=@exFs_e (.ref e.a) (.ref e.b) (.int st.step) (.bl st.dl.isSome) (.ref e.c) (.ref e.d)
  have hha:=I.ha
  have hhb:=I.hb
  have hhc:=I.hc
  have hhd:=I.hd
  have lq:=I.lq
  have ld:=I.ld
  have l10:=I.wf.n10 BB
  have hk:(k-1).toNat < st.nm.length:=by omega
  have hdic:=I.rd _ hk
  have hrow:=I.rq _ hk
  have hvk:=I.vk _ hk
  have hlr:=(I.wf.row _ hk).len
  walk_at "rd"
  refine zaO (SqL.of hrow) ?_
  refine zfT (za6 (SqL.of hrow)) (by rw [List.length_map];omega) (fun i=>(zcf st.en (k-1).toNat ((st.nm.getD (k-1).toNat []).getD i 0)).getD 0) (fun i H' Q' hi s q'=>?_) fun p H2 f s e2=>?_
  ·rw [List.length_map] at hi
   have ex:((st.nm.getD (k-1).toNat []).map V.int).getD i .non=.int ((st.nm.getD (k-1).toNat []).getD i 0):=zcF hi
   rw [ex]
   obtain ⟨p,hp⟩:=zkm hw (getD_mem (d:=0) hi)
   rw [hp] at q'
   walk_at "rd"
   refine zjy (s _ _ hdic) (by rw [hvk,hp];rfl) ?_
   exact q'
  ·have ew:(List.range ((st.nm.getD (k-1).toNat []).map V.int).length).map (fun i=>(zcf st.en (k-1).toNat ((st.nm.getD (k-1).toNat []).getD i 0)).getD 0)=ptsOf st.nm st.en (k-1).toNat:=by
    unfold ptsOf
    rw [List.length_map]
    conv=>rhs;rw [← zbv (st.nm.getD (k-1).toNat []) 0]
    rw [List.map_map]
    rfl
   rw [ew] at e2
   exact q p H2 f s e2
 exact TERM
theorem zdI {K:PySem.W.Frag} {C x:Addr} {H:Hp} {F:Addr→Prop} {st:ExS} {k:Int} {Q:VK} {E:XK} (h:ExAt C H x F st) (B:InB st.hs st.rs) (k1:1≤k) (k2:k≤st.nm.length) (hw:zbc st.nm st.en (k-1).toNat=[]) (q:(∀ p H',H p=none→Same H H'→H' p=some (.lst ((ptsOf st.nm st.en (k-1).toNat).map V.int))→Q (.ref p) H')):zbp K C [.ref x,.int k] H Q E:=⟨rfl,x,F,st,k,rfl,h,B,k1,k2,hw,q⟩
theorem zdJ {K:PySem.W.Frag} {C x:Addr} {H:Hp} {F:Addr→Prop} {st:ExS} {k:Int} {Q:VK} {E:XK} {σ:L2.St} {tk:TE} (h:ExAt C H x F st) (B:InB st.hs st.rs) (k1:1≤k) (k2:k≤st.nm.length) (hw:zbc st.nm st.en (k-1).toNat=[]) (hk:∀ Q:VK,Q (.int k) H→tk σ H Q) (q:(∀ p H',H p=none→Same H H'→H' p=some (.lst ((ptsOf st.nm st.en (k-1).toNat).map V.int))→Q (.ref p) H')):za3 C "points_for" (zbp K C) E (zfh tk tNil) σ (.ref x) H Q:=by
 obtain ⟨dx,fs,e,l⟩:=h.ob
 exact zaG e (l _ (by decide +kernel)) (ze3 (hk _ (zcN (zdI h B k1 k2 hw q))))
def zbS (K:PySem.W.Frag):Sp:=fun vs H Q _=>vs.length=2∧∃ a b:Nat,vs=[.int (a:Int),.int (b:Int)]∧Q (.int ((Nat.gcd a b:Nat):Int)) H
theorem zc9 (T:Txt K mg t):FnOk P w K mg base CX0 1 t.f_greatest_divisor t.d_greatest_divisor ["one","other"] (zbS K):=by
 refine T.F_greatest_divisor.ok sc_greatest_divisor (fun vs H Q E h=>?_) (fun cdv A outer s H vs Q E hr h=>?_)
 ·exact (by obtain ⟨h,_⟩:=h;exact h)
 have TERM:∃ t',PSs (cxOf CX0 P w K mg base ["one","other","divisor","rest","next_rest"] "greatest_divisor" (zab s_greatest_divisor) t.f_greatest_divisor cdv A outer s H E).nox (zae s_greatest_divisor) t'∧t' ⟨fun _ H'=>Q .non H',Q,fun _ _=>False,fun _ _=>False⟩ (start ["one","other","divisor","rest","next_rest"] vs) H:=by
  refine ⟨_,(zac (zaF (i:=2) sc_greatest_divisor.nd rfl (by first | exact Or.inl rfl | exact Or.inr rfl) (pv 0))
   (zac (zaF (i:=3) sc_greatest_divisor.nd rfl (by first | exact Or.inl rfl | exact Or.inr rfl) (pv 1))
   (zac (zff PassesOwn.never (zay (op_gt) (pv 3) zaf (zaJ _))
   (zac (zaF (i:=4) sc_greatest_divisor.nd rfl (by first | exact Or.inl rfl | exact Or.inr rfl) (zaw (op_mod) (pv 2) (pv 3)))
   (zac (zaF (i:=2) sc_greatest_divisor.nd rfl (by first | exact Or.inl rfl | exact Or.inr rfl) (pv 3))
   (zad (zaF (i:=3) sc_greatest_divisor.nd rfl (by first | exact Or.inl rfl | exact Or.inr rfl) (pv 4))))))
   (zad (zaj (pv 2)))))),?_⟩
  obtain ⟨_,a,b,rfl,q⟩:=h
  walk_at "rd"
  refine ⟨fun n σ H'=>∃ (x:Nat) (v:Option V),σ=[some (.int (a:Int)),some (.int (b:Int)),some (.int (x:Int)),some (.int (n:Int)),v]∧H'=H∧Nat.gcd x n=Nat.gcd a b,⟨b,a,none,rfl,rfl,rfl⟩,?_⟩
  rintro n σ H' ⟨x,v,rfl,rfl,hg⟩
  walk_at "rd"
  refine zct (fun h1=>?_) (fun h1=>?_)
  ·refine ⟨fun σ H''=>∃ (x' y':Nat) (v:Option V),y' < n∧σ=[some (.int (a:Int)),some (.int (b:Int)),some (.int (x':Int)),some (.int (y':Int)),v]∧H''=H'∧Nat.gcd x' y'=Nat.gcd a b,?_,?_⟩
   ·rintro σ' H'' ⟨x',y',v',hlt,rfl,rfl,hg'⟩
    exact ⟨y',hlt,x',v',rfl,rfl,hg'⟩
   ·walk_at "rd"
    refine ⟨n,x % n,_,Nat.mod_lt _ (by omega),rfl,rfl,?_⟩
    rw [← hg,Nat.gcd_comm n,← Nat.gcd_rec,Nat.gcd_comm]
  ·have h0:n=0:=by omega
   subst h0
   rw [Nat.gcd_zero_right] at hg
   subst hg
   walk_at "rd"
   exact q
 exact TERM
theorem zdu {H:Hp} {a b:Nat} {Q:VK} {E:XK} (q:Q (.int ((Nat.gcd a b:Nat):Int)) H):zbS K [.int (a:Int),.int (b:Int)] H Q E:=⟨rfl,a,b,rfl,q⟩
theorem zlT {a b:Nat} (hb:1≤b):Low (a:Int) (b:Int) ((a:Int) / ((Nat.gcd a b:Nat):Int)) ((b:Int) / ((Nat.gcd a b:Nat):Int)):=by
 have hg:0 < Nat.gcd a b:=Nat.gcd_pos_of_pos_right _ hb
 obtain ⟨x,hx⟩:=Nat.gcd_dvd_left a b
 obtain ⟨y,hy⟩:=Nat.gcd_dvd_right a b
 have hco:Nat.gcd (a / Nat.gcd a b) (b / Nat.gcd a b)=1:=by
  rw [Nat.gcd_div (Nat.gcd_dvd_left a b) (Nat.gcd_dvd_right a b),Nat.div_self hg]
 have e1:a / Nat.gcd a b=x:=by
  conv=>lhs;arg 1;rw [hx]
  exact Nat.mul_div_cancel_left x hg
 have e2:b / Nat.gcd a b=y:=by
  conv=>lhs;arg 1;rw [hy]
  exact Nat.mul_div_cancel_left y hg
 have l1:=Nat.div_le_self a (Nat.gcd a b)
 have l2:=Nat.div_le_self b (Nat.gcd a b)
 rw [e1] at l1
 rw [e2] at l2
 have c1:(a:Int) / ((Nat.gcd a b:Nat):Int)=(x:Int):=by rw [← Int.natCast_ediv,e1]
 have c2:(b:Int) / ((Nat.gcd a b:Nat):Int)=(y:Int):=by rw [← Int.natCast_ediv,e2]
 rw [e1,e2] at hco
 rw [c1,c2]
 have y1:1≤y:=by
  rcases Nat.eq_zero_or_pos y with h | h
  ·rw [h,Nat.mul_zero] at hy;omega
  ·exact h
 refine ⟨by omega,by omega,?_,?_,by omega,by omega⟩
 ·have:x * b=a * y:=by
   generalize Nat.gcd a b=g at *
   subst hx hy
   rw [Nat.mul_comm g y,← Nat.mul_assoc,Nat.mul_comm g x,Nat.mul_right_comm]
  exact_mod_cast this
 ·show Nat.gcd (Int.natAbs x) (Int.natAbs y)=1
  rw [Int.natAbs_natCast,Int.natAbs_natCast]
  exact hco
def zgm (K:PySem.W.Frag):Sp:=fun vs H Q _=>vs.length=2∧∃ x y:Int,vs=[.int x,.int y]∧0≤x∧x≤10 ^ 30∧1≤y∧y≤10 ^ 30∧∀ t b,Low x y t b→∀ p H',H p=none→Same H H'→H' p=some (.lst ([t,b].map V.int))→Q (.ref p) H'
theorem zjJ (T:Txt K mg t):FnOk P w K mg base CX0 2 t.f_lowest t.d_lowest ["top","bottom"] (zgm K):=by
 have G_greatest_divisor:=zc9 (P:=P) (w:=w) (base:=base) T
 refine T.F_lowest.ok sc_lowest (fun vs H Q E h=>?_) (fun cdv A outer s H vs Q E hr h=>?_)
 ·exact (by obtain ⟨h,_⟩:=h;exact h)
 have TERM:∃ t',PSs (cxOf CX0 P w K mg base ["top","bottom","divisor"] "lowest" (zab s_lowest) t.f_lowest cdv A outer s H E).nox (zae s_lowest) t'∧t' ⟨fun _ H'=>Q .non H',Q,fun _ _=>False,fun _ _=>False⟩ (start ["top","bottom","divisor"] vs) H:=by
  refine ⟨_,(zac (zaF (i:=2) sc_lowest.nd rfl (by first | exact Or.inl rfl | exact Or.inr rfl) (zao (G_greatest_divisor) (hr.mono (by decide)) (by rfl) T.m_greatest_divisor T.F_greatest_divisor.kp T.b_greatest_divisor .nil zav (zaa (pv 0) (zaa (pv 1) pa_nil))))
   (zad (zaj (zaP (zaa (zaw (op_fdivB) (pv 0) (pv 2)) (zaa (zaw (op_fdivB) (pv 1) (pv 2)) pa_nil)))))),?_⟩
  obtain ⟨_,x,y,rfl,x0,x1,y0,y1,q⟩:=h
  obtain ⟨a,rfl⟩:=Int.eq_ofNat_of_zero_le x0
  obtain ⟨b,rfl⟩:=Int.eq_ofNat_of_zero_le (show 0≤y by omega)
  have hb:1≤b:=by omega
  have hL:=zlT (a:=a) hb
  have hg:0 < Nat.gcd a b:=Nat.gcd_pos_of_pos_right _ hb
  have hg2:Nat.gcd a b≤b:=Nat.le_of_dvd hb (Nat.gcd_dvd_right a b)
  walk_at "rd"
  refine zdu ?_
  walk_at "rd"
  refine zax (by simp) fun p H' f s e=>?_
  exact q _ _ hL p H' f s e
 exact TERM
theorem zfE {H:Hp} {x y:Int} {Q:VK} {E:XK} (x0:0≤x) (x1:x≤10 ^ 30) (y0:1≤y) (y1:y≤10 ^ 30) (q:∀ t b,Low x y t b→∀ p H',H p=none→Same H H'→H' p=some (.lst ([t,b].map V.int))→Q (.ref p) H'):zgm K [.int x,.int y] H Q E:=⟨rfl,x,y,rfl,x0,x1,y0,y1,q⟩
theorem zkt {a b:List Int} (h:a.Perm b):a.sum=b.sum:=by
 induction h with
 | nil=>rfl
 | cons x _ ih=>rw [List.sum_cons,List.sum_cons,ih]
 | swap x y l=>simp only [List.sum_cons];omega
 | trans _ _ i1 i2=>exact i1.trans i2
theorem zik {x y z:Int} {ns:List Int} (hp:ns.Perm [x,y,z]) (hs:ns.Pairwise (·≤·)):ns.getD 1 0=mid3 x y z:=by
 have hl:=hp.length_eq
 match ns,hl with
 | [a,b,c],_ =>
   have h1:a≤b∧b≤c:=by simp at hs;omega
   have hsum:a+b+c=x+y+z:=by
    have:=zkt hp
    simp at this
    omega
   have ma:a=x∨a=y∨a=z:=by have:=hp.mem_iff.mp (show a∈[a,b,c] by simp);simpa using this
   have mc:c=x∨c=y∨c=z:=by have:=hp.mem_iff.mp (show c∈[a,b,c] by simp);simpa using this
   have mx:x=a∨x=b∨x=c:=by have:=hp.mem_iff.mpr (show x∈[x,y,z] by simp);simpa using this
   have my:y=a∨y=b∨y=c:=by have:=hp.mem_iff.mpr (show y∈[x,y,z] by simp);simpa using this
   have mz:z=a∨z=b∨z=c:=by have:=hp.mem_iff.mpr (show z∈[x,y,z] by simp);simpa using this
   show b=_
   unfold mid3 min2 max2
   repeat' split
   all_goals omega
def zdU (K:PySem.W.Frag):Sp:=fun vs H Q _=>vs.length=1∧∃ (a:Addr) (x y z:Int),vs=[.ref a]∧SqL K H a ([x,y,z].map V.int)∧∀ H',Same H H'→Q (.int (mid3 x y z)) H'
theorem zgn (T:Txt K mg t):FnOk P w K mg base CX0 1 t.f_middle_of t.d_middle_of ["points"] (zdU K):=by
 refine T.F_middle_of.ok sc_middle_of (fun vs H Q E h=>?_) (fun cdv A outer s H vs Q E hr h=>?_)
 ·exact (by obtain ⟨h,_⟩:=h;exact h)
 have TERM:∃ t',PSs (cxOf CX0 P w K mg base ["points"] "middle_of" (zab s_middle_of) t.f_middle_of cdv A outer s H E).nox (zae s_middle_of) t'∧t' ⟨fun _ H'=>Q .non H',Q,fun _ _=>False,fun _ _=>False⟩ (start ["points"] vs) H:=by
  refine ⟨_,(zad (zaj (zaH (zai (K:=K) rfl) (zah (zf3 (K:=K) rfl) (by rfl) T.z_sorted (by rfl) (zaa (pv 0) pa_nil)) zaf (fun _ _=>rfl)))),?_⟩
  obtain ⟨_,a,x,y,z,rfl,ha,q⟩:=h
  walk_at "rd"
  refine zgG ha (by simp) fun ns hp hs p H' f s e=>?_
  have hl:ns.length=3:=hp.length_eq
  walk_at "rd"
  have e1:ns.getD (Int.toNat 1) 0=mid3 x y z:=zik hp hs
  rw [e1]
  exact q _ s
 exact TERM
theorem zg5 {H:Hp} {a:Addr} {x y z:Int} {Q:VK} {E:XK} (h:SqL K H a ([x,y,z].map V.int)) (q:∀ H',Same H H'→Q (.int (mid3 x y z)) H'):zdU K [.ref a] H Q E:=⟨rfl,a,x,y,z,rfl,h,q⟩
def zhC (K:PySem.W.Frag):Sp:=fun vs H Q _=>vs.length=3∧∃ x y s:Int,vs=[.int x,.int y,.int s]∧Q (.bl (zel x y s)) H
theorem zku (T:Txt K mg t):FnOk P w K mg base CX0 1 t.f_agree t.d_agree ["one","other","step"] (zhC K):=by
 refine T.F_agree.ok sc_agree (fun vs H Q E h=>?_) (fun cdv A outer s H vs Q E hr h=>?_)
 ·exact (by obtain ⟨h,_⟩:=h;exact h)
 have TERM:∃ t',PSs (cxOf CX0 P w K mg base ["one","other","step"] "agree" (zab s_agree) t.f_agree cdv A outer s H E).nox (zae s_agree) t'∧t' ⟨fun _ H'=>Q .non H',Q,fun _ _=>False,fun _ _=>False⟩ (start ["one","other","step"] vs) H:=by
  refine ⟨_,(zad (zaj (zcx (op_le) (zah (call_abs) (by rfl) T.z_abs (by rfl) (zaa (zaw (op_sub) (pv 0) (pv 1)) pa_nil)) (pv 2) (zaJ _)))),?_⟩
  obtain ⟨_,x,y,s,rfl,q⟩:=h
  walk_at "rd"
  refine ⟨_,rfl,?_⟩
  walk_at "rd"
  have e:zel x y s=decide ((if x-y < 0 then -(x-y) else x-y)≤s):=by
   unfold zel
   rw [decide_eq_decide]
   split <;> constructor <;> intro h <;> first | omega | (constructor <;> omega)
  rw [e] at q
  exact q
 exact TERM
theorem zlU {H:Hp} {x y s:Int} {Q:VK} {E:XK} (q:Q (.bl (zel x y s)) H):zhC K [.int x,.int y,.int s] H Q E:=⟨rfl,x,y,s,rfl,q⟩
theorem zjK {x t b:Int} (h:Low x 1 t b):t=x∧b=1:=by
 have h1:=h.bl
 have h2:=h.b1
 have hb:b=1:=by omega
 have:=h.eq
 rw [hb] at this
 exact ⟨by omega,hb⟩
theorem zlV {x t b:Int} (h:Low x 2 t b):[t,b]=if x % 2=1 then [x,2] else [x / 2,1]:=by
 have h1:=h.bl
 have h2:=h.b1
 have h3:=h.eq
 have hb:b=1∨b=2:=by omega
 rcases hb with rfl | rfl
 ·rw [if_neg (by omega)]
  have:t=x / 2:=by omega
  rw [this]
 ·have ht:t=x:=by omega
  subst ht
  have hg:=h.co
  have hodd:t % 2=1:=by
   rcases Int.emod_two_eq t with e | e
   ·exfalso
    have hd:(2:Int) ∣ t:=Int.dvd_of_emod_eq_zero e
    have:(2:Nat) ∣ Int.gcd t 2:=Int.dvd_gcd hd (Int.dvd_refl 2)
    rw [hg] at this
    have:=Nat.le_of_dvd (by decide) this
    omega
   ·exact e
  rw [if_pos hodd]
def zfd (K:PySem.W.Frag):Sp:=fun vs H Q _=>vs.length=2∧∃ (a:Addr) (xs:List Int) (s:Int),vs=[.ref a,.int s]∧SqL K H a (xs.map V.int)∧(xs.length=2∨xs.length=3)∧(∀ x∈xs,0≤x∧x≤100)∧∀ p H',H p=none→Same H H'→H' p=some (.lst ((MarkB xs s).map V.int))→Q (.ref p) H'
theorem zil (T:Txt K mg t):FnOk P w K mg base CX0 3 t.f_mark_of t.d_mark_of ["points","step"] (zfd K):=by
 have G_lowest:=zjJ (P:=P) (w:=w) (base:=base) T
 have G_middle_of:=zgn (P:=P) (w:=w) (base:=base) T
 have G_agree:=zku (P:=P) (w:=w) (base:=base) T
 refine T.F_mark_of.ok sc_mark_of (fun vs H Q E h=>?_) (fun cdv A outer s H vs Q E hr h=>?_)
 ·exact (by obtain ⟨h,_⟩:=h;exact h)
 have TERM:∃ t',PSs (cxOf CX0 P w K mg base ["points","step"] "mark_of" (zab s_mark_of) t.f_mark_of cdv A outer s H E).nox (zae s_mark_of) t'∧t' ⟨fun _ H'=>Q .non H',Q,fun _ _=>False,fun _ _=>False⟩ (start ["points","step"] vs) H:=by
  refine ⟨_,(zac (zaV (zay (zdj (K:=K) rfl hr.units0) (zah (zak (K:=K) rfl) (by rfl) T.z_len (by rfl) (zaa (pv 0) pa_nil)) zaf (zaJ _))
   (zad (zaj (zao (G_lowest) (hr.mono (by decide)) (by rfl) T.m_lowest T.F_lowest.kp T.b_lowest .nil zav (zaa (zao (G_middle_of) (hr.mono (by decide)) (by rfl) T.m_middle_of T.F_middle_of.kp T.b_middle_of .nil zav (zaa (pv 0) pa_nil)) (zaa zaf pa_nil))))) pss_nil)
   (zac (zaV (zas (K:=K) rfl (zao (G_agree) (hr.mono (by decide)) (by rfl) T.m_agree T.F_agree.kp T.b_agree .nil zav (zaa (zaH (zai (K:=K) rfl) (pv 0) zaf (fun _ _=>rfl)) (zaa (zaH (zai (K:=K) rfl) (pv 0) zaf (fun _ _=>rfl)) (zaa (pv 1) pa_nil)))) (fun _=>rfl))
   (zad (zaj (zao (G_lowest) (hr.mono (by decide)) (by rfl) T.m_lowest T.F_lowest.kp T.b_lowest .nil zav (zaa (zah (zf2 (K:=K) rfl rfl) (by rfl) T.z_sum (by rfl) (zaa (pv 0) pa_nil)) (zaa zaf pa_nil))))) pss_nil)
   (zad (zaj (zao (G_lowest) (hr.mono (by decide)) (by rfl) T.m_lowest T.F_lowest.kp T.b_lowest .nil zav (zaa (zah (zji (K:=K) rfl rfl) (by rfl) T.z_min (by rfl) (zaa (pv 0) pa_nil)) (zaa zaf pa_nil))))))),?_⟩
  obtain ⟨_,a,xs,s,rfl,ha,hl,hb,q⟩:=h
  walk_at "rd"
  rcases hl with hl | hl
  ·match xs,hl with
   | [x,y],_ =>
     have hx:=hb x (by simp)
     have hy:=hb y (by simp)
     refine iteF ?_
     have l2:([x,y]:List Int).length=2:=rfl
     walk_at "rd"
     refine zlU ?_
     walk_at "rd"
     show if zel x y s=true then _ else _
     have em:MarkB [x,y] s=zj8 x y s:=rfl
     rw [em] at q
     unfold zj8 at q
     cases eg:zel x y s with
     | true =>
       rw [eg] at q
       simp only [if_true] at q ⊢
       walk_at "rd"
       refine zhn ha (fun z hz=>?_) (by simp) ?_
       ·have:=hb z hz
        omega
       walk_at "rd"
       have es:[x,y].sum=x+y:=by simp
       rw [es]
       refine zfE (by omega) (by omega) (by omega) (by omega) fun t b hL p H' f s' e=>?_
       rw [zlV hL] at e
       exact q p H' f s' e
     | false =>
       rw [eg] at q
       simp only [Bool.false_eq_true,if_false] at q ⊢
       walk_at "rd"
       refine zjl ha (by simp) fun m hm hle=>?_
       have em:m=min2 x y:=by
        have h1:=hle x (by simp)
        have h2:=hle y (by simp)
        have h3:m=x∨m=y:=by simpa using hm
        unfold min2
        split <;> omega
       have hmb:=hb m hm
       walk_at "rd"
       refine zfE (by omega) (by omega) (by omega) (by omega) fun t b hL p H' f s' e=>?_
       obtain ⟨rfl,rfl⟩:=zjK hL
       rw [em] at e
       exact q p H' f s' e
  ·match xs,hl with
   | [x,y,z],_ =>
     have hx:=hb x (by simp)
     have hy:=hb y (by simp)
     have hz:=hb z (by simp)
     refine iteT ?_
     walk_at "rd"
     refine zg5 ha fun H1 s1=>?_
     have hm:0≤mid3 x y z∧mid3 x y z≤100:=by rcases zj9 x y z with e | e | e <;> rw [e] <;> assumption
     walk_at "rd"
     refine zfE (by omega) (by omega) (by omega) (by omega) fun t b hL p H' f s' e=>?_
     obtain ⟨rfl,rfl⟩:=zjK hL
     exact q p H' (s1.free f) (s1.trans s') e
 exact TERM
theorem zjL {H:Hp} {a:Addr} {xs:List Int} {s:Int} {Q:VK} {E:XK} (h1:SqL K H a (xs.map V.int)) (h2:xs.length=2∨xs.length=3) (h3:∀ x∈xs,0≤x∧x≤100) (q:∀ p H',H p=none→Same H H'→H' p=some (.lst ((MarkB xs s).map V.int))→Q (.ref p) H'):zfd K [.ref a,.int s] H Q E:=⟨rfl,a,xs,s,rfl,h1,h2,h3,q⟩
def zbD (K:PySem.W.Frag) (C:Addr):Sp:=fun vs H Q _=>vs.length=2∧∃ (x:Addr) (F:Addr→Prop) (st:ExS) (k:Int),vs=[.ref x,.int k]∧ExAt C H x F st∧InB st.hs st.rs∧1≤k∧k≤st.nm.length∧(∀ v H',Same H H'→zeo H v (zb9 st.nm st.en st.step (k-1).toNat) H'→Q v H')
theorem zd1 (T:Txt K mg t):FnOk P w K mg base CX0 4 t.f_Exam_mark_for t.d_Exam_mark_for ["self","paper"] (zbD K t.C_Exam):=by
 have G_Exam_due_readers:=zbR (P:=P) (w:=w) (base:=base) T
 have G_Exam_points_for:=zdt (P:=P) (w:=w) (base:=base) T
 have G_mark_of:=zil (P:=P) (w:=w) (base:=base) T
 refine T.F_Exam_mark_for.ok sc_Exam_mark_for (fun vs H Q E h=>?_) (fun cdv A outer s H vs Q E hr h=>?_)
 ·exact (by obtain ⟨h,_⟩:=h;exact h)
 have TERM:∃ t',PSs (cxOf CX0 P w K mg base ["self","paper","points","readings"] "Exam.mark_for" (zab s_Exam_mark_for) t.f_Exam_mark_for cdv A outer s H E).nox (zae s_Exam_mark_for) t'∧t' ⟨fun _ H'=>Q .non H',Q,fun _ _=>False,fun _ _=>False⟩ (start ["self","paper","points","readings"] vs) H:=by
  refine ⟨_,(zac (zaV (zay (op_gt) (zah (zak (K:=K) rfl) (by rfl) T.z_len (by rfl) (zaa (zbH (pv 0) T.cl_Exam T.me_Exam_due_readers (G_Exam_due_readers) (hr.mono (by first | decide | exact Nat.le_refl _)) T.b_Exam_due_readers .nil zav (zaa (pv 1) pa_nil)) pa_nil)) zaf (zaJ _))
   (zad (zaj zcv)) pss_nil)
   (zac (zaF (i:=2) sc_Exam_mark_for.nd rfl (by first | exact Or.inl rfl | exact Or.inr rfl) (zbH (pv 0) T.cl_Exam T.me_Exam_points_for (G_Exam_points_for) (hr.mono (by first | decide | exact Nat.le_refl _)) T.b_Exam_points_for .nil zav (zaa (pv 1) pa_nil)))
   (zac (zdw (i:=3) sc_Exam_mark_for.nd rfl (Or.inl rfl) (by rfl) (zap (sc:=zab s_Exam_mark_for) (XN:=["self","paper","points","readings"]) (N:=["reader","given"]) (own:=2) (js:=[]) rfl rfl (by decide +kernel)) rfl (zi2 (K:=K) rfl (by rfl) T.z_zip (zaa (zaH (zai (K:=K) rfl) (zaz (K:=K) rfl (pv 0)) (zaw (op_sub) (pv 1) zaf) (fun _ _=>rfl)) (zaa (pv 2) pa_nil))) (fun _ _ _ _ _=>(zfo (K:=K) (n:=2) rfl rfl (zbU (zaq (i:=0) (show List.Nodup [(Str.ofString "reader"),(Str.ofString "given")] by decide +kernel) rfl (by first | exact Or.inl rfl | exact Or.inr rfl)) (zbU (zaq (i:=1) (show List.Nodup [(Str.ofString "reader"),(Str.ofString "given")] by decide +kernel) rfl (by first | exact Or.inl rfl | exact Or.inr rfl)) pgs_nil)))) (fun _ _ _ _ _=>za9) (fun _ _ _ _ _=>(zaP (zaa (pv 0) (zaa (pv 1) pa_nil)))))
   (zad (zaj (zaw (op_addG) (zao (G_mark_of) (hr.mono (by decide)) (by rfl) T.m_mark_of T.F_mark_of.kp T.b_mark_of .nil zav (zaa (pv 2) (zaa (zaz (K:=K) rfl (pv 0)) pa_nil))) (zaP (zaa (pv 3) pa_nil)))))))),?_⟩
  obtain ⟨_,x,F,st,k,rfl,E0,BB,k1,k2,q⟩:=h
  have B1:=BB.lp
  have B2:=BB.lr
  have E0':=E0
  obtain ⟨e,kvs,rfl,hF,I⟩:=E0
  have hcl:=T.cl_Exam
  have nA:=T.n_Exam_paper_houses
  have nB:=T.n_Exam_reader_rows
  have nS:=T.n_Exam_widest_step
  have nD:=T.n_Exam_is_dealt
  have nC:=T.n_Exam_named_readers
  have nE:=T.n_Exam_entered_points
  have hob:=I.ob
  have fA:=@exFs_a (.ref e.a) (.ref e.b) (.int st.step) (.bl st.dl.isSome) (.ref e.c) (.ref e.d)
  have fB:=@exFs_b (.ref e.a) (.ref e.b) (.int st.step) (.bl st.dl.isSome) (.ref e.c) (.ref e.d)
  have fS:=@exFs_s (.ref e.a) (.ref e.b) (.int st.step) (.bl st.dl.isSome) (.ref e.c) (.ref e.d)
  have fD:=@exFs_d (.ref e.a) (.ref e.b) (.int st.step) (.bl st.dl.isSome) (.ref e.c) (.ref e.d)
  have fC:=@exFs_c (.ref e.a) (.ref e.b) (.int st.step) (.bl st.dl.isSome) (.ref e.c) (.ref e.d)
  have fE:=@exFs_e (.ref e.a) (.ref e.b) (.int st.step) (.bl st.dl.isSome) (.ref e.c) (.ref e.d)
  have hha:=I.ha
  have hhb:=I.hb
  have hhc:=I.hc
  have hhd:=I.hd
  have lq:=I.lq
  have ld:=I.ld
  have l10:=I.wf.n10 BB
  have hk:(k-1).toNat < st.nm.length:=by omega
  have hdic:=I.rd _ hk
  have hrow:=I.rq _ hk
  have hvk:=I.vk _ hk
  have hlr:=(I.wf.row _ hk).len
  have hpl:=zlQ st.nm st.en (k-1).toNat
  walk_at "rd"
  refine zb2 E0' BB k1 k2 (fun Q z=>zfm (i:=1) rfl z) fun p1 H1 f1 s1 e1=>?_
  walk_at "rd"
  refine zct (fun h0=>?_) (fun h0=>?_)
  ·walk_at "rd"
   refine q .non H1 s1 ?_
   have hm:zb9 st.nm st.en st.step (k-1).toNat=none:=by
    unfold zb9
    rw [if_neg (fun z=>by rw [z] at h0;exact absurd h0 (by simp))]
   rw [hm]
   rfl
  ·have hw:zbc st.nm st.en (k-1).toNat=[]:=List.eq_nil_of_length_eq_zero (by omega)
   have hm:zb9 st.nm st.en st.step (k-1).toNat=some ((MarkB (ptsOf st.nm st.en (k-1).toNat) st.step).getD 0 0,(MarkB (ptsOf st.nm st.en (k-1).toNat) st.step).getD 1 0,((st.nm.getD (k-1).toNat []).zip (ptsOf st.nm st.en (k-1).toNat)).map fun p=>[p.1,p.2]):=by
    unfold zb9
    rw [if_pos hw]
   rw [hm] at q
   have E1:=E0'.same s1
   walk_at "rd"
   refine zdJ E1 BB k1 k2 hw (fun Q z=>zfm (i:=1) rfl z) fun p2 H2 f2 s2 e2=>?_
   have s02:=s1.trans s2
   have hob:=s02 _ _ hob
   have hhc:=s02 _ _ hhc
   have hrow:=s02 _ _ hrow
   walk_at "rd"
   refine zi3 (SqL.of hrow) (SqL.of e2) ?_
   refine zby (zbK.zip (SqL.of hrow) (SqL.of e2) (by rw [List.length_map,List.length_map,hpl])) (by rw [List.length_map];omega) (fun i=>[(st.nm.getD (k-1).toNat []).getD i 0,(ptsOf st.nm st.en (k-1).toNat).getD i 0]) (fun i H' Q' hi s q'=>?_) fun p3 H3 R3=>?_
   ·rw [List.length_map] at hi
    have ex:((st.nm.getD (k-1).toNat []).map V.int).getD i .non=.int ((st.nm.getD (k-1).toNat []).getD i 0):=zcF hi
    have ey:((ptsOf st.nm st.en (k-1).toNat).map V.int).getD i .non=.int ((ptsOf st.nm st.en (k-1).toNat).getD i 0):=zcF (by omega)
    rw [ex,ey]
    show (_:TE) (some (.int _)::some (.int _)::_) _ _
    walk_at "rd"
    refine zax (by simp) fun p4 H4 f4 s4 e4=>?_
    exact q' p4 H4 f4 s4 e4
   ·have er:(List.range ((st.nm.getD (k-1).toNat []).map V.int).length).map (fun i=>[(st.nm.getD (k-1).toNat []).getD i 0,(ptsOf st.nm st.en (k-1).toNat).getD i 0])=((st.nm.getD (k-1).toNat []).zip (ptsOf st.nm st.en (k-1).toNat)).map fun p=>[p.1,p.2]:=by
     rw [List.length_map]
     exact zjB hpl
    rw [er] at R3
    have s03:=s02.trans R3.same
    have hob:=R3.same _ _ hob
    walk_at "rd"
    refine zjL (SqL.of (R3.same _ _ e2)) (by rw [hpl];exact hlr) (fun x hx=>I.wf.ptsOf hx) fun p4 H4 f4 s4 e4=>?_
    have s04:=s03.trans s4
    walk_at "rd"
    refine zax (by simp) fun p5 H5 f5 s5 e5=>?_
    walk_at "rd"
    obtain ⟨sR,nR,psr,r1,r2,_,r3⟩:=R3
    have ml:MarkB (ptsOf st.nm st.en (k-1).toNat) st.step=[(MarkB (ptsOf st.nm st.en (k-1).toNat) st.step).getD 0 0,(MarkB (ptsOf st.nm st.en (k-1).toNat) st.step).getD 1 0]:=by
     unfold MarkB zj8
     split
     ·split
      ·split <;> rfl
      ·rfl
     ·rfl
    rw [ml] at e4
    refine zfn (s5 _ _ e4) e5 (by simp) fun p6 H6 f6 s6 e6=>?_
    have s46:=s5.trans s6
    have s36:=s4.trans s46
    refine q _ H6 (s03.trans s36) ⟨p6,p3,psr,rfl,(s04.trans s5).free f6,s02.free nR,e6,s36 _ _ r1,r2,fun j hj=>⟨s02.free (r3 j hj).2.1,s36 _ _ (r3 j hj).1⟩⟩
 exact TERM
theorem zeL {K:PySem.W.Frag} {C x:Addr} {H:Hp} {F:Addr→Prop} {st:ExS} {k:Int} {Q:VK} {E:XK} (h:ExAt C H x F st) (B:InB st.hs st.rs) (k1:1≤k) (k2:k≤st.nm.length) (q:(∀ v H',Same H H'→zeo H v (zb9 st.nm st.en st.step (k-1).toNat) H'→Q v H')):zbD K C [.ref x,.int k] H Q E:=⟨rfl,x,F,st,k,rfl,h,B,k1,k2,q⟩
theorem zeM {K:PySem.W.Frag} {C x:Addr} {H:Hp} {F:Addr→Prop} {st:ExS} {k:Int} {Q:VK} {E:XK} {σ:L2.St} {tk:TE} (h:ExAt C H x F st) (B:InB st.hs st.rs) (k1:1≤k) (k2:k≤st.nm.length) (hk:∀ Q:VK,Q (.int k) H→tk σ H Q) (q:(∀ v H',Same H H'→zeo H v (zb9 st.nm st.en st.step (k-1).toNat) H'→Q v H')):za3 C "mark_for" (zbD K C) E (zfh tk tNil) σ (.ref x) H Q:=by
 obtain ⟨dx,fs,e,l⟩:=h.ob
 exact zaG e (l _ (by decide +kernel)) (ze3 (hk _ (zcN (zeL h B k1 k2  q))))
def zck (K:PySem.W.Frag) (C:Addr):Sp:=fun vs H Q _=>vs.length=1∧∃ (x:Addr) (F:Addr→Prop) (st:ExS),vs=[.ref x]∧ExAt C H x F st∧InB st.hs st.rs∧(∀ p H',zfu H p (zdh st) H'→Q (.ref p) H')
theorem zfF (T:Txt K mg t):FnOk P w K mg base CX0 5 t.f_Exam_marks t.d_Exam_marks ["self"] (zck K t.C_Exam):=by
 have G_Exam_mark_for:=zd1 (P:=P) (w:=w) (base:=base) T
 refine T.F_Exam_marks.ok sc_Exam_marks (fun vs H Q E h=>?_) (fun cdv A outer s H vs Q E hr h=>?_)
 ·exact (by obtain ⟨h,_⟩:=h;exact h)
 have TERM:∃ t',PSs (cxOf CX0 P w K mg base ["self"] "Exam.marks" (zab s_Exam_marks) t.f_Exam_marks cdv A outer s H E).nox (zae s_Exam_marks) t'∧t' ⟨fun _ H'=>Q .non H',Q,fun _ _=>False,fun _ _=>False⟩ (start ["self"] vs) H:=by
  refine ⟨_,(zac (zaV (zba (zas (K:=K) rfl (zaz (K:=K) rfl (pv 0)) (fun _=>rfl)))
   (zad (zaj (zaW (zap (sc:=zab s_Exam_marks) (XN:=["self"]) (N:=["house"]) (own:=1) (js:=[]) rfl rfl (by decide +kernel)) rfl (zaE (K:=K) rfl (zaz (K:=K) rfl (pv 0))) (fun _ _ _ _ _=>(zaq (i:=0) (show List.Nodup [(Str.ofString "house")] by decide +kernel) rfl (by first | exact Or.inl rfl | exact Or.inr rfl))) (fun _ _ _ _ _=>za9) (fun _ _ _ _ _=>zcv)))) pss_nil)
   (zad (zaj (zaW (zap (sc:=zab s_Exam_marks) (XN:=["self"]) (N:=["paper","self"]) (own:=1) (js:=[0]) rfl rfl (by decide +kernel)) rfl (zbl (by rfl) T.z_range (zaa zaf (zaa (zaw (op_addG) (zah (zak (K:=K) rfl) (by rfl) T.z_len (by rfl) (zaa (zaz (K:=K) rfl (pv 0)) pa_nil)) zaf) pa_nil))) (fun _ _ _ _ _=>(zaq (i:=0) (show List.Nodup [(Str.ofString "paper"),(Str.ofString "self")] by decide +kernel) rfl (by first | exact Or.inl rfl | exact Or.inr rfl))) (fun _ _ _ _ _=>za9) (fun _ _ _ _ _=>(zbH (pv 1) T.cl_Exam T.me_Exam_mark_for (G_Exam_mark_for) (hr.mono (by first | decide | exact Nat.le_refl _)) T.b_Exam_mark_for .nil zav (zaa (pv 0) pa_nil))))))),?_⟩
  obtain ⟨_,x,F,st,rfl,E0,BB,q⟩:=h
  have B1:=BB.lp
  have B2:=BB.lr
  have E0':=E0
  obtain ⟨e,kvs,rfl,hF,I⟩:=E0
  have hcl:=T.cl_Exam
  have nA:=T.n_Exam_paper_houses
  have nB:=T.n_Exam_reader_rows
  have nS:=T.n_Exam_widest_step
  have nD:=T.n_Exam_is_dealt
  have nC:=T.n_Exam_named_readers
  have nE:=T.n_Exam_entered_points
  have hob:=I.ob
  have fA:=@exFs_a (.ref e.a) (.ref e.b) (.int st.step) (.bl st.dl.isSome) (.ref e.c) (.ref e.d)
  have fB:=@exFs_b (.ref e.a) (.ref e.b) (.int st.step) (.bl st.dl.isSome) (.ref e.c) (.ref e.d)
  have fS:=@exFs_s (.ref e.a) (.ref e.b) (.int st.step) (.bl st.dl.isSome) (.ref e.c) (.ref e.d)
  have fD:=@exFs_d (.ref e.a) (.ref e.b) (.int st.step) (.bl st.dl.isSome) (.ref e.c) (.ref e.d)
  have fC:=@exFs_c (.ref e.a) (.ref e.b) (.int st.step) (.bl st.dl.isSome) (.ref e.c) (.ref e.d)
  have fE:=@exFs_e (.ref e.a) (.ref e.b) (.int st.step) (.bl st.dl.isSome) (.ref e.c) (.ref e.d)
  have hha:=I.ha
  have hhb:=I.hb
  have hhc:=I.hc
  have hhd:=I.hd
  have l10:=I.wf.n10 BB
  walk_at "rd"
  cases hdl:st.dl with
  | none =>
    refine iteT ?_
    rw [hdl] at hob
    have fA:=@exFs_a (.ref e.a) (.ref e.b) (.int st.step) (.bl (none:Option (List (List Int)×List (List Int))).isSome) (.ref e.c) (.ref e.d)
    walk_at "rd"
    refine zaO (SqL.of hha) ?_
    refine zcA (za6 (SqL.of hha)) (za0 (by rw [List.length_map];omega)) (fun _=>true) (fun _=>.non) (fun i H' Q' hi s q'=>q') (fun i H' Q' hi s _ q'=>q') fun p hp=>?_
    have em:zdh st=(List.range st.hs.length).map fun _=>none:=by unfold zdh;rw [hdl]
    rw [List.filter_eq_self.mpr (fun _ _=>rfl),List.length_map]
    refine q p _ ⟨zaQ hp,hp,_,zar,by rw [em];simp,fun i hi=>?_⟩
    rw [em] at hi ⊢
    rw [List.length_map,List.length_range] at hi
    rw [zau hi,zau hi]
    rfl
  | some d =>
    obtain ⟨nm,en⟩:=d
    refine iteF ?_
    have hln:=I.wf.ln (by rw [hdl];rfl)
    rw [hdl] at hob
    have fA:=@exFs_a (.ref e.a) (.ref e.b) (.int st.step) (.bl (some (nm,en)).isSome) (.ref e.c) (.ref e.d)
    have enm:st.nm=nm:=by unfold ExS.nm;rw [hdl];rfl
    have een:st.en=en:=by unfold ExS.en;rw [hdl];rfl
    walk_at "rd"
    refine zde ⟨by omega,by omega,by omega,by omega⟩ ?_
    have en':((st.hs.length:Int)+1-1).toNat=st.hs.length:=by omega
    rw [en']
    refine zbu (zhx (zbK.one (zbG 1 st.hs.length H)) (by omega) (fun p i v H2=>zc3 H p v (zb9 nm en st.step i) H2) (fun _ _=>True) (fun p i v H1 H2 h k=>h.keep k) (fun p ys i H' Q' hi hp s hpp hl hR q'=>?_) fun p vs H2 hp s hpp hl hR _=>?_)
    ·have E':=E0'.same s
     show (_:TE) (some (.int (1+(i:Int)))::_) _ _
     walk_at "rd"
     refine zeM E' BB (k:=1+(i:Int)) (by omega) (by omega) (fun Q z=>zfm (i:=0) rfl z) fun v H2 s2 M=>?_
     have ek:(1+(i:Int)-1).toNat=i:=by omega
     rw [ek,enm,een] at M
     exact q' v H2 s2 (M.new s hpp) trivial
    ·refine q p H2 ⟨s,hp,vs,hpp,?_,fun i hi=>?_⟩
     ·unfold zdh;rw [hdl];simpa using hl
     ·have em:zdh st=(List.range st.hs.length).map (zb9 nm en st.step):=by unfold zdh;rw [hdl]
      rw [em] at hi ⊢
      rw [List.length_map,List.length_range] at hi
      rw [zau hi]
      exact (hR i hi).is
 exact TERM
theorem zgo {K:PySem.W.Frag} {C x:Addr} {H:Hp} {F:Addr→Prop} {st:ExS} {Q:VK} {E:XK} (h:ExAt C H x F st) (B:InB st.hs st.rs) (q:(∀ p H',zfu H p (zdh st) H'→Q (.ref p) H')):zck K C [.ref x] H Q E:=⟨rfl,x,F,st,rfl,h,B,q⟩
theorem zgp {K:PySem.W.Frag} {C x:Addr} {H:Hp} {F:Addr→Prop} {st:ExS} {Q:VK} {E:XK} {σ:L2.St} (h:ExAt C H x F st) (B:InB st.hs st.rs) (q:(∀ p H',zfu H p (zdh st) H'→Q (.ref p) H')):za3 C "marks" (zck K C) E tNil σ (.ref x) H Q:=by
 obtain ⟨dx,fs,e,l⟩:=h.ob
 exact zaG e (l _ (by decide +kernel)) (zcN (zgo h B q))
def zdV (K:PySem.W.Frag):Sp:=fun vs H Q _=>vs.length=2∧∃ (a b:Addr) (rs nm:List (List Int)),vs=[.ref a,.ref b]∧LL K H a rs∧LL K H b nm∧rs.length≤8∧nm.length≤20∧(∀ i,i < rs.length→(rs.getD i []).length=2)∧∀ p H',H p=none→Same H H'→H' p=some (.lst ((zbC rs nm).map V.int))→Q (.ref p) H'
theorem zgq (T:Txt K mg t):FnOk P w K mg base CX0 1 t.f_law_spare t.d_law_spare ["_law_staff","_law_names"] (zdV K):=by
 refine T.F_law_spare.ok sc_law_spare (fun vs H Q E h=>?_) (fun cdv A outer s H vs Q E hr h=>?_)
 ·exact (by obtain ⟨h,_⟩:=h;exact h)
 have TERM:∃ t',PSs (cxOf CX0 P w K mg base ["_law_staff","_law_names","_law_left","_law_k"] "_law_spare" (zab s_law_spare) t.f_law_spare cdv A outer s H E).nox (zae s_law_spare) t'∧t' ⟨fun _ H'=>Q .non H',Q,fun _ _=>False,fun _ _=>False⟩ (start ["_law_staff","_law_names","_law_left","_law_k"] vs) H:=by
  refine ⟨_,(zac (zaF (i:=2) sc_law_spare.nd rfl (by first | exact Or.inl rfl | exact Or.inr rfl) (zaP pa_nil))
   (zac (za2 PassesOwn.never rfl (za5 (by rfl) T.z_range (zaa (zah (zak (K:=K) rfl) (by rfl) T.z_len (by rfl) (zaa (pv 0) pa_nil)) pa_nil)) (zaq (i:=3) sc_law_spare.nd rfl (by first | exact Or.inl rfl | exact Or.inr rfl))
   (zad (zaM (zbW (K:=K) rfl PySem.F.plainAttrs_list PySem.F.slot_list_append PySem.F.type_list_append mt_append (pv 2) (zaa (zaw (op_sub) (zaH (zai (K:=K) rfl) (zaH (zai (K:=K) rfl) (pv 0) (pv 3) (fun _ _=>rfl)) zaf (fun _ _=>rfl)) (zah (zak (K:=K) rfl) (by rfl) T.z_len (by rfl) (zaa (zaW (zap (sc:=zab s_law_spare) (XN:=["_law_staff","_law_names","_law_left","_law_k"]) (N:=["_law_row_here","_law_k"]) (own:=1) (js:=[3]) rfl rfl (by decide +kernel)) rfl (zaE (K:=K) rfl (pv 1)) (fun _ _ _ _ _=>(zaq (i:=0) (show List.Nodup [(Str.ofString "_law_row_here"),(Str.ofString "_law_k")] by decide +kernel) rfl (by first | exact Or.inl rfl | exact Or.inr rfl))) (fun _ _ _ _ _=>(zcy (zay (ze7 (K:=K) rfl (zeN hr)) (zaw (op_addG) (pv 1) zaf) (pv 0) (by with_unfolding_all rfl)))) (fun _ _ _ _ _=>(pv 0))) pa_nil))) pa_nil)))))
   (zad (zaj (pv 2))))),?_⟩
  obtain ⟨_,a,b,rs,nm,rfl,L1,L2,l1,l2,r2,q⟩:=h
  obtain ⟨ps,ha,hpl,hpr⟩:=id L1
  walk_at "rd"
  refine zax (by decide) fun p1 H1 f1 s1 e1=>?_
  have ha1:=s1.seq ha
  walk_at "rd"
  refine zcl (by omega) (by omega) ?_
  have en:((ps.length:Int)).toNat=rs.length:=by omega
  rw [en]
  have hll:(zbC rs nm).length=rs.length:=by unfold zbC;rw [List.length_map,List.length_range]
  refine zbI (fun i σ H'=>(∃ v,σ=[some (.ref a),some (.ref b),some (.ref p1),v])∧Same H H'∧H' p1=some (.lst (((zbC rs nm).take i).map V.int))) ⟨⟨none,rfl⟩,s1,e1⟩ ?_ ?_
  ·rintro i σ H' hi ⟨⟨v,rfl⟩,s,ep⟩
   have ei:((0+(i:Int))).toNat=i:=by omega
   have hrow:=s _ _ (hpr i hi)
   have h2:=r2 i hi
   obtain ⟨pn,hn,ln,rn⟩:=id (L2.same s)
   have has:=s.seq ha
   walk_at "rd"
   rw [ei]
   walk_at "rd"
   refine zaO hn ?_
   refine zd5 hn ln (by omega) (x:=(i:Int)+1) (fun j H2 Q' hj s2 q'=>?_) fun p2 H2 zs f2 s2 e2 ez=>?_
   ·have hrow2:=s2 _ _ (rn j hj)
    have e0:(0:Int)+(i:Int)+1=(i:Int)+1:=by omega
    walk_at "rd"
    rw [e0]
    exact q'
   have ep2:=s2 _ _ ep
   walk_at "rd"
   refine zaT ep2 (by rw [List.length_map,List.length_take];omega) fun H3 b3 e3=>?_
   walk_at "rd"
   refine ⟨⟨_,rfl⟩,(s.trans s2).but b3 f1,?_⟩
   rw [e3,List.take_add_one,List.getElem?_eq_getElem (by omega),List.map_append,ez]
   have eg:(zbC rs nm)[i]'(by omega)=(rs.getD i []).getD 1 0-(cntB nm ((i:Int)+1):Int):=by
    have:=zfr (rs:=rs) (rows:=nm) hi
    rw [List.getD_eq_getElem?_getD,List.getElem?_eq_getElem (by omega)] at this
    exact this
   rw [eg]
   rfl
  ·rintro σ H' ⟨⟨v,rfl⟩,s,ep⟩
   rw [← hll,List.take_length] at ep
   walk_at "rd"
   exact q _ _ f1 s ep
 exact TERM
theorem zg6 {H:Hp} {a b:Addr} {rs nm:List (List Int)} {Q:VK} {E:XK} (h1:LL K H a rs) (h2:LL K H b nm) (l1:rs.length≤8) (l2:nm.length≤20) (r2:∀ i,i < rs.length→(rs.getD i []).length=2) (q:∀ p H',H p=none→Same H H'→H' p=some (.lst ((zbC rs nm).map V.int))→Q (.ref p) H'):zdV K [.ref a,.ref b] H Q E:=⟨rfl,a,b,rs,nm,rfl,h1,h2,l1,l2,r2,q⟩
def zcK (K:PySem.W.Frag) (C:Addr):Sp:=fun vs H Q _=>vs.length=1∧∃ (x:Addr) (F:Addr→Prop) (st:ExS),vs=[.ref x]∧ExAt C H x F st∧InB st.hs st.rs∧(∀ p H',H p=none→Same H H'→H' p=some (.lst ((zkl st).map V.int))→Q (.ref p) H')
theorem zgr (T:Txt K mg t):FnOk P w K mg base CX0 3 t.f_Exam_left t.d_Exam_left ["self"] (zcK K t.C_Exam):=by
 have G_left_after:=zch (P:=P) (w:=w) (base:=base) T
 refine T.F_Exam_left.ok sc_Exam_left (fun vs H Q E h=>?_) (fun cdv A outer s H vs Q E hr h=>?_)
 ·exact (by obtain ⟨h,_⟩:=h;exact h)
 have TERM:∃ t',PSs (cxOf CX0 P w K mg base ["self"] "Exam.left" (zab s_Exam_left) t.f_Exam_left cdv A outer s H E).nox (zae s_Exam_left) t'∧t' ⟨fun _ H'=>Q .non H',Q,fun _ _=>False,fun _ _=>False⟩ (start ["self"] vs) H:=by
  refine ⟨_,(zad (zaj (zao (G_left_after) (hr.mono (by decide)) (by rfl) T.m_left_after T.F_left_after.kp T.b_left_after .nil zav (zaa (zaz (K:=K) rfl (pv 0)) (zaa (zaz (K:=K) rfl (pv 0)) pa_nil))))),?_⟩
  obtain ⟨_,x,F,st,rfl,E0,BB,q⟩:=h
  have B1:=BB.lp
  have B2:=BB.lr
  obtain ⟨e,kvs,rfl,hF,I⟩:=E0
  have hcl:=T.cl_Exam
  have nA:=T.n_Exam_paper_houses
  have nB:=T.n_Exam_reader_rows
  have nS:=T.n_Exam_widest_step
  have nD:=T.n_Exam_is_dealt
  have nC:=T.n_Exam_named_readers
  have nE:=T.n_Exam_entered_points
  have hob:=I.ob
  have fA:=@exFs_a (.ref e.a) (.ref e.b) (.int st.step) (.bl st.dl.isSome) (.ref e.c) (.ref e.d)
  have fB:=@exFs_b (.ref e.a) (.ref e.b) (.int st.step) (.bl st.dl.isSome) (.ref e.c) (.ref e.d)
  have fS:=@exFs_s (.ref e.a) (.ref e.b) (.int st.step) (.bl st.dl.isSome) (.ref e.c) (.ref e.d)
  have fD:=@exFs_d (.ref e.a) (.ref e.b) (.int st.step) (.bl st.dl.isSome) (.ref e.c) (.ref e.d)
  have fC:=@exFs_c (.ref e.a) (.ref e.b) (.int st.step) (.bl st.dl.isSome) (.ref e.c) (.ref e.d)
  have fE:=@exFs_e (.ref e.a) (.ref e.b) (.int st.step) (.bl st.dl.isSome) (.ref e.c) (.ref e.d)
  have hha:=I.ha
  have hhb:=I.hb
  have hhc:=I.hc
  have hhd:=I.hd
  have L:LL K H e.b st.rs:=⟨e.ps,SqL.of hhb,I.lp,I.rp⟩
  have M:LL K H e.c st.nm:=⟨e.qs,SqL.of hhc,I.lq,I.rq⟩
  walk_at "rd"
  refine zci L M (by omega) (by have:=I.wf.n10 BB;omega) BB.r2 fun p H2 f s z=>?_
  exact q p H2 f s z
 exact TERM
theorem zg7 {K:PySem.W.Frag} {C x:Addr} {H:Hp} {F:Addr→Prop} {st:ExS} {Q:VK} {E:XK} (h:ExAt C H x F st) (B:InB st.hs st.rs) (q:(∀ p H',H p=none→Same H H'→H' p=some (.lst ((zkl st).map V.int))→Q (.ref p) H')):zcK K C [.ref x] H Q E:=⟨rfl,x,F,st,rfl,h,B,q⟩
theorem zg8 {K:PySem.W.Frag} {C x:Addr} {H:Hp} {F:Addr→Prop} {st:ExS} {Q:VK} {E:XK} {σ:L2.St} (h:ExAt C H x F st) (B:InB st.hs st.rs) (q:(∀ p H',H p=none→Same H H'→H' p=some (.lst ((zkl st).map V.int))→Q (.ref p) H')):za3 C "left" (zcK K C) E tNil σ (.ref x) H Q:=by
 obtain ⟨dx,fs,e,l⟩:=h.ob
 exact zaG e (l _ (by decide +kernel)) (zcN (zg7 h B q))
end
end Prf
open PySem PySem.Spec PyProof.Rows L2
local macro_rules | `(tactic| walk_at "ne")=>`(tactic| first | assumption | (exact Ne.symm (by assumption)) | (exact zag (by assumption) (by assumption)) | (exact Ne.symm (zag (by assumption) (by assumption))))
local macro_rules | `(tactic| walk_at "hp")=>`(tactic| first | assumption | (exact zar) | (exact SqL.of zar) | (exact SqL.of (by assumption)) | (exact Eq.trans (zaD (by walk_at "ne")) (by walk_at "hp")) | (exact SqL.of (Eq.trans (zaD (by walk_at "ne")) (by walk_at "hp"))))
local macro_rules | `(tactic| walk_at "ty")=>`(tactic| first | (exact TyOf.int _) | (exact TyOf.bl _) | (exact TyOf.non) | (exact TyOf.str _) | (exact TyOf.lst (by walk_at "hp")))
local macro_rules | `(tactic| walk_at "ix")=>`(tactic| first | (exact zcM (by omega) (by omega)) | (exact zhf (by omega) (by omega)) | (exact rfl))
local macro_rules | `(tactic| walk_at "rd1")=>`(tactic| first
 | (with_reducible refine zhN ?_) | (with_reducible refine zms ?_) | (with_reducible refine zmt ?_) | (with_reducible refine zmr ?_) | (with_reducible refine zkG ?_) | (with_reducible refine zkH ?_) | (with_reducible refine r_break ?_) | (with_reducible refine ziU ?_)
 | (with_reducible refine r_op ?_) | ((with_reducible refine' zfm ?rv ?_);(case rv=>exact rfl)) | (with_reducible refine r_c ?_)
 | (with_reducible refine r_I0 ?_) | (with_reducible refine zkM ?_) | (with_reducible refine zk4 ?_) | (with_reducible refine zk5 ?_) | (with_reducible refine zk6 ?_) | (with_reducible refine r_ne2B ?_) | (with_reducible refine r_eqGI ?_) | (with_reducible refine ziX ?_) | (with_reducible refine r_eqGB ?_) | (with_reducible refine r_neGB ?_)
 | (with_reducible refine r_cb ?_) | (with_reducible refine ze3 ?_) | (with_reducible refine zcN ?_) | (with_reducible refine zkB ?_) | (with_reducible refine zmo ?_) | (with_reducible refine r_bm ?_)
 | (with_reducible refine zkC ?_) | (with_reducible refine r_orV ?_) | (with_reducible refine zkD ?_) | (with_reducible refine zkE ?_) | (with_reducible refine zkF ?_) | (with_reducible refine r_tB ?_)
 | (with_reducible refine zmp ?_) | (with_reducible refine r_or ?_) | (with_reducible refine zmq ?_) | (with_reducible refine r_if ?_) | (with_reducible refine r_tt ?_) | (with_reducible refine ziV ?_) | (with_reducible refine ziW ?_)
 | ((with_reducible refine' zk7 ?h1 ?_);(case h1=>walk_at "hp")) | ((with_reducible refine' r_notIn2I ?h1 ?_);(case h1=>walk_at "hp")) | (with_reducible refine r_forZ ?_)
 | (with_reducible refine zmD ?_) | (with_reducible refine zkV ?_)
 | (with_reducible refine zkP ?_) | (with_reducible refine zkQ ?_) | ((with_reducible refine' zkR ?h1 ?h2 ?_);(case h1=>omega);(case h2=>omega)) | ((with_reducible refine' r_pow ?h1 ?_);(case h1=>exact ⟨by decide,by decide,by decide⟩))
 | ((with_reducible refine' zkU ?h1 ?_);(case h1=>first | (exact .inl (.inr ⟨by decide,by decide⟩)) | (exact .inl (.inl ⟨by omega,by omega⟩)) | (exact .inl (.inr ⟨by omega,by omega⟩)) | (exact .inr ⟨⟨by omega,by omega⟩,by omega,by omega⟩)))
 | (with_reducible refine r_lr ?_) | (with_reducible refine r_sl ?_) | (with_reducible refine zi5 ?_) | (with_reducible refine zkS ?_) | (with_reducible refine zi6 ?_) | (with_reducible refine zhh ?_) | (with_reducible refine zkT ?_)
 | (with_reducible refine zkO ?_) | ((with_reducible refine' zhg ?h1 ?_);(case h1=>walk_at "hp"))
 | (with_reducible refine r_for3 ?_) | (with_reducible refine r_tun ?_) | (with_reducible refine r_un ?_)
 | (with_reducible refine zkI ?_) | (with_reducible refine zkJ ?_) | (with_reducible refine zkN ?_) | (with_reducible refine ziZ ?_) | (with_reducible refine zi0 ?_) | (with_reducible refine zi1 ?_) | (with_reducible refine zkW ?_) | (with_reducible refine zjp ?_) | (with_reducible refine zjq ?_)
 | (with_reducible refine zmJ ?_) | (with_reducible refine zkX ?_) | (with_reducible refine zkY ?_) | (with_reducible refine zkZ ?_) | (with_reducible refine zk0 ?_) | (with_reducible refine zmL ?_) | (with_reducible refine zmM ?_) | (with_reducible refine zk2 ?_) | (with_reducible refine zk3 ?_) | (with_reducible refine zk1 ?_)
 | ((with_reducible refine' zhp ?h1 ?h2 ?h3 ?h4 ?_);(case h1=>assumption);(case h2=>assumption);(case h3=>assumption);(case h4=>assumption))
 | ((with_reducible refine' zmw ?h1 ?_);(case h1=>omega)) | ((with_reducible refine' r_div ?h1 ?h2 ?_);(case h1=>omega);(case h2=>omega)) | ((with_reducible refine' r_mul ?h1 ?_);(case h1=>first | (exact .inr ⟨by decide,by decide⟩) | (exact .inl ⟨by omega,by omega⟩) | (exact .inr ⟨by omega,by omega⟩))) | ((with_reducible refine' zmx ?h1 ?_);(case h1=>walk_at "hp"))
 | ((with_reducible refine' zhM ?h1 ?h2 ?_);(case h1=>walk_at "hp");(case h2=>walk_at "ix"))
 | ((with_reducible refine' zkK ?h1 ?_);(case h1=>walk_at "hp")) | ((with_reducible refine' zkL ?h1 ?_);(case h1=>walk_at "hp")) | ((with_reducible refine' zmu ?h1 ?_);(case h1=>walk_at "hp"))
 | ((with_reducible refine' zmv ?h1 ?h2 ?_);(case h1=>walk_at "ty");(case h2=>rfl)))
local macro_rules | `(tactic| walk_at "rd")=>`(tactic| repeat (walk_at "rd1"))
local macro_rules | `(tactic| walk_at "st")=>`(tactic| repeat ((fail_if_success (with_reducible refine zhN ?_));walk_at "rd1"))
local macro_rules | `(tactic| walk_at "rdk")=>`(tactic| repeat (first | walk_at "rd1" | (with_reducible refine iteF ?_) | (with_reducible refine iteT ?_) | (refine zct (fun h=>absurd h (by omega)) (fun _=>?_)) | (refine zct (fun _=>?_) (fun h=>absurd (by omega) h))))
namespace Prf
open PySem PySem.Spec PyProof.Rows L2
section
variable {P:Program} {w:World} {K:PySem.W.Frag} {mg:Str→Option Value} {base:Heap} {t:Adr}
local macro_rules | `(tactic| walk_at "rd1")=>`(tactic| ((with_reducible refine' zhy ?h1 ?h2 ?_);(case h1=>walk_at "hp");(case h2=>omega)))
local macro_rules | `(tactic| walk_at "rd1")=>`(tactic| (with_reducible refine zes ?_))
local macro_rules | `(tactic| walk_at "rd1")=>`(tactic| (with_reducible refine zey ?_))
def zgs (K:PySem.W.Frag):Sp:=fun vs H Q _=>vs.length=1∧∃ (a:Addr) (ns:List Int),vs=[.ref a]∧SqL K H a (ns.map V.int)∧ns.length≤63∧∀ H',Q (.bl true) H'
theorem zm6 (T:Txt K mg t):FnOk P w K mg base CX0 23 t.f_law t.d_law ["_law_script"] (zgs K):=by
 have G_law_planted:=zeP (P:=P) (w:=w) (base:=base) T
 have G_law_step:=zgN (P:=P) (w:=w) (base:=base) T
 have G_law_at:=zgb (P:=P) (w:=w) (base:=base) T
 have G_law_exam:=zgP (P:=P) (w:=w) (base:=base) T
 have G_law_truth:=zdO (P:=P) (w:=w) (base:=base) T
 have G_Exam_deal:=zge (P:=P) (w:=w) (base:=base) T
 have G_Exam_dealing:=zcH (P:=P) (w:=w) (base:=base) T
 have G_law_not_behind:=zdE (P:=P) (w:=w) (base:=base) T
 have G_law_right:=zgf (P:=P) (w:=w) (base:=base) T
 have G_law_kept:=zg2 (P:=P) (w:=w) (base:=base) T
 have G_law_rows:=zeC (P:=P) (w:=w) (base:=base) T
 have G_Exam_due:=zg3 (P:=P) (w:=w) (base:=base) T
 have G_law_none:=zg4 (P:=P) (w:=w) (base:=base) T
 have G_Exam_marks:=zfF (P:=P) (w:=w) (base:=base) T
 have G_law_row:=zdF (P:=P) (w:=w) (base:=base) T
 have G_law_spare:=zgq (P:=P) (w:=w) (base:=base) T
 have G_Exam_left:=zgr (P:=P) (w:=w) (base:=base) T
 refine T.F_law.ok sc_law (fun vs H Q E h=>?_) (fun cdv A outer s H vs Q E hr h=>?_)
 ·exact (by obtain ⟨h,_⟩:=h;exact h)
 have TERM:∃ t',PSs (cxOf CX0 P w K mg base ["_law_script","_law_made","_law_homes","_law_staff","_law_step_here","_law_exam_here","_law_names","_law_waiting","_law_k"] "law" (zab s_law) t.f_law cdv A outer s H E).nox (zae s_law) t'∧t' ⟨fun _ H'=>Q .non H',Q,fun _ _=>False,fun _ _=>False⟩ (start ["_law_script","_law_made","_law_homes","_law_staff","_law_step_here","_law_exam_here","_law_names","_law_waiting","_law_k"] vs) H:=by
  refine ⟨_,(zac (zaF (i:=1) sc_law.nd rfl (by first | exact Or.inl rfl | exact Or.inr rfl) (zao (G_law_planted) (hr.mono (by decide)) (by rfl) T.m_law_planted T.F_law_planted.kp T.b_law_planted .nil zav (zaa (pv 0) (zaa zaf (zaa zaf pa_nil)))))
   (zac (zaF (i:=2) sc_law.nd rfl (by first | exact Or.inl rfl | exact Or.inr rfl) (zaH (zai (K:=K) rfl) (pv 1) zaf (fun _ _=>rfl)))
   (zac (zaF (i:=3) sc_law.nd rfl (by first | exact Or.inl rfl | exact Or.inr rfl) (zaH (zai (K:=K) rfl) (pv 1) zaf (fun _ _=>rfl)))
   (zac (zaF (i:=4) sc_law.nd rfl (by first | exact Or.inl rfl | exact Or.inr rfl) (zao (G_law_step) (hr.mono (by decide)) (by rfl) T.m_law_step T.F_law_step.kp T.b_law_step .nil zav (zaa (zao (G_law_at) (hr.mono (by decide)) (by rfl) T.m_law_at T.F_law_at.kp T.b_law_at .nil zav (zaa (pv 0) (zaa zaf pa_nil))) pa_nil)))
   (zac (zaF (i:=5) sc_law.nd rfl (by first | exact Or.inl rfl | exact Or.inr rfl) (zao (G_law_exam) (hr.mono (by decide)) (by rfl) T.m_law_exam T.F_law_exam.kp T.b_law_exam .nil zav (zaa (pv 2) (zaa (pv 3) (zaa (pv 4) (zaa (zao (G_law_at) (hr.mono (by decide)) (by rfl) T.m_law_at T.F_law_at.kp T.b_law_at .nil zav (zaa (pv 0) (zaa zaf pa_nil))) pa_nil))))))
   (zac (zaV (zba (zas (K:=K) rfl (zao (G_law_truth) (hr.mono (by decide)) (by rfl) T.m_law_truth T.F_law_truth.kp T.b_law_truth .nil zav (zaa (zaY (pv 5) T.cl_Exam T.me_Exam_deal (G_Exam_deal) (hr.mono (by first | decide | exact Nat.le_refl _)) T.b_Exam_deal .nil zav) (zaa za4 pa_nil))) (fun _=>rfl)))
   (zad (zaj za4)) pss_nil)
   (zac (zaF (i:=6) sc_law.nd rfl (by first | exact Or.inl rfl | exact Or.inr rfl) (zaY (pv 5) T.cl_Exam T.me_Exam_dealing (G_Exam_dealing) (hr.mono (by first | decide | exact Nat.le_refl _)) T.b_Exam_dealing .nil zav))
   (zac (zaV (zc2 (zba (zas (K:=K) rfl (zao (G_law_right) (hr.mono (by decide)) (by rfl) T.m_law_right T.F_law_right.kp T.b_law_right .nil zav (zaa (pv 2) (zaa (pv 3) (zaa (pv 6) pa_nil)))) (fun _=>rfl))) (zbT (zba (zas (K:=K) rfl (zao (G_law_not_behind) (hr.mono (by decide)) (by rfl) T.m_law_not_behind T.F_law_not_behind.kp T.b_law_not_behind .nil zav (zaa (pv 6) (zaa (zaH (zai (K:=K) rfl) (pv 1) zaf (fun _ _=>rfl)) pa_nil))) (fun _=>rfl))))).pt
   (zad (zaj za4)) pss_nil)
   (zac (zaF (i:=7) sc_law.nd rfl (by first | exact Or.inl rfl | exact Or.inr rfl) (zaP pa_nil))
   (zac (za2 PassesOwn.never rfl (za5 (by rfl) T.z_range (zaa (zah (zak (K:=K) rfl) (by rfl) T.z_len (by rfl) (zaa (pv 6) pa_nil)) pa_nil)) (zaq (i:=8) sc_law.nd rfl (by first | exact Or.inl rfl | exact Or.inr rfl))
   (zac (zaM (zbW (K:=K) rfl PySem.F.plainAttrs_list PySem.F.slot_list_append PySem.F.type_list_append mt_append (pv 7) (zaa (zaP (zaa (zaw (op_addG) (pv 8) zaf) (zaa (zaH (zai (K:=K) rfl) (zaH (zai (K:=K) rfl) (pv 6) (pv 8) (fun _ _=>rfl)) zaf (fun _ _=>rfl)) pa_nil))) pa_nil)))
   (zad (zaM (zbW (K:=K) rfl PySem.F.plainAttrs_list PySem.F.slot_list_append PySem.F.type_list_append mt_append (pv 7) (zaa (zaP (zaa (zaw (op_addG) (pv 8) zaf) (zaa (zaH (zai (K:=K) rfl) (zaH (zai (K:=K) rfl) (pv 6) (pv 8) (fun _ _=>rfl)) zaf (fun _ _=>rfl)) pa_nil))) pa_nil))))))
   (zac (zaV (zc2 (zba (zas (K:=K) rfl (zao (G_law_rows) (hr.mono (by decide)) (by rfl) T.m_law_rows T.F_law_rows.kp T.b_law_rows .nil zav (zaa (zaY (pv 5) T.cl_Exam T.me_Exam_due (G_Exam_due) (hr.mono (by first | decide | exact Nat.le_refl _)) T.b_Exam_due .nil zav) (zaa (pv 7) pa_nil))) (fun _=>rfl))) (zbT (zba (zas (K:=K) rfl (zao (G_law_kept) (hr.mono (by decide)) (by rfl) T.m_law_kept T.F_law_kept.kp T.b_law_kept .nil zav (zaa (pv 5) (zaa (pv 2) (zaa (pv 3) (zaa (pv 4) (zaa (pv 6) pa_nil)))))) (fun _=>rfl))))).pt
   (zad (zaj za4)) pss_nil)
   (zac (zaV (zba (zas (K:=K) rfl (zao (G_law_none) (hr.mono (by decide)) (by rfl) T.m_law_none T.F_law_none.kp T.b_law_none .nil zav (zaa (zaY (pv 5) T.cl_Exam T.me_Exam_marks (G_Exam_marks) (hr.mono (by first | decide | exact Nat.le_refl _)) T.b_Exam_marks .nil zav) (zaa (zah (zak (K:=K) rfl) (by rfl) T.z_len (by rfl) (zaa (pv 2) pa_nil)) pa_nil))) (fun _=>rfl)))
   (zad (zaj za4)) pss_nil)
   (zad (zaj (zao (G_law_row) (hr.mono (by decide)) (by rfl) T.m_law_row T.F_law_row.kp T.b_law_row .nil zav (zaa (zaY (pv 5) T.cl_Exam T.me_Exam_left (G_Exam_left) (hr.mono (by first | decide | exact Nat.le_refl _)) T.b_Exam_left .nil zav) (zaa (zao (G_law_spare) (hr.mono (by decide)) (by rfl) T.m_law_spare T.F_law_spare.kp T.b_law_spare .nil zav (zaa (pv 3) (zaa (pv 6) pa_nil))) pa_nil))))))))))))))))),?_⟩
  obtain ⟨_,a,ns,rfl,hS,hl,q⟩:=h
  walk_at "rd"
  refine zfx hS hl (by omega) (by omega) fun p ph ps pr sa ra hs rs rows H1 P1 A=>?_
  have B:=A.inb
  have B1:=B.lp
  have B2:=B.lr
  have hS1:=P1.same.seq hS
  have ep:=P1.at_p
  have eh:=P1.at_h
  have es:=P1.at_s
  have L1:LL K H1 ps rs:=P1.ls
  have M1:LL K H1 pr rows:=P1.lr
  walk_at "rd"
  refine zh4 fun H2 s2=>?_
  have hst:=zi8 (zbA ns 0)
  generalize zgE (zbA ns 0)=stp at *
  have hS2:=s2.seq hS1
  have ep2:=s2 _ _ ep
  have eh2:=s2 _ _ eh
  have L2:=L1.same s2
  have M2:=M1.same s2
  walk_at "rd"
  refine zh5 (SqL.of eh2) L2 B hst.1 hst.2 fun x F H3 fx s3 nF E3=>?_
  obtain ⟨dx3,fs3,hob3,hlk3⟩:=E3.ob
  walk_at "rd"
  refine zaG hob3 (hlk3 _ (by decide +kernel)) ?_
  walk_at "rd"
  refine zgW E3 B rfl (fun F0=>absurd (F0 rows) (by rw [A.right];decide)) (fun tt FD H4 F4 f4 E4=>?_)
  obtain ⟨nF4,S4⟩:=f4.nf s3 nF
  obtain ⟨hr,hmin⟩:zaS hs rs tt=true∧∀ rows,zaS hs rs rows=true→nbB tt rows=true:=FD
  have RP:=zdg.mp hr
  have hlen:=RP.len
  walk_at "rd"
  refine iteF ?_
  walk_at "rd"
  refine zcZ E4 B ⟨fun z=>absurd z (by simp),fun nm en z p5 H5 R5=>?_⟩
  obtain ⟨rfl,rfl⟩:nm=tt∧en=[]:=by
   injection z with z
   injection z with z1 z2
   exact ⟨z1.symm,z2.symm⟩
  rw [zkn hr] at R5
  have E5:=E4.same R5.same
  have S5:=S4.trans R5.same
  have ep5:=S5 _ _ ep2
  have eh5:=S5 _ _ eh2
  have L5:=L2.same S5
  have M5:=M2.same S5
  obtain ⟨zt,hzt,hztl⟩:=R5.lst
  walk_at "rd"
  refine zgY (SqL.of eh5) L5 B.r2 ⟨_,hzt⟩ R5.ll (by omega) (by omega) (by omega) fun H6 s6=>?_
  walk_at "rd"
  rw [hr]
  refine iteF ?_
  have ep6:=s6 _ _ ep5
  walk_at "rd"
  refine zdZ (R5.ll.same s6) (M5.same s6) (by rw [hlen,A.len]) (by have:=A.len;omega) (fun i hi=>RP.two i (by rw [← hlen];exact hi)) A.row2 ?_
  rw [hmin rows A.right]
  walk_at "rd"
  refine iteF ?_
  have R6:=R5.mono s6
  have E6:=E5.same s6
  have S6:=S5.trans s6
  obtain ⟨psn,hn6,hnl,hnr⟩:LL K H6 p5 nm:=R6.ll
  walk_at "rd"
  refine zax (by decide) fun p7 H7 f7 s7 e7=>?_
  have hn7:=s7.seq hn6
  walk_at "rd"
  refine zcl (by omega) (by omega) ?_
  have en':((psn.length:Int)).toNat=nm.length:=by omega
  rw [en']
  refine zbI (fun i σ H'=>(∃ v,σ=[some (.ref a),some (.ref p),some (.ref ph),some (.ref ps),some (.int stp),some (.ref x),some (.ref p5),some (.ref p7),v])∧RowsAt H6 p7 ((List.range i).flatMap fun k=>(zbc nm [] k).map fun r=>[(k:Int)+1,r]) H'∧((List.range i).flatMap fun k=>(zbc nm [] k).map fun r=>[(k:Int)+1,r]).length≤3 * i) ⟨⟨none,rfl⟩,RowsAt.start f7 s7 e7,by simp⟩ ?_ ?_
  ·rintro i σ H' hi ⟨⟨v,rfl⟩,R,hln⟩
   have e0:(0:Int)+(i:Int)=(i:Int):=by omega
   rw [e0]
   have h2:=RP.two i (by rw [← hlen];exact hi)
   obtain ⟨fi,si,hfs⟩:∃ f s,nm.getD i []=[f,s]:=by
    match hh:nm.getD i [],h2 with
    | [f,s],_=>exact ⟨f,s,rfl⟩
   have hrow:=hnr i hi
   rw [hfs] at hrow
   have hrow:H6 (psn.getD i 0)=some (.lst [.int fi,.int si]):=hrow
   have hn':=R.same.seq hn6
   have hrow':=R.same _ _ hrow
   obtain ⟨zs,z1,zl⟩:=R.lst
   walk_at "rd"
   refine zax (by simp) fun q1 J1 g1 t1 c1=>?_
   walk_at "rd"
   refine zaT (t1 _ _ z1) (by omega) fun J2 b2 c2=>?_
   have R2:=R.push (r:=[(i:Int)+1,fi]) g1 t1 c1 (t1 _ _ z1) b2 c2
   have hn2:=R2.same.seq hn6
   have hrow2:=R2.same _ _ hrow
   walk_at "rd"
   refine zax (by simp) fun q3 J3 g3 t3 c3=>?_
   have c2':=t3 _ _ c2
   walk_at "rd"
   refine zaT c2' (by rw [List.length_append];simp;omega) fun J4 b4 c4=>?_
   have R4:=R2.push (r:=[(i:Int)+1,si]) g3 t3 c3 c2' b4 c4
   walk_at "rd"
   refine ⟨⟨_,rfl⟩,?_,?_⟩
   ·rw [zdi _ _ _ hi,zfv,hfs]
    rw [List.append_assoc] at R4
    exact R4
   ·rw [zdi _ _ _ hi,zfv,hfs,List.length_append]
    simp only [List.length_map,List.length_cons,List.length_nil]
    omega
  rintro σ H8 ⟨⟨v,rfl⟩,R8,hl8⟩
  have S68:=R8.same
  have E8:=E6.same S68
  walk_at "rd"
  refine zii E8 B fun p9 H9 R9=>?_
  have s9:=R9.same
  obtain ⟨zs9,z9,_⟩:=R9.lst
  walk_at "rd"
  refine zdG ⟨_,z9⟩ R9.ll ((R8.ll).same s9) (by omega) (fun i hi=>?_) ?_
  ·have hm:((List.range nm.length).flatMap fun k=>(zbc nm [] k).map fun r=>[(k:Int)+1,r]).getD i []∈dueB nm []:=getD_mem hi
   obtain ⟨k,r,_,_,e⟩:=zlR hm
   rw [e];simp
  walk_at "rd"
  rw [decide_eq_true (show dueS (⟨hs,rs,stp,some (nm,[])⟩:ExS)=(List.range nm.length).flatMap fun k=>(zbc nm [] k).map fun r=>[(k:Int)+1,r] from rfl)]
  refine iteF ?_
  have S69:=S68.trans s9
  have S9:=S6.trans S69
  have E9:=E6.same S69
  have R69:=(R6.mono S69)
  walk_at "rd"
  refine zig (st:=⟨hs,rs,stp,some (nm,[])⟩) E9 B rfl (SqL.of (S9 _ _ eh2)) (L2.same S9) R69.ll fun H10 s10=>?_
  walk_at "rd"
  refine iteF ?_
  have E10:=E9.same s10
  have eh10:=s10 _ _ (S9 _ _ eh2)
  walk_at "rd"
  refine zgp E10 B fun p11 H11 M11=>?_
  have em:zdh (⟨hs,rs,stp,some (nm,[])⟩:ExS)=(List.range hs.length).map (zb9 nm [] stp):=rfl
  rw [em] at M11
  have ml:((List.range hs.length).map (zb9 nm [] stp)).length=hs.length:=by rw [List.length_map,List.length_range]
  have e11:=zfw M11 (fun i hi=>by
   rw [ml] at hi
   rw [zau hi]
   unfold zb9
   have h2:=RP.two i hi
   rw [if_neg (fun z=>by rw [zfv] at z;rw [z] at h2;exact absurd h2 (by simp))])
  rw [ml] at e11
  have eh11:=M11.same _ _ eh10
  walk_at "rd"
  refine zij e11 (by omega) ?_
  walk_at "rd"
  refine iteF ?_
  have s611:=(S69.trans s10).trans M11.same
  have E11:=E6.same s611
  walk_at "rd"
  refine zg8 E11 B fun p12 H12 f12 s12 e12=>?_
  walk_at "rd"
  refine zg6 ((L2.same (S6.trans s611)).same s12) ((R6.mono s611).ll.same s12) (by omega) (by omega) B.r2 fun p13 H13 f13 s13 e13=>?_
  have hll:(zbC rs nm).length=rs.length:=by unfold zbC;rw [List.length_map,List.length_range]
  walk_at "rd"
  refine zeA (s13 _ _ e12) (SqL.of e13) (by omega) ?_
  rw [decide_eq_true (show zkl (⟨hs,rs,stp,some (nm,[])⟩:ExS)=zbC rs nm from rfl)]
  exact q _
 exact TERM
theorem law_start {a:Addr} {ns:List Int} {H:Hp} (hl:ns.length≤63) (hS:SqL K H a (ns.map V.int)):zgs K [.ref a] H (fun v _=>v=.bl true) fun _ _ _=>False:=⟨rfl,a,ns,rfl,hS,hl,fun _=>rfl⟩
end
theorem zm7 {l:PySem.W.OpenLaw} {w:World} {K:PySem.W.Frag} {h:Heap} {mg:Str→Option Value} {fa:Addr} (X:K.In h) (G:h.Ns mainGlobals mg) (hfa:mg "law" = some (.ref fa))
  {C_Attempt:Addr} (aC_Attempt:PySem.W.nsIn K mainGlobals "Attempt" = some (some (.ref C_Attempt)))
  {C_Exam:Addr} (aC_Exam:PySem.W.nsIn K mainGlobals "Exam" = some (some (.ref C_Exam)))
  {f0:Addr} {od0 an0:Option Addr} {sl0:Array (Option Value)} {oc0 kV0 dc0 pm0 cd0 ct0:Value}
  {f1:Addr} {od1 an1:Option Addr} {sl1:Array (Option Value)} {oc1 kV1 dc1 pm1 cd1 ct1:Value}
  {f2:Addr} {od2 an2:Option Addr} {sl2:Array (Option Value)} {oc2 kV2 dc2 pm2 cd2 ct2:Value}
  {f3:Addr} {od3 an3:Option Addr} {sl3:Array (Option Value)} {oc3 kV3 dc3 pm3 cd3 ct3:Value}
  {f4:Addr} {od4 an4:Option Addr} {sl4:Array (Option Value)} {oc4 kV4 dc4 pm4 cd4 ct4:Value}
  {f5:Addr} {od5 an5:Option Addr} {sl5:Array (Option Value)} {oc5 kV5 dc5 pm5 cd5 ct5:Value}
  {f6:Addr} {od6 an6:Option Addr} {sl6:Array (Option Value)} {oc6 kV6 dc6 pm6 cd6 ct6:Value}
  {f7:Addr} {od7 an7:Option Addr} {sl7:Array (Option Value)} {oc7 kV7 dc7 pm7 cd7 ct7:Value}
  {f8:Addr} {od8 an8:Option Addr} {sl8:Array (Option Value)} {oc8 kV8 dc8 pm8 cd8 ct8:Value}
  {f9:Addr} {od9 an9:Option Addr} {sl9:Array (Option Value)} {oc9 kV9 dc9 pm9 cd9 ct9:Value}
  {f10:Addr} {od10 an10:Option Addr} {sl10:Array (Option Value)} {oc10 kV10 dc10 pm10 cd10 ct10:Value}
  {f11:Addr} {od11 an11:Option Addr} {sl11:Array (Option Value)} {oc11 kV11 dc11 pm11 cd11 ct11:Value}
  {f12:Addr} {od12 an12:Option Addr} {sl12:Array (Option Value)} {oc12 kV12 dc12 pm12 cd12 ct12:Value}
  {f13:Addr} {od13 an13:Option Addr} {sl13:Array (Option Value)} {oc13 kV13 dc13 pm13 cd13 ct13:Value}
  {f14:Addr} {od14 an14:Option Addr} {sl14:Array (Option Value)} {oc14 kV14 dc14 pm14 cd14 ct14:Value}
  {f15:Addr} {od15 an15:Option Addr} {sl15:Array (Option Value)} {oc15 kV15 dc15 pm15 cd15 ct15:Value}
  {f16:Addr} {od16 an16:Option Addr} {sl16:Array (Option Value)} {oc16 kV16 dc16 pm16 cd16 ct16:Value}
  {f17:Addr} {od17 an17:Option Addr} {sl17:Array (Option Value)} {oc17 kV17 dc17 pm17 cd17 ct17:Value}
  {f18:Addr} {od18 an18:Option Addr} {sl18:Array (Option Value)} {oc18 kV18 dc18 pm18 cd18 ct18:Value}
  {f19:Addr} {od19 an19:Option Addr} {sl19:Array (Option Value)} {oc19 kV19 dc19 pm19 cd19 ct19:Value}
  {f20:Addr} {od20 an20:Option Addr} {sl20:Array (Option Value)} {oc20 kV20 dc20 pm20 cd20 ct20:Value}
  {f21:Addr} {od21 an21:Option Addr} {sl21:Array (Option Value)} {oc21 kV21 dc21 pm21 cd21 ct21:Value}
  {f22:Addr} {od22 an22:Option Addr} {sl22:Array (Option Value)} {oc22 kV22 dc22 pm22 cd22 ct22:Value}
  {f23:Addr} {od23 an23:Option Addr} {sl23:Array (Option Value)} {oc23 kV23 dc23 pm23 cd23 ct23:Value}
  {f24:Addr} {od24 an24:Option Addr} {sl24:Array (Option Value)} {oc24 kV24 dc24 pm24 cd24 ct24:Value}
  {f25:Addr} {od25 an25:Option Addr} {sl25:Array (Option Value)} {oc25 kV25 dc25 pm25 cd25 ct25:Value}
  {f26:Addr} {od26 an26:Option Addr} {sl26:Array (Option Value)} {oc26 kV26 dc26 pm26 cd26 ct26:Value}
  {f27:Addr} {od27 an27:Option Addr} {sl27:Array (Option Value)} {oc27 kV27 dc27 pm27 cd27 ct27:Value}
  {f28:Addr} {od28 an28:Option Addr} {sl28:Array (Option Value)} {oc28 kV28 dc28 pm28 cd28 ct28:Value}
  {f29:Addr} {od29 an29:Option Addr} {sl29:Array (Option Value)} {oc29 kV29 dc29 pm29 cd29 ct29:Value}
  {f30:Addr} {od30 an30:Option Addr} {sl30:Array (Option Value)} {oc30 kV30 dc30 pm30 cd30 ct30:Value}
  {f31:Addr} {od31 an31:Option Addr} {sl31:Array (Option Value)} {oc31 kV31 dc31 pm31 cd31 ct31:Value}
  {f32:Addr} {od32 an32:Option Addr} {sl32:Array (Option Value)} {oc32 kV32 dc32 pm32 cd32 ct32:Value}
  {f33:Addr} {od33 an33:Option Addr} {sl33:Array (Option Value)} {oc33 kV33 dc33 pm33 cd33 ct33:Value}
  {f34:Addr} {od34 an34:Option Addr} {sl34:Array (Option Value)} {oc34 kV34 dc34 pm34 cd34 ct34:Value}
  {f35:Addr} {od35 an35:Option Addr} {sl35:Array (Option Value)} {oc35 kV35 dc35 pm35 cd35 ct35:Value}
  {f36:Addr} {od36 an36:Option Addr} {sl36:Array (Option Value)} {oc36 kV36 dc36 pm36 cd36 ct36:Value}
  {f37:Addr} {od37 an37:Option Addr} {sl37:Array (Option Value)} {oc37 kV37 dc37 pm37 cd37 ct37:Value}
  {f38:Addr} {od38 an38:Option Addr} {sl38:Array (Option Value)} {oc38 kV38 dc38 pm38 cd38 ct38:Value}
  {f39:Addr} {od39 an39:Option Addr} {sl39:Array (Option Value)} {oc39 kV39 dc39 pm39 cd39 ct39:Value}
  {f40:Addr} {od40 an40:Option Addr} {sl40:Array (Option Value)} {oc40 kV40 dc40 pm40 cd40 ct40:Value}
  {f41:Addr} {od41 an41:Option Addr} {sl41:Array (Option Value)} {oc41 kV41 dc41 pm41 cd41 ct41:Value}
  {f42:Addr} {od42 an42:Option Addr} {sl42:Array (Option Value)} {oc42 kV42 dc42 pm42 cd42 ct42:Value}
  {f43:Addr} {od43 an43:Option Addr} {sl43:Array (Option Value)} {oc43 kV43 dc43 pm43 cd43 ct43:Value}
  {f44:Addr} {od44 an44:Option Addr} {sl44:Array (Option Value)} {oc44 kV44 dc44 pm44 cd44 ct44:Value}
  {f45:Addr} {od45 an45:Option Addr} {sl45:Array (Option Value)} {oc45 kV45 dc45 pm45 cd45 ct45:Value}
  {f46:Addr} {od46 an46:Option Addr} {sl46:Array (Option Value)} {oc46 kV46 dc46 pm46 cd46 ct46:Value}
  {f47:Addr} {od47 an47:Option Addr} {sl47:Array (Option Value)} {oc47 kV47 dc47 pm47 cd47 ct47:Value}
  {f48:Addr} {od48 an48:Option Addr} {sl48:Array (Option Value)} {oc48 kV48 dc48 pm48 cd48 ct48:Value}
  {f49:Addr} {od49 an49:Option Addr} {sl49:Array (Option Value)} {oc49 kV49 dc49 pm49 cd49 ct49:Value}
  {f50:Addr} {od50 an50:Option Addr} {sl50:Array (Option Value)} {oc50 kV50 dc50 pm50 cd50 ct50:Value}
  {f51:Addr} {od51 an51:Option Addr} {sl51:Array (Option Value)} {oc51 kV51 dc51 pm51 cd51 ct51:Value}
  {f52:Addr} {od52 an52:Option Addr} {sl52:Array (Option Value)} {oc52 kV52 dc52 pm52 cd52 ct52:Value}
  {f53:Addr} {od53 an53:Option Addr} {sl53:Array (Option Value)} {oc53 kV53 dc53 pm53 cd53 ct53:Value}
  {f54:Addr} {od54 an54:Option Addr} {sl54:Array (Option Value)} {oc54 kV54 dc54 pm54 cd54 ct54:Value}
  {f55:Addr} {od55 an55:Option Addr} {sl55:Array (Option Value)} {oc55 kV55 dc55 pm55 cd55 ct55:Value}
  {f56:Addr} {od56 an56:Option Addr} {sl56:Array (Option Value)} {oc56 kV56 dc56 pm56 cd56 ct56:Value}
  {f57:Addr} {od57 an57:Option Addr} {sl57:Array (Option Value)} {oc57 kV57 dc57 pm57 cd57 ct57:Value}
  {f58:Addr} {od58 an58:Option Addr} {sl58:Array (Option Value)} {oc58 kV58 dc58 pm58 cd58 ct58:Value}
  {f59:Addr} {od59 an59:Option Addr} {sl59:Array (Option Value)} {oc59 kV59 dc59 pm59 cd59 ct59:Value}
  {f60:Addr} {od60 an60:Option Addr} {sl60:Array (Option Value)} {oc60 kV60 dc60 pm60 cd60 ct60:Value}
  {f61:Addr} {od61 an61:Option Addr} {sl61:Array (Option Value)} {oc61 kV61 dc61 pm61 cd61 ct61:Value}
  {tk_READERS_EACH:Tok}
  {tk_MOST_HOUSES:Tok}
  {tk_MOST_PAPERS:Tok}
  {tk_MOST_LIMIT:Tok}
  {tk_MOST_READERS:Tok}
  {tk_MOST_STEP:Tok}
  (a0:PySem.W.nsIn K mainGlobals "_law_at" = some (some (.ref f0))) (l0:K.lookup f0=some ⟨oc0,od0,.func (PySem.W.fnOf "_law_at" "_law_at" (zal s_law_at) (zae s_law_at) (zab s_law_at) .none kV0 dc0 pm0 an0 cd0 ct0),sl0⟩) (c0:PySem.W.codeIn K cd0 "_law_at" = true) (k0:PySem.W.keepIn K (.ref f0)=true)
  (a1:PySem.W.nsIn K mainGlobals "_law_planted" = some (some (.ref f1))) (l1:K.lookup f1=some ⟨oc1,od1,.func (PySem.W.fnOf "_law_planted" "_law_planted" (zal s_law_planted) (zae s_law_planted) (zab s_law_planted) .none kV1 dc1 pm1 an1 cd1 ct1),sl1⟩) (c1:PySem.W.codeIn K cd1 "_law_planted" = true) (k1:PySem.W.keepIn K (.ref f1)=true)
  (a2:PySem.W.nsIn K mainGlobals "_law_step" = some (some (.ref f2))) (l2:K.lookup f2=some ⟨oc2,od2,.func (PySem.W.fnOf "_law_step" "_law_step" (zal s_law_step) (zae s_law_step) (zab s_law_step) .none kV2 dc2 pm2 an2 cd2 ct2),sl2⟩) (c2:PySem.W.codeIn K cd2 "_law_step" = true) (k2:PySem.W.keepIn K (.ref f2)=true)
  (a3:PySem.W.findIn K (.ref C_Exam) "__init__" = some (some (.ref f3))) (i3:PySem.W.isFn K (.ref f3)=true) (l3:K.lookup f3=some ⟨oc3,od3,.func (PySem.W.fnOf "__init__" "Exam.__init__" (zal s_Exam___init__) (zae s_Exam___init__) (zab s_Exam___init__) .none kV3 dc3 pm3 an3 cd3 ct3),sl3⟩) (c3:PySem.W.codeIn K cd3 "Exam.__init__" = true) (k3:PySem.W.keepIn K (.ref f3)=true)
  (a4:PySem.W.findIn K (.ref C_Exam) "refuse_behind_dealing" = some (some (.ref f4))) (i4:PySem.W.isFn K (.ref f4)=true) (l4:K.lookup f4=some ⟨oc4,od4,.func (PySem.W.fnOf "refuse_behind_dealing" "Exam.refuse_behind_dealing" (zal s_Exam_refuse_behind_dealing) (zae s_Exam_refuse_behind_dealing) (zab s_Exam_refuse_behind_dealing) .none kV4 dc4 pm4 an4 cd4 ct4),sl4⟩) (c4:PySem.W.codeIn K cd4 "Exam.refuse_behind_dealing" = true) (k4:PySem.W.keepIn K (.ref f4)=true)
  (a5:PySem.W.nsIn K mainGlobals "refuse_out_of_bounds" = some (some (.ref f5))) (l5:K.lookup f5=some ⟨oc5,od5,.func (PySem.W.fnOf "refuse_out_of_bounds" "refuse_out_of_bounds" (zal s_refuse_out_of_bounds) (zae s_refuse_out_of_bounds) (zab s_refuse_out_of_bounds) .none kV5 dc5 pm5 an5 cd5 ct5),sl5⟩) (c5:PySem.W.codeIn K cd5 "refuse_out_of_bounds" = true) (k5:PySem.W.keepIn K (.ref f5)=true)
  (a6:PySem.W.findIn K (.ref C_Exam) "set_step" = some (some (.ref f6))) (i6:PySem.W.isFn K (.ref f6)=true) (l6:K.lookup f6=some ⟨oc6,od6,.func (PySem.W.fnOf "set_step" "Exam.set_step" (zal s_Exam_set_step) (zae s_Exam_set_step) (zab s_Exam_set_step) .none kV6 dc6 pm6 an6 cd6 ct6),sl6⟩) (c6:PySem.W.codeIn K cd6 "Exam.set_step" = true) (k6:PySem.W.keepIn K (.ref f6)=true)
  (a7:PySem.W.nsIn K mainGlobals "refuse_unknown" = some (some (.ref f7))) (l7:K.lookup f7=some ⟨oc7,od7,.func (PySem.W.fnOf "refuse_unknown" "refuse_unknown" (zal s_refuse_unknown) (zae s_refuse_unknown) (zab s_refuse_unknown) .none kV7 dc7 pm7 an7 cd7 ct7),sl7⟩) (c7:PySem.W.codeIn K cd7 "refuse_unknown" = true) (k7:PySem.W.keepIn K (.ref f7)=true)
  (a8:PySem.W.nsIn K mainGlobals "refuse_full" = some (some (.ref f8))) (l8:K.lookup f8=some ⟨oc8,od8,.func (PySem.W.fnOf "refuse_full" "refuse_full" (zal s_refuse_full) (zae s_refuse_full) (zab s_refuse_full) .none kV8 dc8 pm8 an8 cd8 ct8),sl8⟩) (c8:PySem.W.codeIn K cd8 "refuse_full" = true) (k8:PySem.W.keepIn K (.ref f8)=true)
  (a9:PySem.W.findIn K (.ref C_Exam) "bring_paper" = some (some (.ref f9))) (i9:PySem.W.isFn K (.ref f9)=true) (l9:K.lookup f9=some ⟨oc9,od9,.func (PySem.W.fnOf "bring_paper" "Exam.bring_paper" (zal s_Exam_bring_paper) (zae s_Exam_bring_paper) (zab s_Exam_bring_paper) .none kV9 dc9 pm9 an9 cd9 ct9),sl9⟩) (c9:PySem.W.codeIn K cd9 "Exam.bring_paper" = true) (k9:PySem.W.keepIn K (.ref f9)=true)
  (a10:PySem.W.findIn K (.ref C_Exam) "bring_reader" = some (some (.ref f10))) (i10:PySem.W.isFn K (.ref f10)=true) (l10:K.lookup f10=some ⟨oc10,od10,.func (PySem.W.fnOf "bring_reader" "Exam.bring_reader" (zal s_Exam_bring_reader) (zae s_Exam_bring_reader) (zab s_Exam_bring_reader) .none kV10 dc10 pm10 an10 cd10 ct10),sl10⟩) (c10:PySem.W.codeIn K cd10 "Exam.bring_reader" = true) (k10:PySem.W.keepIn K (.ref f10)=true)
  (a11:PySem.W.nsIn K mainGlobals "_law_exam" = some (some (.ref f11))) (l11:K.lookup f11=some ⟨oc11,od11,.func (PySem.W.fnOf "_law_exam" "_law_exam" (zal s_law_exam) (zae s_law_exam) (zab s_law_exam) .none kV11 dc11 pm11 an11 cd11 ct11),sl11⟩) (c11:PySem.W.codeIn K cd11 "_law_exam" = true) (k11:PySem.W.keepIn K (.ref f11)=true)
  (a12:PySem.W.nsIn K mainGlobals "_law_truth" = some (some (.ref f12))) (l12:K.lookup f12=some ⟨oc12,od12,.func (PySem.W.fnOf "_law_truth" "_law_truth" (zal s_law_truth) (zae s_law_truth) (zab s_law_truth) .none kV12 dc12 pm12 an12 cd12 ct12),sl12⟩) (c12:PySem.W.codeIn K cd12 "_law_truth" = true) (k12:PySem.W.keepIn K (.ref f12)=true)
  (a13:PySem.W.nsIn K mainGlobals "pairs_of" = some (some (.ref f13))) (l13:K.lookup f13=some ⟨oc13,od13,.func (PySem.W.fnOf "pairs_of" "pairs_of" (zal s_pairs_of) (zae s_pairs_of) (zab s_pairs_of) .none kV13 dc13 pm13 an13 cd13 ct13),sl13⟩) (c13:PySem.W.codeIn K cd13 "pairs_of" = true) (k13:PySem.W.keepIn K (.ref f13)=true)
  (a14:PySem.W.nsIn K mainGlobals "may_read" = some (some (.ref f14))) (l14:K.lookup f14=some ⟨oc14,od14,.func (PySem.W.fnOf "may_read" "may_read" (zal s_may_read) (zae s_may_read) (zab s_may_read) .none kV14 dc14 pm14 an14 cd14 ct14),sl14⟩) (c14:PySem.W.codeIn K cd14 "may_read" = true) (k14:PySem.W.keepIn K (.ref f14)=true)
  (a15:PySem.W.nsIn K mainGlobals "readers_for" = some (some (.ref f15))) (l15:K.lookup f15=some ⟨oc15,od15,.func (PySem.W.fnOf "readers_for" "readers_for" (zal s_readers_for) (zae s_readers_for) (zab s_readers_for) .none kV15 dc15 pm15 an15 cd15 ct15),sl15⟩) (c15:PySem.W.codeIn K cd15 "readers_for" = true) (k15:PySem.W.keepIn K (.ref f15)=true)
  (a16:PySem.W.nsIn K mainGlobals "times_in" = some (some (.ref f16))) (l16:K.lookup f16=some ⟨oc16,od16,.func (PySem.W.fnOf "times_in" "times_in" (zal s_times_in) (zae s_times_in) (zab s_times_in) .none kV16 dc16 pm16 an16 cd16 ct16),sl16⟩) (c16:PySem.W.codeIn K cd16 "times_in" = true) (k16:PySem.W.keepIn K (.ref f16)=true)
  (a17:PySem.W.nsIn K mainGlobals "left_after" = some (some (.ref f17))) (l17:K.lookup f17=some ⟨oc17,od17,.func (PySem.W.fnOf "left_after" "left_after" (zal s_left_after) (zae s_left_after) (zab s_left_after) .none kV17 dc17 pm17 an17 cd17 ct17),sl17⟩) (c17:PySem.W.codeIn K cd17 "left_after" = true) (k17:PySem.W.keepIn K (.ref f17)=true)
  (a18:PySem.W.nsIn K mainGlobals "keeps_to_limits" = some (some (.ref f18))) (l18:K.lookup f18=some ⟨oc18,od18,.func (PySem.W.fnOf "keeps_to_limits" "keeps_to_limits" (zal s_keeps_to_limits) (zae s_keeps_to_limits) (zab s_keeps_to_limits) .none kV18 dc18 pm18 an18 cd18 ct18),sl18⟩) (c18:PySem.W.codeIn K cd18 "keeps_to_limits" = true) (k18:PySem.W.keepIn K (.ref f18)=true)
  (a19:PySem.W.findIn K (.ref C_Attempt) "__init__" = some (some (.ref f19))) (i19:PySem.W.isFn K (.ref f19)=true) (l19:K.lookup f19=some ⟨oc19,od19,.func (PySem.W.fnOf "__init__" "Attempt.__init__" (zal s_Attempt___init__) (zae s_Attempt___init__) (zab s_Attempt___init__) .none kV19 dc19 pm19 an19 cd19 ct19),sl19⟩) (c19:PySem.W.codeIn K cd19 "Attempt.__init__" = true) (k19:PySem.W.keepIn K (.ref f19)=true)
  (a20:PySem.W.findIn K (.ref C_Attempt) "free_reading" = some (some (.ref f20))) (i20:PySem.W.isFn K (.ref f20)=true) (l20:K.lookup f20=some ⟨oc20,od20,.func (PySem.W.fnOf "free_reading" "Attempt.free_reading" (zal s_Attempt_free_reading) (zae s_Attempt_free_reading) (zab s_Attempt_free_reading) .none kV20 dc20 pm20 an20 cd20 ct20),sl20⟩) (c20:PySem.W.codeIn K cd20 "Attempt.free_reading" = true) (k20:PySem.W.keepIn K (.ref f20)=true)
  (a21:PySem.W.findIn K (.ref C_Attempt) "find_reader" = some (some (.ref f21))) (i21:PySem.W.isFn K (.ref f21)=true) (l21:K.lookup f21=some ⟨oc21,od21,.func (PySem.W.fnOf "find_reader" "Attempt.find_reader" (zal s_Attempt_find_reader) (zae s_Attempt_find_reader) (zab s_Attempt_find_reader) .none kV21 dc21 pm21 an21 cd21 ct21),sl21⟩) (c21:PySem.W.codeIn K cd21 "Attempt.find_reader" = true) (k21:PySem.W.keepIn K (.ref f21)=true)
  (a22:PySem.W.nsIn K mainGlobals "readers_suffice" = some (some (.ref f22))) (l22:K.lookup f22=some ⟨oc22,od22,.func (PySem.W.fnOf "readers_suffice" "readers_suffice" (zal s_readers_suffice) (zae s_readers_suffice) (zab s_readers_suffice) .none kV22 dc22 pm22 an22 cd22 ct22),sl22⟩) (c22:PySem.W.codeIn K cd22 "readers_suffice" = true) (k22:PySem.W.keepIn K (.ref f22)=true)
  (a23:PySem.W.nsIn K mainGlobals "with_limits" = some (some (.ref f23))) (l23:K.lookup f23=some ⟨oc23,od23,.func (PySem.W.fnOf "with_limits" "with_limits" (zal s_with_limits) (zae s_with_limits) (zab s_with_limits) .none kV23 dc23 pm23 an23 cd23 ct23),sl23⟩) (c23:PySem.W.codeIn K cd23 "with_limits" = true) (k23:PySem.W.keepIn K (.ref f23)=true)
  (a24:PySem.W.nsIn K mainGlobals "can_go_on" = some (some (.ref f24))) (l24:K.lookup f24=some ⟨oc24,od24,.func (PySem.W.fnOf "can_go_on" "can_go_on" (zal s_can_go_on) (zae s_can_go_on) (zab s_can_go_on) .none kV24 dc24 pm24 an24 cd24 ct24),sl24⟩) (c24:PySem.W.codeIn K cd24 "can_go_on" = true) (k24:PySem.W.keepIn K (.ref f24)=true)
  (a25:PySem.W.nsIn K mainGlobals "first_row_behind" = some (some (.ref f25))) (l25:K.lookup f25=some ⟨oc25,od25,.func (PySem.W.fnOf "first_row_behind" "first_row_behind" (zal s_first_row_behind) (zae s_first_row_behind) (zab s_first_row_behind) .none kV25 dc25 pm25 an25 cd25 ct25),sl25⟩) (c25:PySem.W.codeIn K cd25 "first_row_behind" = true) (k25:PySem.W.keepIn K (.ref f25)=true)
  (a26:PySem.W.nsIn K mainGlobals "first_dealing" = some (some (.ref f26))) (l26:K.lookup f26=some ⟨oc26,od26,.func (PySem.W.fnOf "first_dealing" "first_dealing" (zal s_first_dealing) (zae s_first_dealing) (zab s_first_dealing) .none kV26 dc26 pm26 an26 cd26 ct26),sl26⟩) (c26:PySem.W.codeIn K cd26 "first_dealing" = true) (k26:PySem.W.keepIn K (.ref f26)=true)
  (a27:PySem.W.findIn K (.ref C_Exam) "deal" = some (some (.ref f27))) (i27:PySem.W.isFn K (.ref f27)=true) (l27:K.lookup f27=some ⟨oc27,od27,.func (PySem.W.fnOf "deal" "Exam.deal" (zal s_Exam_deal) (zae s_Exam_deal) (zab s_Exam_deal) .none kV27 dc27 pm27 an27 cd27 ct27),sl27⟩) (c27:PySem.W.codeIn K cd27 "Exam.deal" = true) (k27:PySem.W.keepIn K (.ref f27)=true)
  (a28:PySem.W.findIn K (.ref C_Exam) "dealing" = some (some (.ref f28))) (i28:PySem.W.isFn K (.ref f28)=true) (l28:K.lookup f28=some ⟨oc28,od28,.func (PySem.W.fnOf "dealing" "Exam.dealing" (zal s_Exam_dealing) (zae s_Exam_dealing) (zab s_Exam_dealing) .none kV28 dc28 pm28 an28 cd28 ct28),sl28⟩) (c28:PySem.W.codeIn K cd28 "Exam.dealing" = true) (k28:PySem.W.keepIn K (.ref f28)=true)
  (a29:PySem.W.nsIn K mainGlobals "_law_not_behind" = some (some (.ref f29))) (l29:K.lookup f29=some ⟨oc29,od29,.func (PySem.W.fnOf "_law_not_behind" "_law_not_behind" (zal s_law_not_behind) (zae s_law_not_behind) (zab s_law_not_behind) .none kV29 dc29 pm29 an29 cd29 ct29),sl29⟩) (c29:PySem.W.codeIn K cd29 "_law_not_behind" = true) (k29:PySem.W.keepIn K (.ref f29)=true)
  (a30:PySem.W.nsIn K mainGlobals "_law_whole" = some (some (.ref f30))) (l30:K.lookup f30=some ⟨oc30,od30,.func (PySem.W.fnOf "_law_whole" "_law_whole" (zal s_law_whole) (zae s_law_whole) (zab s_law_whole) .none kV30 dc30 pm30 an30 cd30 ct30),sl30⟩) (c30:PySem.W.codeIn K cd30 "_law_whole" = true) (k30:PySem.W.keepIn K (.ref f30)=true)
  (a31:PySem.W.nsIn K mainGlobals "_law_pair" = some (some (.ref f31))) (l31:K.lookup f31=some ⟨oc31,od31,.func (PySem.W.fnOf "_law_pair" "_law_pair" (zal s_law_pair) (zae s_law_pair) (zab s_law_pair) .none kV31 dc31 pm31 an31 cd31 ct31),sl31⟩) (c31:PySem.W.codeIn K cd31 "_law_pair" = true) (k31:PySem.W.keepIn K (.ref f31)=true)
  (a32:PySem.W.nsIn K mainGlobals "_law_right" = some (some (.ref f32))) (l32:K.lookup f32=some ⟨oc32,od32,.func (PySem.W.fnOf "_law_right" "_law_right" (zal s_law_right) (zae s_law_right) (zab s_law_right) .none kV32 dc32 pm32 an32 cd32 ct32),sl32⟩) (c32:PySem.W.codeIn K cd32 "_law_right" = true) (k32:PySem.W.keepIn K (.ref f32)=true)
  (a33:PySem.W.nsIn K mainGlobals "_law_row" = some (some (.ref f33))) (l33:K.lookup f33=some ⟨oc33,od33,.func (PySem.W.fnOf "_law_row" "_law_row" (zal s_law_row) (zae s_law_row) (zab s_law_row) .none kV33 dc33 pm33 an33 cd33 ct33),sl33⟩) (c33:PySem.W.codeIn K cd33 "_law_row" = true) (k33:PySem.W.keepIn K (.ref f33)=true)
  (a34:PySem.W.nsIn K mainGlobals "_law_rows" = some (some (.ref f34))) (l34:K.lookup f34=some ⟨oc34,od34,.func (PySem.W.fnOf "_law_rows" "_law_rows" (zal s_law_rows) (zae s_law_rows) (zab s_law_rows) .none kV34 dc34 pm34 an34 cd34 ct34),sl34⟩) (c34:PySem.W.codeIn K cd34 "_law_rows" = true) (k34:PySem.W.keepIn K (.ref f34)=true)
  (a35:PySem.W.findIn K (.ref C_Exam) "readers" = some (some (.ref f35))) (i35:PySem.W.isFn K (.ref f35)=true) (l35:K.lookup f35=some ⟨oc35,od35,.func (PySem.W.fnOf "readers" "Exam.readers" (zal s_Exam_readers) (zae s_Exam_readers) (zab s_Exam_readers) .none kV35 dc35 pm35 an35 cd35 ct35),sl35⟩) (c35:PySem.W.codeIn K cd35 "Exam.readers" = true) (k35:PySem.W.keepIn K (.ref f35)=true)
  (a36:PySem.W.findIn K (.ref C_Exam) "papers" = some (some (.ref f36))) (i36:PySem.W.isFn K (.ref f36)=true) (l36:K.lookup f36=some ⟨oc36,od36,.func (PySem.W.fnOf "papers" "Exam.papers" (zal s_Exam_papers) (zae s_Exam_papers) (zab s_Exam_papers) .none kV36 dc36 pm36 an36 cd36 ct36),sl36⟩) (c36:PySem.W.codeIn K cd36 "Exam.papers" = true) (k36:PySem.W.keepIn K (.ref f36)=true)
  (a37:PySem.W.nsIn K mainGlobals "greatest_of" = some (some (.ref f37))) (l37:K.lookup f37=some ⟨oc37,od37,.func (PySem.W.fnOf "greatest_of" "greatest_of" (zal s_greatest_of) (zae s_greatest_of) (zab s_greatest_of) .none kV37 dc37 pm37 an37 cd37 ct37),sl37⟩) (c37:PySem.W.codeIn K cd37 "greatest_of" = true) (k37:PySem.W.keepIn K (.ref f37)=true)
  (a38:PySem.W.nsIn K mainGlobals "sets_one_larger" = some (some (.ref f38))) (l38:K.lookup f38=some ⟨oc38,od38,.func (PySem.W.fnOf "sets_one_larger" "sets_one_larger" (zal s_sets_one_larger) (zae s_sets_one_larger) (zab s_sets_one_larger) .none kV38 dc38 pm38 an38 cd38 ct38),sl38⟩) (c38:PySem.W.codeIn K cd38 "sets_one_larger" = true) (k38:PySem.W.keepIn K (.ref f38)=true)
  (a39:PySem.W.nsIn K mainGlobals "sets_of" = some (some (.ref f39))) (l39:K.lookup f39=some ⟨oc39,od39,.func (PySem.W.fnOf "sets_of" "sets_of" (zal s_sets_of) (zae s_sets_of) (zab s_sets_of) .none kV39 dc39 pm39 an39 cd39 ct39),sl39⟩) (c39:PySem.W.codeIn K cd39 "sets_of" = true) (k39:PySem.W.keepIn K (.ref f39)=true)
  (a40:PySem.W.nsIn K mainGlobals "room_of" = some (some (.ref f40))) (l40:K.lookup f40=some ⟨oc40,od40,.func (PySem.W.fnOf "room_of" "room_of" (zal s_room_of) (zae s_room_of) (zab s_room_of) .none kV40 dc40 pm40 an40 cd40 ct40),sl40⟩) (c40:PySem.W.codeIn K cd40 "room_of" = true) (k40:PySem.W.keepIn K (.ref f40)=true)
  (a41:PySem.W.nsIn K mainGlobals "room" = some (some (.ref f41))) (l41:K.lookup f41=some ⟨oc41,od41,.func (PySem.W.fnOf "room" "room" (zal s_room) (zae s_room) (zab s_room) .none kV41 dc41 pm41 an41 cd41 ct41),sl41⟩) (c41:PySem.W.codeIn K cd41 "room" = true) (k41:PySem.W.keepIn K (.ref f41)=true)
  (a42:PySem.W.nsIn K mainGlobals "is_against" = some (some (.ref f42))) (l42:K.lookup f42=some ⟨oc42,od42,.func (PySem.W.fnOf "is_against" "is_against" (zal s_is_against) (zae s_is_against) (zab s_is_against) .none kV42 dc42 pm42 an42 cd42 ct42),sl42⟩) (c42:PySem.W.codeIn K cd42 "is_against" = true) (k42:PySem.W.keepIn K (.ref f42)=true)
  (a43:PySem.W.nsIn K mainGlobals "first_against" = some (some (.ref f43))) (l43:K.lookup f43=some ⟨oc43,od43,.func (PySem.W.fnOf "first_against" "first_against" (zal s_first_against) (zae s_first_against) (zab s_first_against) .none kV43 dc43 pm43 an43 cd43 ct43),sl43⟩) (c43:PySem.W.codeIn K cd43 "first_against" = true) (k43:PySem.W.keepIn K (.ref f43)=true)
  (a44:PySem.W.findIn K (.ref C_Exam) "against" = some (some (.ref f44))) (i44:PySem.W.isFn K (.ref f44)=true) (l44:K.lookup f44=some ⟨oc44,od44,.func (PySem.W.fnOf "against" "Exam.against" (zal s_Exam_against) (zae s_Exam_against) (zab s_Exam_against) .none kV44 dc44 pm44 an44 cd44 ct44),sl44⟩) (c44:PySem.W.codeIn K cd44 "Exam.against" = true) (k44:PySem.W.keepIn K (.ref f44)=true)
  (a45:PySem.W.findIn K (.ref C_Exam) "dealt" = some (some (.ref f45))) (i45:PySem.W.isFn K (.ref f45)=true) (l45:K.lookup f45=some ⟨oc45,od45,.func (PySem.W.fnOf "dealt" "Exam.dealt" (zal s_Exam_dealt) (zae s_Exam_dealt) (zab s_Exam_dealt) .none kV45 dc45 pm45 an45 cd45 ct45),sl45⟩) (c45:PySem.W.codeIn K cd45 "Exam.dealt" = true) (k45:PySem.W.keepIn K (.ref f45)=true)
  (a46:PySem.W.findIn K (.ref C_Exam) "step" = some (some (.ref f46))) (i46:PySem.W.isFn K (.ref f46)=true) (l46:K.lookup f46=some ⟨oc46,od46,.func (PySem.W.fnOf "step" "Exam.step" (zal s_Exam_step) (zae s_Exam_step) (zab s_Exam_step) .none kV46 dc46 pm46 an46 cd46 ct46),sl46⟩) (c46:PySem.W.codeIn K cd46 "Exam.step" = true) (k46:PySem.W.keepIn K (.ref f46)=true)
  (a47:PySem.W.nsIn K mainGlobals "_law_kept" = some (some (.ref f47))) (l47:K.lookup f47=some ⟨oc47,od47,.func (PySem.W.fnOf "_law_kept" "_law_kept" (zal s_law_kept) (zae s_law_kept) (zab s_law_kept) .none kV47 dc47 pm47 an47 cd47 ct47),sl47⟩) (c47:PySem.W.codeIn K cd47 "_law_kept" = true) (k47:PySem.W.keepIn K (.ref f47)=true)
  (a48:PySem.W.findIn K (.ref C_Exam) "due_readers" = some (some (.ref f48))) (i48:PySem.W.isFn K (.ref f48)=true) (l48:K.lookup f48=some ⟨oc48,od48,.func (PySem.W.fnOf "due_readers" "Exam.due_readers" (zal s_Exam_due_readers) (zae s_Exam_due_readers) (zab s_Exam_due_readers) .none kV48 dc48 pm48 an48 cd48 ct48),sl48⟩) (c48:PySem.W.codeIn K cd48 "Exam.due_readers" = true) (k48:PySem.W.keepIn K (.ref f48)=true)
  (a49:PySem.W.findIn K (.ref C_Exam) "due" = some (some (.ref f49))) (i49:PySem.W.isFn K (.ref f49)=true) (l49:K.lookup f49=some ⟨oc49,od49,.func (PySem.W.fnOf "due" "Exam.due" (zal s_Exam_due) (zae s_Exam_due) (zab s_Exam_due) .none kV49 dc49 pm49 an49 cd49 ct49),sl49⟩) (c49:PySem.W.codeIn K cd49 "Exam.due" = true) (k49:PySem.W.keepIn K (.ref f49)=true)
  (a50:PySem.W.nsIn K mainGlobals "_law_none" = some (some (.ref f50))) (l50:K.lookup f50=some ⟨oc50,od50,.func (PySem.W.fnOf "_law_none" "_law_none" (zal s_law_none) (zae s_law_none) (zab s_law_none) .none kV50 dc50 pm50 an50 cd50 ct50),sl50⟩) (c50:PySem.W.codeIn K cd50 "_law_none" = true) (k50:PySem.W.keepIn K (.ref f50)=true)
  (a51:PySem.W.findIn K (.ref C_Exam) "points_for" = some (some (.ref f51))) (i51:PySem.W.isFn K (.ref f51)=true) (l51:K.lookup f51=some ⟨oc51,od51,.func (PySem.W.fnOf "points_for" "Exam.points_for" (zal s_Exam_points_for) (zae s_Exam_points_for) (zab s_Exam_points_for) .none kV51 dc51 pm51 an51 cd51 ct51),sl51⟩) (c51:PySem.W.codeIn K cd51 "Exam.points_for" = true) (k51:PySem.W.keepIn K (.ref f51)=true)
  (a52:PySem.W.nsIn K mainGlobals "greatest_divisor" = some (some (.ref f52))) (l52:K.lookup f52=some ⟨oc52,od52,.func (PySem.W.fnOf "greatest_divisor" "greatest_divisor" (zal s_greatest_divisor) (zae s_greatest_divisor) (zab s_greatest_divisor) .none kV52 dc52 pm52 an52 cd52 ct52),sl52⟩) (c52:PySem.W.codeIn K cd52 "greatest_divisor" = true) (k52:PySem.W.keepIn K (.ref f52)=true)
  (a53:PySem.W.nsIn K mainGlobals "lowest" = some (some (.ref f53))) (l53:K.lookup f53=some ⟨oc53,od53,.func (PySem.W.fnOf "lowest" "lowest" (zal s_lowest) (zae s_lowest) (zab s_lowest) .none kV53 dc53 pm53 an53 cd53 ct53),sl53⟩) (c53:PySem.W.codeIn K cd53 "lowest" = true) (k53:PySem.W.keepIn K (.ref f53)=true)
  (a54:PySem.W.nsIn K mainGlobals "middle_of" = some (some (.ref f54))) (l54:K.lookup f54=some ⟨oc54,od54,.func (PySem.W.fnOf "middle_of" "middle_of" (zal s_middle_of) (zae s_middle_of) (zab s_middle_of) .none kV54 dc54 pm54 an54 cd54 ct54),sl54⟩) (c54:PySem.W.codeIn K cd54 "middle_of" = true) (k54:PySem.W.keepIn K (.ref f54)=true)
  (a55:PySem.W.nsIn K mainGlobals "agree" = some (some (.ref f55))) (l55:K.lookup f55=some ⟨oc55,od55,.func (PySem.W.fnOf "agree" "agree" (zal s_agree) (zae s_agree) (zab s_agree) .none kV55 dc55 pm55 an55 cd55 ct55),sl55⟩) (c55:PySem.W.codeIn K cd55 "agree" = true) (k55:PySem.W.keepIn K (.ref f55)=true)
  (a56:PySem.W.nsIn K mainGlobals "mark_of" = some (some (.ref f56))) (l56:K.lookup f56=some ⟨oc56,od56,.func (PySem.W.fnOf "mark_of" "mark_of" (zal s_mark_of) (zae s_mark_of) (zab s_mark_of) .none kV56 dc56 pm56 an56 cd56 ct56),sl56⟩) (c56:PySem.W.codeIn K cd56 "mark_of" = true) (k56:PySem.W.keepIn K (.ref f56)=true)
  (a57:PySem.W.findIn K (.ref C_Exam) "mark_for" = some (some (.ref f57))) (i57:PySem.W.isFn K (.ref f57)=true) (l57:K.lookup f57=some ⟨oc57,od57,.func (PySem.W.fnOf "mark_for" "Exam.mark_for" (zal s_Exam_mark_for) (zae s_Exam_mark_for) (zab s_Exam_mark_for) .none kV57 dc57 pm57 an57 cd57 ct57),sl57⟩) (c57:PySem.W.codeIn K cd57 "Exam.mark_for" = true) (k57:PySem.W.keepIn K (.ref f57)=true)
  (a58:PySem.W.findIn K (.ref C_Exam) "marks" = some (some (.ref f58))) (i58:PySem.W.isFn K (.ref f58)=true) (l58:K.lookup f58=some ⟨oc58,od58,.func (PySem.W.fnOf "marks" "Exam.marks" (zal s_Exam_marks) (zae s_Exam_marks) (zab s_Exam_marks) .none kV58 dc58 pm58 an58 cd58 ct58),sl58⟩) (c58:PySem.W.codeIn K cd58 "Exam.marks" = true) (k58:PySem.W.keepIn K (.ref f58)=true)
  (a59:PySem.W.nsIn K mainGlobals "_law_spare" = some (some (.ref f59))) (l59:K.lookup f59=some ⟨oc59,od59,.func (PySem.W.fnOf "_law_spare" "_law_spare" (zal s_law_spare) (zae s_law_spare) (zab s_law_spare) .none kV59 dc59 pm59 an59 cd59 ct59),sl59⟩) (c59:PySem.W.codeIn K cd59 "_law_spare" = true) (k59:PySem.W.keepIn K (.ref f59)=true)
  (a60:PySem.W.findIn K (.ref C_Exam) "left" = some (some (.ref f60))) (i60:PySem.W.isFn K (.ref f60)=true) (l60:K.lookup f60=some ⟨oc60,od60,.func (PySem.W.fnOf "left" "Exam.left" (zal s_Exam_left) (zae s_Exam_left) (zab s_Exam_left) .none kV60 dc60 pm60 an60 cd60 ct60),sl60⟩) (c60:PySem.W.codeIn K cd60 "Exam.left" = true) (k60:PySem.W.keepIn K (.ref f60)=true)
  (a61:PySem.W.nsIn K mainGlobals "law" = some (some (.ref f61))) (l61:K.lookup f61=some ⟨oc61,od61,.func (PySem.W.fnOf "law" "law" (zal s_law) (zae s_law) (zab s_law) .none kV61 dc61 pm61 an61 cd61 ct61),sl61⟩) (c61:PySem.W.codeIn K cd61 "law" = true) (k61:PySem.W.keepIn K (.ref f61)=true)
  (z_abs:PySem.W.nsIn K mainGlobals "abs" = some none)
  (z_all:PySem.W.nsIn K mainGlobals "all" = some none)
  (z_bool:PySem.W.nsIn K mainGlobals "bool" = some none)
  (z_enumerate:PySem.W.nsIn K mainGlobals "enumerate" = some none)
  (z_int:PySem.W.nsIn K mainGlobals "int" = some none)
  (z_isinstance:PySem.W.nsIn K mainGlobals "isinstance" = some none)
  (z_len:PySem.W.nsIn K mainGlobals "len" = some none)
  (z_list:PySem.W.nsIn K mainGlobals "list" = some none)
  (z_max:PySem.W.nsIn K mainGlobals "max" = some none)
  (z_min:PySem.W.nsIn K mainGlobals "min" = some none)
  (z_range:PySem.W.nsIn K mainGlobals "range" = some none)
  (z_sorted:PySem.W.nsIn K mainGlobals "sorted" = some none)
  (z_sum:PySem.W.nsIn K mainGlobals "sum" = some none)
  (z_zip:PySem.W.nsIn K mainGlobals "zip" = some none)
  (pg_Attempt:PySem.W.plainGet K C_Attempt Str.empty=true) (hd_Attempt:PySem.W.hasDictIn K C_Attempt=true) (po_Attempt:PySem.W.plainOver K C_Attempt=true) (sa_Attempt:PySem.W.findIn K (.ref C_Attempt) "__setattr__" = some (some (.builtin "object.__setattr__"))) (mk_Attempt:PySem.W.makesIn K C_Attempt=true) (kc_Attempt:PySem.W.keepIn K (.ref C_Attempt)=true)
  (n_Attempt_allowed:PySem.W.findIn K (.ref C_Attempt) "allowed" = some none)
  (n_Attempt_given:PySem.W.findIn K (.ref C_Attempt) "given" = some none)
  (n_Attempt_spare:PySem.W.findIn K (.ref C_Attempt) "spare" = some none)
  (pg_Exam:PySem.W.plainGet K C_Exam Str.empty=true) (hd_Exam:PySem.W.hasDictIn K C_Exam=true) (po_Exam:PySem.W.plainOver K C_Exam=true) (sa_Exam:PySem.W.findIn K (.ref C_Exam) "__setattr__" = some (some (.builtin "object.__setattr__"))) (mk_Exam:PySem.W.makesIn K C_Exam=true) (kc_Exam:PySem.W.keepIn K (.ref C_Exam)=true)
  (n_Exam_paper_houses:PySem.W.findIn K (.ref C_Exam) "paper_houses" = some none)
  (n_Exam_reader_rows:PySem.W.findIn K (.ref C_Exam) "reader_rows" = some none)
  (n_Exam_widest_step:PySem.W.findIn K (.ref C_Exam) "widest_step" = some none)
  (n_Exam_is_dealt:PySem.W.findIn K (.ref C_Exam) "is_dealt" = some none)
  (n_Exam_named_readers:PySem.W.findIn K (.ref C_Exam) "named_readers" = some none)
  (n_Exam_entered_points:PySem.W.findIn K (.ref C_Exam) "entered_points" = some none)
  (v_READERS_EACH:PySem.W.nsIn K mainGlobals "READERS_EACH" = some (some (.int 2 tk_READERS_EACH)))
  (v_MOST_HOUSES:PySem.W.nsIn K mainGlobals "MOST_HOUSES" = some (some (.int 6 tk_MOST_HOUSES)))
  (v_MOST_PAPERS:PySem.W.nsIn K mainGlobals "MOST_PAPERS" = some (some (.int 10 tk_MOST_PAPERS)))
  (v_MOST_LIMIT:PySem.W.nsIn K mainGlobals "MOST_LIMIT" = some (some (.int 30 tk_MOST_LIMIT)))
  (v_MOST_READERS:PySem.W.nsIn K mainGlobals "MOST_READERS" = some (some (.int 8 tk_MOST_READERS)))
  (v_MOST_STEP:PySem.W.nsIn K mainGlobals "MOST_STEP" = some (some (.int 100 tk_MOST_STEP)))
  : ∃ fd:FuncData,(∀ (s:Shared) (v:Value),BindsTo s fd ⟨[v],[]⟩ [("_law_script",v)])∧∀ base:Heap,K.In base→base.Ns mainGlobals mg→FnOk l.prog w K mg base CX0 23 fa fd ["_law_script"] (zgs K):=by
 have e:=hfa.symm.trans (PySem.W.mg_of X G a61)
 cases e
 have F0:=zat (st:=s_law_at) l0 c0 k0
 have F1:=zat (st:=s_law_planted) l1 c1 k1
 have F2:=zat (st:=s_law_step) l2 c2 k2
 have F3:=zat (st:=s_Exam___init__) l3 c3 k3
 have F4:=zat (st:=s_Exam_refuse_behind_dealing) l4 c4 k4
 have F5:=zat (st:=s_refuse_out_of_bounds) l5 c5 k5
 have F6:=zat (st:=s_Exam_set_step) l6 c6 k6
 have F7:=zat (st:=s_refuse_unknown) l7 c7 k7
 have F8:=zat (st:=s_refuse_full) l8 c8 k8
 have F9:=zat (st:=s_Exam_bring_paper) l9 c9 k9
 have F10:=zat (st:=s_Exam_bring_reader) l10 c10 k10
 have F11:=zat (st:=s_law_exam) l11 c11 k11
 have F12:=zat (st:=s_law_truth) l12 c12 k12
 have F13:=zat (st:=s_pairs_of) l13 c13 k13
 have F14:=zat (st:=s_may_read) l14 c14 k14
 have F15:=zat (st:=s_readers_for) l15 c15 k15
 have F16:=zat (st:=s_times_in) l16 c16 k16
 have F17:=zat (st:=s_left_after) l17 c17 k17
 have F18:=zat (st:=s_keeps_to_limits) l18 c18 k18
 have F19:=zat (st:=s_Attempt___init__) l19 c19 k19
 have F20:=zat (st:=s_Attempt_free_reading) l20 c20 k20
 have F21:=zat (st:=s_Attempt_find_reader) l21 c21 k21
 have F22:=zat (st:=s_readers_suffice) l22 c22 k22
 have F23:=zat (st:=s_with_limits) l23 c23 k23
 have F24:=zat (st:=s_can_go_on) l24 c24 k24
 have F25:=zat (st:=s_first_row_behind) l25 c25 k25
 have F26:=zat (st:=s_first_dealing) l26 c26 k26
 have F27:=zat (st:=s_Exam_deal) l27 c27 k27
 have F28:=zat (st:=s_Exam_dealing) l28 c28 k28
 have F29:=zat (st:=s_law_not_behind) l29 c29 k29
 have F30:=zat (st:=s_law_whole) l30 c30 k30
 have F31:=zat (st:=s_law_pair) l31 c31 k31
 have F32:=zat (st:=s_law_right) l32 c32 k32
 have F33:=zat (st:=s_law_row) l33 c33 k33
 have F34:=zat (st:=s_law_rows) l34 c34 k34
 have F35:=zat (st:=s_Exam_readers) l35 c35 k35
 have F36:=zat (st:=s_Exam_papers) l36 c36 k36
 have F37:=zat (st:=s_greatest_of) l37 c37 k37
 have F38:=zat (st:=s_sets_one_larger) l38 c38 k38
 have F39:=zat (st:=s_sets_of) l39 c39 k39
 have F40:=zat (st:=s_room_of) l40 c40 k40
 have F41:=zat (st:=s_room) l41 c41 k41
 have F42:=zat (st:=s_is_against) l42 c42 k42
 have F43:=zat (st:=s_first_against) l43 c43 k43
 have F44:=zat (st:=s_Exam_against) l44 c44 k44
 have F45:=zat (st:=s_Exam_dealt) l45 c45 k45
 have F46:=zat (st:=s_Exam_step) l46 c46 k46
 have F47:=zat (st:=s_law_kept) l47 c47 k47
 have F48:=zat (st:=s_Exam_due_readers) l48 c48 k48
 have F49:=zat (st:=s_Exam_due) l49 c49 k49
 have F50:=zat (st:=s_law_none) l50 c50 k50
 have F51:=zat (st:=s_Exam_points_for) l51 c51 k51
 have F52:=zat (st:=s_greatest_divisor) l52 c52 k52
 have F53:=zat (st:=s_lowest) l53 c53 k53
 have F54:=zat (st:=s_middle_of) l54 c54 k54
 have F55:=zat (st:=s_agree) l55 c55 k55
 have F56:=zat (st:=s_mark_of) l56 c56 k56
 have F57:=zat (st:=s_Exam_mark_for) l57 c57 k57
 have F58:=zat (st:=s_Exam_marks) l58 c58 k58
 have F59:=zat (st:=s_law_spare) l59 c59 k59
 have F60:=zat (st:=s_Exam_left) l60 c60 k60
 have F61:=zat (st:=s_law) l61 c61 k61
 have T:Txt K mg ⟨_,_,_,_,_,_,_,_,_,_,_,_,_,_,_,_,_,_,_,_,_,_,_,_,_,_,_,_,_,_,_,_,_,_,_,_,_,_,_,_,_,_,_,_,_,_,_,_,_,_,_,_,_,_,_,_,_,_,_,_,_,_,_,_,_,_,_,_,_,_,_,_,_,_,_,_,_,_,_,_,_,_,_,_,_,_,_,_,_,_,_,_,_,_,_,_,_,_,_,_,_,_,_,_,_,_,_,_,_,_,_,_,_,_,_,_,_,_,_,_,_,_,_,_,_,_,_,_,_,_,_,_⟩:=⟨F0,F0.binds (ps:=["_law_script","_law_k"]) (fun _ _ _ _ _ _ us hl=>match us,hl with | [_,_],_=>rfl),PySem.W.mg_of X G a0,F1,F1.binds (ps:=["_law_script","_law_first","_law_least"]) (fun _ _ _ _ _ _ us hl=>match us,hl with | [_,_,_],_=>rfl),PySem.W.mg_of X G a1,F2,F2.binds (ps:=["_law_cell"]) (fun _ _ _ _ _ _ us hl=>match us,hl with | [_],_=>rfl),PySem.W.mg_of X G a2,F3,F3.binds (ps:=["self"]) (fun _ _ _ _ _ _ us hl=>match us,hl with | [_],_=>rfl),⟨mk_Exam,a3,i3,kc_Exam⟩,F4,F4.binds (ps:=["self"]) (fun _ _ _ _ _ _ us hl=>match us,hl with | [_],_=>rfl),⟨a4,i4,k4⟩,F5,F5.binds (ps:=["number","most"]) (fun _ _ _ _ _ _ us hl=>match us,hl with | [_,_],_=>rfl),PySem.W.mg_of X G a5,F6,F6.binds (ps:=["self","step"]) (fun _ _ _ _ _ _ us hl=>match us,hl with | [_,_],_=>rfl),⟨a6,i6,k6⟩,F7,F7.binds (ps:=["number","least","most"]) (fun _ _ _ _ _ _ us hl=>match us,hl with | [_,_,_],_=>rfl),PySem.W.mg_of X G a7,F8,F8.binds (ps:=["many","most"]) (fun _ _ _ _ _ _ us hl=>match us,hl with | [_,_],_=>rfl),PySem.W.mg_of X G a8,F9,F9.binds (ps:=["self","house"]) (fun _ _ _ _ _ _ us hl=>match us,hl with | [_,_],_=>rfl),⟨a9,i9,k9⟩,F10,F10.binds (ps:=["self","house","limit"]) (fun _ _ _ _ _ _ us hl=>match us,hl with | [_,_,_],_=>rfl),⟨a10,i10,k10⟩,F11,F11.binds (ps:=["_law_homes","_law_staff","_law_step_here","_law_turn"]) (fun _ _ _ _ _ _ us hl=>match us,hl with | [_,_,_,_],_=>rfl),PySem.W.mg_of X G a11,F12,F12.binds (ps:=["_law_found","_law_due"]) (fun _ _ _ _ _ _ us hl=>match us,hl with | [_,_],_=>rfl),PySem.W.mg_of X G a12,F13,F13.binds (ps:=["numbers"]) (fun _ _ _ _ _ _ us hl=>match us,hl with | [_],_=>rfl),PySem.W.mg_of X G a13,F14,F14.binds (ps:=["papers","readers","paper","reader"]) (fun _ _ _ _ _ _ us hl=>match us,hl with | [_,_,_,_],_=>rfl),PySem.W.mg_of X G a14,F15,F15.binds (ps:=["papers","readers","paper"]) (fun _ _ _ _ _ _ us hl=>match us,hl with | [_,_,_],_=>rfl),PySem.W.mg_of X G a15,F16,F16.binds (ps:=["rows","reader"]) (fun _ _ _ _ _ _ us hl=>match us,hl with | [_,_],_=>rfl),PySem.W.mg_of X G a16,F17,F17.binds (ps:=["readers","rows"]) (fun _ _ _ _ _ _ us hl=>match us,hl with | [_,_],_=>rfl),PySem.W.mg_of X G a17,F18,F18.binds (ps:=["readers","rows"]) (fun _ _ _ _ _ _ us hl=>match us,hl with | [_,_],_=>rfl),PySem.W.mg_of X G a18,F19,F19.binds (ps:=["self","papers","readers"]) (fun _ _ _ _ _ _ us hl=>match us,hl with | [_,_,_],_=>rfl),⟨mk_Attempt,a19,i19,kc_Attempt⟩,F20,F20.binds (ps:=["self","reader","asked"]) (fun _ _ _ _ _ _ us hl=>match us,hl with | [_,_,_],_=>rfl),⟨a20,i20,k20⟩,F21,F21.binds (ps:=["self","paper","asked"]) (fun _ _ _ _ _ _ us hl=>match us,hl with | [_,_,_],_=>rfl),⟨a21,i21,k21⟩,F22,F22.binds (ps:=["papers","readers"]) (fun _ _ _ _ _ _ us hl=>match us,hl with | [_,_],_=>rfl),PySem.W.mg_of X G a22,F23,F23.binds (ps:=["readers","limits"]) (fun _ _ _ _ _ _ us hl=>match us,hl with | [_,_],_=>rfl),PySem.W.mg_of X G a23,F24,F24.binds (ps:=["papers","readers","rows"]) (fun _ _ _ _ _ _ us hl=>match us,hl with | [_,_,_],_=>rfl),PySem.W.mg_of X G a24,F25,F25.binds (ps:=["papers","readers","rows"]) (fun _ _ _ _ _ _ us hl=>match us,hl with | [_,_,_],_=>rfl),PySem.W.mg_of X G a25,F26,F26.binds (ps:=["papers","readers"]) (fun _ _ _ _ _ _ us hl=>match us,hl with | [_,_],_=>rfl),PySem.W.mg_of X G a26,F27,F27.binds (ps:=["self"]) (fun _ _ _ _ _ _ us hl=>match us,hl with | [_],_=>rfl),⟨a27,i27,k27⟩,F28,F28.binds (ps:=["self"]) (fun _ _ _ _ _ _ us hl=>match us,hl with | [_],_=>rfl),⟨a28,i28,k28⟩,F29,F29.binds (ps:=["_law_told","_law_rival"]) (fun _ _ _ _ _ _ us hl=>match us,hl with | [_,_],_=>rfl),PySem.W.mg_of X G a29,F30,F30.binds (ps:=["_law_found"]) (fun _ _ _ _ _ _ us hl=>match us,hl with | [_],_=>rfl),PySem.W.mg_of X G a30,F31,F31.binds (ps:=["_law_staff","_law_house","_law_row_here"]) (fun _ _ _ _ _ _ us hl=>match us,hl with | [_,_,_],_=>rfl),PySem.W.mg_of X G a31,F32,F32.binds (ps:=["_law_homes","_law_staff","_law_rows_here"]) (fun _ _ _ _ _ _ us hl=>match us,hl with | [_,_,_],_=>rfl),PySem.W.mg_of X G a32,F33,F33.binds (ps:=["_law_found","_law_due"]) (fun _ _ _ _ _ _ us hl=>match us,hl with | [_,_],_=>rfl),PySem.W.mg_of X G a33,F34,F34.binds (ps:=["_law_found","_law_due"]) (fun _ _ _ _ _ _ us hl=>match us,hl with | [_,_],_=>rfl),PySem.W.mg_of X G a34,F35,F35.binds (ps:=["self"]) (fun _ _ _ _ _ _ us hl=>match us,hl with | [_],_=>rfl),⟨a35,i35,k35⟩,F36,F36.binds (ps:=["self"]) (fun _ _ _ _ _ _ us hl=>match us,hl with | [_],_=>rfl),⟨a36,i36,k36⟩,F37,F37.binds (ps:=["chosen"]) (fun _ _ _ _ _ _ us hl=>match us,hl with | [_],_=>rfl),PySem.W.mg_of X G a37,F38,F38.binds (ps:=["of_one_size","many"]) (fun _ _ _ _ _ _ us hl=>match us,hl with | [_,_],_=>rfl),PySem.W.mg_of X G a38,F39,F39.binds (ps:=["many"]) (fun _ _ _ _ _ _ us hl=>match us,hl with | [_],_=>rfl),PySem.W.mg_of X G a39,F40,F40.binds (ps:=["papers","readers","chosen","reader"]) (fun _ _ _ _ _ _ us hl=>match us,hl with | [_,_,_,_],_=>rfl),PySem.W.mg_of X G a40,F41,F41.binds (ps:=["papers","readers","chosen"]) (fun _ _ _ _ _ _ us hl=>match us,hl with | [_,_,_],_=>rfl),PySem.W.mg_of X G a41,F42,F42.binds (ps:=["papers","readers","chosen"]) (fun _ _ _ _ _ _ us hl=>match us,hl with | [_,_,_],_=>rfl),PySem.W.mg_of X G a42,F43,F43.binds (ps:=["papers","readers"]) (fun _ _ _ _ _ _ us hl=>match us,hl with | [_,_],_=>rfl),PySem.W.mg_of X G a43,F44,F44.binds (ps:=["self"]) (fun _ _ _ _ _ _ us hl=>match us,hl with | [_],_=>rfl),⟨a44,i44,k44⟩,F45,F45.binds (ps:=["self"]) (fun _ _ _ _ _ _ us hl=>match us,hl with | [_],_=>rfl),⟨a45,i45,k45⟩,F46,F46.binds (ps:=["self"]) (fun _ _ _ _ _ _ us hl=>match us,hl with | [_],_=>rfl),⟨a46,i46,k46⟩,F47,F47.binds (ps:=["_law_exam_here","_law_homes","_law_staff","_law_step_here","_law_names"]) (fun _ _ _ _ _ _ us hl=>match us,hl with | [_,_,_,_,_],_=>rfl),PySem.W.mg_of X G a47,F48,F48.binds (ps:=["self","paper"]) (fun _ _ _ _ _ _ us hl=>match us,hl with | [_,_],_=>rfl),⟨a48,i48,k48⟩,F49,F49.binds (ps:=["self"]) (fun _ _ _ _ _ _ us hl=>match us,hl with | [_],_=>rfl),⟨a49,i49,k49⟩,F50,F50.binds (ps:=["_law_found","_law_many"]) (fun _ _ _ _ _ _ us hl=>match us,hl with | [_,_],_=>rfl),PySem.W.mg_of X G a50,F51,F51.binds (ps:=["self","paper"]) (fun _ _ _ _ _ _ us hl=>match us,hl with | [_,_],_=>rfl),⟨a51,i51,k51⟩,F52,F52.binds (ps:=["one","other"]) (fun _ _ _ _ _ _ us hl=>match us,hl with | [_,_],_=>rfl),PySem.W.mg_of X G a52,F53,F53.binds (ps:=["top","bottom"]) (fun _ _ _ _ _ _ us hl=>match us,hl with | [_,_],_=>rfl),PySem.W.mg_of X G a53,F54,F54.binds (ps:=["points"]) (fun _ _ _ _ _ _ us hl=>match us,hl with | [_],_=>rfl),PySem.W.mg_of X G a54,F55,F55.binds (ps:=["one","other","step"]) (fun _ _ _ _ _ _ us hl=>match us,hl with | [_,_,_],_=>rfl),PySem.W.mg_of X G a55,F56,F56.binds (ps:=["points","step"]) (fun _ _ _ _ _ _ us hl=>match us,hl with | [_,_],_=>rfl),PySem.W.mg_of X G a56,F57,F57.binds (ps:=["self","paper"]) (fun _ _ _ _ _ _ us hl=>match us,hl with | [_,_],_=>rfl),⟨a57,i57,k57⟩,F58,F58.binds (ps:=["self"]) (fun _ _ _ _ _ _ us hl=>match us,hl with | [_],_=>rfl),⟨a58,i58,k58⟩,F59,F59.binds (ps:=["_law_staff","_law_names"]) (fun _ _ _ _ _ _ us hl=>match us,hl with | [_,_],_=>rfl),PySem.W.mg_of X G a59,F60,F60.binds (ps:=["self"]) (fun _ _ _ _ _ _ us hl=>match us,hl with | [_],_=>rfl),⟨a60,i60,k60⟩,F61,F61.binds (ps:=["_law_script"]) (fun _ _ _ _ _ _ us hl=>match us,hl with | [_],_=>rfl),PySem.W.mg_of X G a61,⟨pg_Attempt,hd_Attempt,po_Attempt,sa_Attempt⟩,PySem.W.mg_of X G aC_Attempt,n_Attempt_allowed,n_Attempt_given,n_Attempt_spare,⟨pg_Exam,hd_Exam,po_Exam,sa_Exam⟩,PySem.W.mg_of X G aC_Exam,n_Exam_paper_houses,n_Exam_reader_rows,n_Exam_widest_step,n_Exam_is_dealt,n_Exam_named_readers,n_Exam_entered_points,PySem.W.mg_of X G v_READERS_EACH,⟨_,rfl⟩,PySem.W.mg_of X G v_MOST_HOUSES,⟨_,rfl⟩,PySem.W.mg_of X G v_MOST_PAPERS,⟨_,rfl⟩,PySem.W.mg_of X G v_MOST_LIMIT,⟨_,rfl⟩,PySem.W.mg_of X G v_MOST_READERS,⟨_,rfl⟩,PySem.W.mg_of X G v_MOST_STEP,⟨_,rfl⟩,PySem.W.mg_none_of X G z_abs,PySem.W.mg_none_of X G z_all,PySem.W.mg_none_of X G z_bool,PySem.W.mg_none_of X G z_enumerate,PySem.W.mg_none_of X G z_int,PySem.W.mg_none_of X G z_isinstance,PySem.W.mg_none_of X G z_len,PySem.W.mg_none_of X G z_list,PySem.W.mg_none_of X G z_max,PySem.W.mg_none_of X G z_min,PySem.W.mg_none_of X G z_range,PySem.W.mg_none_of X G z_sorted,PySem.W.mg_none_of X G z_sum,PySem.W.mg_none_of X G z_zip⟩
 exact ⟨_,fun s v=>.of_eq rfl,fun base _ _=>zm6 T⟩
theorem walk {l:PySem.W.OpenLaw} {q:Program} {loose:List Str} {XP:(Str→Option Value)→Heap→Prop} {YP:World→Heap→Prop} {d:DefRec} {K:Params→PySem.W.Frag} (hn:l.most=some 63) (hdf:d.params.defaults=[])
  (hY:∀ (w:World) (h:Heap),YP w h→(K w.params).In h)
  (F:∀ (w:World) (mg:Str→Option Value) (fa:Addr) (h:Heap),(K w.params).In h→h.Ns mainGlobals mg→mg d.name=some (.ref fa) →
   ∃ fd:FuncData,(∀ (s:Shared) (u:Value),BindsTo s fd ⟨[u],[]⟩ [("_law_script",u)])∧∀ base:Heap,(K w.params).In base→base.Ns mainGlobals mg→FnOk l.prog w (K w.params) mg base CX0 23 fa fd ["_law_script"] (zgs (K w.params))) :
  PySem.W.WalkO q loose XP YP l.row.toRowW d [] (fun f vs=>PySem.call f vs) :=
 L2.zls (n:=63) (k:=23) (x:="_law_script") (CX:=fun _=>CX0) (sp:=fun w=>zgs (K w.params)) hn (by decide) hdf ⟨rfl,by decide,by decide⟩ hY F (fun _ H a ns hl hO hS=>law_start hl hS) fun _ _ _ _ _ z=>z
end Prf
namespace PySem.W.Fast
theorem tw4221097629859910943:True:=trivial
theorem tw6836419156752677392:True:=trivial
theorem tw12967806305936099827:True:=trivial
theorem tw14178591215344435468:True:=trivial
theorem tw7738407408927228904:True:=trivial
theorem tw5378258765954700498:True:=trivial
theorem tw16720922480829444868:True:=trivial
theorem tw2718019451561880785:True:=trivial
theorem tw9475662252374502200:True:=trivial
theorem tw10190754440633188711:True:=trivial
theorem tw8290391023494625316:True:=trivial
theorem tw17394829952356173299:True:=trivial
theorem tw13312595710032012009:True:=trivial
theorem tw1729846432618095500:True:=trivial
theorem tw4489881287021074745:True:=trivial
theorem tw16928381544442389815:True:=trivial
theorem tw11052883270371483212:True:=trivial
theorem tw17658655153333557998:True:=trivial
theorem tw1719051545762349862:True:=trivial
theorem tw11222772625757128551:True:=trivial
theorem tw4352431916253816981:True:=trivial
theorem tw16889901553804756817:True:=trivial
theorem tw9559711475385278104:True:=trivial
theorem tw2522088230406918330:True:=trivial
theorem tw13067096528040660906:True:=trivial
theorem tw759515948565412672:True:=trivial
theorem tw3142647372882347937:True:=trivial
theorem tw15203244296936033283:True:=trivial
theorem tw2566371033053399886:True:=trivial
theorem tw7853174639676226313:True:=trivial
theorem tw6947298285437789671:True:=trivial
theorem tw16520103324812684797:True:=trivial
theorem tw13706990573791044466:True:=trivial
theorem tw16779963647497732748:True:=trivial
theorem tw2975891300939615463:True:=trivial
theorem tw1327008163504596304:True:=trivial
theorem tw6556572432589733909:True:=trivial
theorem tw7835266224580606231:True:=trivial
theorem tw9400773701747576434:True:=trivial
theorem tw6222642862914006436:True:=trivial
theorem tw17686308899184036605:True:=trivial
theorem tw8932958665100036856:True:=trivial
theorem tw17221522499285068745:True:=trivial
theorem tw13281972420250893409:True:=trivial
theorem tw18320743323116688807:True:=trivial
theorem tw17643343957845453712:True:=trivial
theorem tw18310632144698200656:True:=trivial
theorem tw12788047658149124034:True:=trivial
theorem tw16165072586984021016:True:=trivial
theorem tw2625027264563677305:True:=trivial
theorem tw9515296339331691559:True:=trivial
theorem tw1334123201916720933:True:=trivial
theorem tw11569901625913461609:True:=trivial
theorem tw7910558181692656408:True:=trivial
theorem tw1132717586237267484:True:=trivial
theorem tw10399491278113237549:True:=trivial
theorem tw6168548201959917562:True:=trivial
theorem tw17652366718215060528:True:=trivial
theorem tw3888487802446232959:True:=trivial
theorem tw18260375608548365278:True:=trivial
theorem tw10648426751955283623:True:=trivial
theorem tw16005194422236813884:True:=trivial
theorem tw9249548025373485280:True:=trivial
theorem tw8902804561480634049:True:=trivial
theorem tw15074316635215850195:True:=trivial
theorem tw8268111151103791744:True:=trivial
theorem tw16721541191607605762:True:=trivial
theorem tw9703209194306443791:True:=trivial
theorem tw10673885520453597880:True:=trivial
theorem tw4192010085192893448:True:=trivial
theorem tw5215755817572835804:True:=trivial
theorem tw14278242929308173747:True:=trivial
theorem tw3279501781156965658:True:=trivial
theorem tw2993977766102312484:True:=trivial
theorem tw5167365742664885657:True:=trivial
theorem tw2751940356406112336:True:=trivial
theorem tw3359438878518540609:True:=trivial
theorem tw18072451501422251145:True:=trivial
theorem tw3308992106729643991:True:=trivial
theorem tw15996147210359422889:True:=trivial
theorem tw11765716212946875444:True:=trivial
theorem tw14478986621288108775:True:=trivial
theorem tw981305627513961913:True:=trivial
theorem tw4265901060508422638:True:=trivial
theorem tw7456051142957698082:True:=trivial
theorem tw6485077640358958977:True:=trivial
theorem tw17339668815141236099:True:=trivial
theorem tw13070616386714072764:True:=trivial
theorem tw6705355144721816634:True:=trivial
theorem tw3813968657998738553:True:=trivial
theorem tw10020564103946083164:True:=trivial
theorem tw6249573159851411201:True:=trivial
theorem tw9080897160468964002:True:=trivial
theorem tw2732875080374617438:True:=trivial
theorem tw2206359075001244398:True:=trivial
theorem tw7988570914614744281:True:=trivial
theorem tw7061235680519767931:True:=trivial
theorem tw15020783152906320740:True:=trivial
theorem tw5493303918253106523:True:=trivial
theorem tw12109773026982611251:True:=trivial
theorem tw5444996917879558620:True:=trivial
theorem tw14394388483783315716:True:=trivial
theorem tw382982069898063668:True:=trivial
theorem tw447579753409867968:True:=trivial
theorem tw3563960562497621076:True:=trivial
theorem tw17544638766491881473:True:=trivial
theorem tw11176102884681439985:True:=trivial
theorem tw13299912761485450836:True:=trivial
theorem tw5408126487703185721:True:=trivial
theorem tw15745674958956815694:True:=trivial
theorem tw8126024203647499362:True:=trivial
theorem tw8931517894371751241:True:=trivial
theorem tw18444686186480562341:True:=trivial
theorem tw11038866822084464914:True:=trivial
theorem tw10547407537000205449:True:=trivial
theorem tw14857757873399223428:True:=trivial
theorem tw2586020908059521872:True:=trivial
theorem tw6176154494181332247:True:=trivial
theorem tw13442002619953103826:True:=trivial
theorem tw3531171769478711269:True:=trivial
theorem tw13913879966567923078:True:=trivial
theorem tw10270397199746155057:True:=trivial
theorem tw3175285839368465551:True:=trivial
theorem tw8808920157542398037:True:=trivial
theorem tw15788484593590416723:True:=trivial
theorem tw12023215444666376414:True:=trivial
theorem tw10969959391728424695:True:=trivial
theorem tw18186997209006274106:True:=trivial
theorem tw11290324261947014015:True:=trivial
theorem tw13249137929016519099:True:=trivial
theorem tw18078845308045705223:True:=trivial
theorem tw9638267715434218685:True:=trivial
theorem tw18104133510025364444:True:=trivial
theorem tw6559356865388616095:True:=trivial
theorem tw11908285322393271277:True:=trivial
theorem tw1033331208593604894:True:=trivial
theorem tw2569486929523422458:True:=trivial
theorem tw10433348600954294526:True:=trivial
theorem tw2418674805943033245:True:=trivial
theorem tw1697311578914840013:True:=trivial
theorem tw1112456755433339744:True:=trivial
theorem tw14613808173333280118:True:=trivial
theorem tw2793236417095368205:True:=trivial
theorem tw7556789290004037808:True:=trivial
theorem tw14455044146616392087:True:=trivial
theorem tw2981199434481544139:True:=trivial
theorem tw490394433696533922:True:=trivial
theorem tw2802656682447048226:True:=trivial
theorem tw18372256060213120399:True:=trivial
theorem tw6685769357916213932:True:=trivial
theorem tw15150829336138866075:True:=trivial
theorem tw14321131002348173847:True:=trivial
theorem tw17050363154307109268:True:=trivial
theorem tw17453332214301019007:True:=trivial
theorem tw11609478278081178820:True:=trivial
theorem tw10157688925642858541:True:=trivial
theorem tw3848755888776707753:True:=trivial
theorem tw1770813824155344685:True:=trivial
theorem tw2291829661571592235:True:=trivial
theorem tw1945706203716362019:True:=trivial
theorem tw4427339169870315074:True:=trivial
theorem tw15845979403962123386:True:=trivial
theorem tw18038170247209289474:True:=trivial
theorem tw16541164625628140719:True:=trivial
theorem tw6952385792073450216:True:=trivial
theorem tw8270243075106051417:True:=trivial
theorem tw14792277147226936748:True:=trivial
theorem tw10218029728891690453:True:=trivial
theorem tw1559793191314448067:True:=trivial
theorem tw2649706259505142999:True:=trivial
theorem tw5912544176298181310:True:=trivial
theorem tw4144213428488176758:True:=trivial
theorem tw16121869371903315663:True:=trivial
theorem tw6437025604464105777:True:=trivial
theorem tw1373512122968312823:True:=trivial
theorem tw15613795451076759443:True:=trivial
theorem tw17317771956214945286:True:=trivial
theorem tw18061352034825447385:True:=trivial
theorem tw6390997603288814310:True:=trivial
theorem tw6446073838799339928:True:=trivial
theorem tw17575553122974205526:True:=trivial
theorem tw10654140500155763213:True:=trivial
theorem tw6172593426866627515:True:=trivial
theorem tw11907202839455932307:True:=trivial
theorem tw13153855131097924220:True:=trivial
theorem tw16918429388855246300:True:=trivial
theorem tw9808135943209307202:True:=trivial
theorem tw2681347636750513640:True:=trivial
theorem tw2192660799618554299:True:=trivial
theorem tw5865629062478332314:True:=trivial
theorem tw10462832593537699419:True:=trivial
theorem tw9422212516187996642:True:=trivial
theorem tw71918536443708157:True:=trivial
theorem tw4432387124367112737:True:=trivial
theorem tw1490785872426624513:True:=trivial
theorem tw6175998329372596702:True:=trivial
theorem tw10897024008530467552:True:=trivial
theorem tw10659520738855537171:True:=trivial
theorem tw3524090144031307683:True:=trivial
theorem tw4531013761500315864:True:=trivial
theorem tw13612690482486369920:True:=trivial
theorem tw4773723223328683504:True:=trivial
theorem tw16840703108064493342:True:=trivial
theorem tw17699769970066321313:True:=trivial
theorem tw6910411154203243462:True:=trivial
theorem tw16692065926157181834:True:=trivial
theorem tw5037683628963419872:True:=trivial
theorem tw17864068832093844970:True:=trivial
theorem tw1600139607613396514:True:=trivial
theorem tw13070169817291592452:True:=trivial
theorem tw6845572969050462529:True:=trivial
theorem tw7503635720548950279:True:=trivial
theorem tw12330699808531795437:True:=trivial
theorem tw9839150140201574049:True:=trivial
theorem tw16144775894982932334:True:=trivial
theorem tw6408916695221449890:True:=trivial
theorem tw1654795338127921345:True:=trivial
theorem tw14284859517834596426:True:=trivial
theorem tw18389409327478228310:True:=trivial
theorem tw15692422076006186406:True:=trivial
theorem tw8110040287066934817:True:=trivial
theorem tw7982147049625355514:True:=trivial
theorem tw14117540694649195315:True:=trivial
theorem tw13367880024252517478:True:=trivial
theorem tw5265122851023713792:True:=trivial
theorem tw4678873159291557592:True:=trivial
theorem tw5738575523751896876:True:=trivial
theorem tw14469150578822858742:True:=trivial
theorem tw6594338665044588272:True:=trivial
theorem tw12487271172361011987:True:=trivial
theorem tw981822477921891120:True:=trivial
theorem tw8340960186128391043:True:=trivial
theorem tw9617638922348559425:True:=trivial
theorem tw8211923085055941675:True:=trivial
theorem tw1783802012761970311:True:=trivial
theorem tw5830597214751880848:True:=trivial
theorem tw10483788696289980220:True:=trivial
theorem tw227225963325906829:True:=trivial
theorem tw6267160146777347367:True:=trivial
theorem tw16504449086835130664:True:=trivial
theorem tw484714173107640199:True:=trivial
theorem tw3869439385373931043:True:=trivial
theorem tw10569095974474121549:True:=trivial
theorem tw8564062425361956024:True:=trivial
theorem tw5209717895326498284:True:=trivial
theorem tw9920306492246747058:True:=trivial
theorem tw11546498662913790101:True:=trivial
theorem tw14802688053348400383:True:=trivial
theorem tw9530164800403492368:True:=trivial
theorem tw17956381727200516097:True:=trivial
theorem tw1665178610433854539:True:=trivial
theorem tw4370207912644373151:True:=trivial
theorem tw11821382183931168030:True:=trivial
theorem tw16721747136843390710:True:=trivial
theorem tw5682879229970261384:True:=trivial
theorem tw12483191430354934470:True:=trivial
theorem tw5048811633600437211:True:=trivial
theorem tw7015068884291205020:True:=trivial
theorem tw17475968184176985357:True:=trivial
theorem tw1132035422973293402:True:=trivial
theorem tw8478485873645727186:True:=trivial
theorem tw7386599953906181780:True:=trivial
theorem tw5512649115725701344:True:=trivial
theorem tw7977110230761777081:True:=trivial
theorem tw9143443554556370337:True:=trivial
theorem tw3246974793876417185:True:=trivial
theorem tw3360219055485483579:True:=trivial
theorem tw9672874915777747007:True:=trivial
theorem tw14114945251600579327:True:=trivial
theorem tw3912011383323831297:True:=trivial
theorem tw15878069135795292245:True:=trivial
theorem tw5926235930670656815:True:=trivial
theorem tw4395424206267193164:True:=trivial
theorem tw9387830652388489090:True:=trivial
theorem tw3650865895945653344:True:=trivial
theorem tw15212632700008338904:True:=trivial
theorem tw11497607795989651000:True:=trivial
theorem tw9480277608310791399:True:=trivial
theorem tw6884054715492007816:True:=trivial
theorem tw10759902639941529511:True:=trivial
theorem tw6821036282706120939:True:=trivial
theorem tw16897825979132512712:True:=trivial
theorem tw9780149116526194654:True:=trivial
theorem tw2214170214165802825:True:=trivial
theorem tw6237732660260906602:True:=trivial
theorem tw17572467789704008572:True:=trivial
theorem tw11257623166934204941:True:=trivial
theorem tw7460206350109719075:True:=trivial
theorem tw7749382948875112600:True:=trivial
theorem tw11064503442137440226:True:=trivial
theorem tw18319390898174533645:True:=trivial
theorem tw10552075679860832259:True:=trivial
theorem tw2936888280232980981:True:=trivial
theorem tw12141856374146382540:True:=trivial
theorem tw12273539186988935308:True:=trivial
theorem tw2811662097957385297:True:=trivial
theorem tw9108953561592371808:True:=trivial
theorem tw18101602722360129459:True:=trivial
theorem tw14355670837065059922:True:=trivial
theorem tw12035876333512771367:True:=trivial
theorem tw2483159746695132432:True:=trivial
theorem tw2177061093381539368:True:=trivial
theorem tw16381746573621209997:True:=trivial
theorem tw2095931412052952723:True:=trivial
theorem tw6587218961935204264:True:=trivial
theorem tw14273522381512511208:True:=trivial
theorem tw18190491513902626407:True:=trivial
theorem tw187853458185797466:True:=trivial
theorem tw4737169374191389339:True:=trivial
theorem tw456231707966211619:True:=trivial
theorem tw7322991730519869177:True:=trivial
theorem tw14589028025157953777:True:=trivial
theorem tw194443195952475600:True:=trivial
theorem tw3325635882787218113:True:=trivial
theorem tw1605596774495410602:True:=trivial
theorem tw11606691553035543656:True:=trivial
theorem tw14233922093048511101:True:=trivial
theorem tw1009103582944885311:True:=trivial
theorem tw5440944058957696664:True:=trivial
theorem tw13305859663566897220:True:=trivial
theorem tw4872360012093390282:True:=trivial
theorem tw15956380352109263223:True:=trivial
theorem tw6372196975850417553:True:=trivial
theorem tw10708553440727390658:True:=trivial
theorem tw1848023021654327945:True:=trivial
theorem tw16348434518674246559:True:=trivial
theorem tw12723552467391538848:True:=trivial
theorem tw6686333795383629792:True:=trivial
theorem tw13183080673473470553:True:=trivial
theorem tw15049876866577797688:True:=trivial
theorem tw14348287555923653862:True:=trivial
theorem tw9525113945770406381:True:=trivial
theorem tw6038912067373503411:True:=trivial
theorem tw12779768856681702918:True:=trivial
theorem tw16786907219131281984:True:=trivial
theorem tw7306451500176881525:True:=trivial
theorem tw13932234225772454539:True:=trivial
theorem tw11905197067906956863:True:=trivial
theorem tw15429012563049103780:True:=trivial
theorem tw11138881702353568372:True:=trivial
theorem tw9477520709165609969:True:=trivial
theorem tw2804863549596372957:True:=trivial
theorem tw13902095931764776309:True:=trivial
theorem tw5477999012038529143:True:=trivial
theorem tw6663290762175772770:True:=trivial
theorem tw15362102262259556455:True:=trivial
theorem tw2082377370308291636:True:=trivial
theorem tw12020319297188175813:True:=trivial
theorem tw15707852141088459718:True:=trivial
theorem tw7892552699533910936:True:=trivial
theorem tw6821356177641495437:True:=trivial
theorem tw2983154151039666671:True:=trivial
theorem tw15727685684176180007:True:=trivial
theorem tw4093781279277164197:True:=trivial
theorem tw526221863634450504:True:=trivial
theorem tw146714588571559884:True:=trivial
theorem tw5704927105672990590:True:=trivial
theorem tw9729873484281743278:True:=trivial
theorem tw3883292209903051891:True:=trivial
theorem tw12980531182874316841:True:=trivial
theorem tw6389412070767851319:True:=trivial
theorem tw17207012009264993197:True:=trivial
theorem tw17569200447263387756:True:=trivial
theorem tw16245127000790016873:True:=trivial
theorem tw8816130982809085921:True:=trivial
theorem tw1153065963941049702:True:=trivial
theorem tw8707622532970171746:True:=trivial
theorem tw5587703062146390811:True:=trivial
theorem tw17887447197940886766:True:=trivial
theorem tw9776523794772264873:True:=trivial
theorem tw2039316859043663583:True:=trivial
theorem tw594976897425251297:True:=trivial
theorem tw13928720021915748649:True:=trivial
theorem tw18083193710849158252:True:=trivial
theorem tw15071673609006908720:True:=trivial
theorem tw3150223181541900452:True:=trivial
theorem tw6339858883903243297:True:=trivial
theorem tw10932346050972735657:True:=trivial
theorem tw7005727338200877721:True:=trivial
theorem tw284941531816289169:True:=trivial
theorem tw7237718277987912542:True:=trivial
theorem tw11225735210738056906:True:=trivial
theorem tw14337901383795260385:True:=trivial
theorem tw18301606754374125444:True:=trivial
theorem tw9525455623026089955:True:=trivial
theorem tw7423839409922411916:True:=trivial
theorem tw3603949422027087188:True:=trivial
theorem tw14905953276743461742:True:=trivial
theorem tw10008767126641798990:True:=trivial
theorem tw13250115206010297934:True:=trivial
theorem tw2141788363036528679:True:=trivial
theorem tw11207944997374816929:True:=trivial
theorem tw785310954154139901:True:=trivial
theorem tw13760306855455463781:True:=trivial
theorem tw10516840737135119905:True:=trivial
theorem tw18019083406400440325:True:=trivial
theorem tw10429496157052280179:True:=trivial
theorem tw16252734042284300012:True:=trivial
theorem tw3008717041860098698:True:=trivial
theorem tw11640294906815716618:True:=trivial
theorem tw15515493371092802046:True:=trivial
theorem tw5519943625712795720:True:=trivial
theorem tw7385573792899085672:True:=trivial
theorem tw8342295529995376110:True:=trivial
theorem tw17215875959571355575:True:=trivial
theorem tw784377874456004753:True:=trivial
theorem tw4345935372808867566:True:=trivial
theorem tw178603700141007474:True:=trivial
theorem tw18354949544074807046:True:=trivial
theorem tw17399114047406465730:True:=trivial
theorem tw5322119315567869965:True:=trivial
theorem tw3038817975042066348:True:=trivial
theorem tw18297782076973791598:True:=trivial
theorem tw8116633746463992465:True:=trivial
theorem tw14044386994196392880:True:=trivial
theorem tw15662799415787836869:True:=trivial
theorem tw1796715812065185983:True:=trivial
theorem tw12411379950607001748:True:=trivial
theorem tw1215669836132012945:True:=trivial
theorem tw5372952363279424194:True:=trivial
theorem tw12592236016583313495:True:=trivial
theorem tw6857417483988766426:True:=trivial
theorem tw4100300107257939695:True:=trivial
theorem tw6017169634393199115:True:=trivial
theorem tw8409759940013915708:True:=trivial
theorem tw15065842863543101372:True:=trivial
theorem tw4050086373529843932:True:=trivial
theorem tw13802641989193097044:True:=trivial
theorem tw9573543620859407732:True:=trivial
theorem tw4164917276972622833:True:=trivial
theorem tw8145243950118752864:True:=trivial
theorem tw12376246587937583819:True:=trivial
theorem tw6847599198425947937:True:=trivial
theorem tw15065081032142428441:True:=trivial
theorem tw12873101880134494642:True:=trivial
theorem tw11553575777402935685:True:=trivial
theorem tw13568173466542519279:True:=trivial
theorem tw13322096156240873190:True:=trivial
theorem tw14570233983339445852:True:=trivial
theorem tw12169884357093037894:True:=trivial
theorem tw384306560380679233:True:=trivial
theorem tw36989180919334319:True:=trivial
theorem tw6590617967001141074:True:=trivial
theorem tw7824815288687594752:True:=trivial
theorem tw15687558163986710905:True:=trivial
theorem tw2386192034792703139:True:=trivial
theorem tw8288886429367910636:True:=trivial
theorem tw17228973862670971464:True:=trivial
theorem tw12916153470239544940:True:=trivial
theorem tw1703985603245197884:True:=trivial
theorem tw16170978012759366750:True:=trivial
theorem tw13219836717588731530:True:=trivial
theorem tw2538682199564506832:True:=trivial
theorem tw1296214020966396126:True:=trivial
theorem tw9790909045771265660:True:=trivial
theorem tw7362027775313638105:True:=trivial
theorem tw14618204291578545772:True:=trivial
theorem tw472221424352608368:True:=trivial
theorem tw10784692626928460075:True:=trivial
theorem tw11929302270723221426:True:=trivial
theorem tw11070623480004238065:True:=trivial
theorem tw7370352788260705548:True:=trivial
theorem tw11279869077886603305:True:=trivial
theorem tw13386447455944277192:True:=trivial
theorem tw12314911403784455064:True:=trivial
theorem tw3236599624821856170:True:=trivial
theorem tw7095696961249622098:True:=trivial
theorem tw3481361301618818517:True:=trivial
theorem tw168354071489152140:True:=trivial
theorem tw964989211396356504:True:=trivial
theorem tw16558333676395291023:True:=trivial
theorem tw13256218790444165111:True:=trivial
theorem tw17271068803229186477:True:=trivial
theorem tw16419119445499262057:True:=trivial
theorem tw5450328100923427076:True:=trivial
theorem tw8331429677137163065:True:=trivial
theorem tw8633157257540304466:True:=trivial
theorem tw17903246020617050198:True:=trivial
theorem tw10840523792619039262:True:=trivial
theorem tw8146701247172170847:True:=trivial
theorem tw7151058025129785256:True:=trivial
theorem tw5843006888220027302:True:=trivial
theorem tw9087526715953242549:True:=trivial
theorem tw3891350679981127247:True:=trivial
theorem tw6813397813507311070:True:=trivial
theorem tw9446296035307319799:True:=trivial
theorem tw6138354650921008037:True:=trivial
theorem tw1841885771581283591:True:=trivial
theorem tw7659174061349727321:True:=trivial
theorem tw8537974827233317556:True:=trivial
theorem tw4472173398010124237:True:=trivial
theorem tw4242817576659661961:True:=trivial
theorem tw17761693488193906707:True:=trivial
theorem tw4079418793034542392:True:=trivial
theorem tw17908905572324111959:True:=trivial
theorem tw7832078285300805934:True:=trivial
theorem tw10922046953370965751:True:=trivial
theorem tw4948686163073077739:True:=trivial
theorem tw16466588626610537549:True:=trivial
theorem tw2605275285932744618:True:=trivial
theorem tw7363839379626460326:True:=trivial
theorem tw15525260641144903411:True:=trivial
theorem tw15390522225889113341:True:=trivial
theorem tw2242745135891209817:True:=trivial
theorem tw10133734132384336665:True:=trivial
theorem tw9612193831600673906:True:=trivial
theorem tw8951654180578446552:True:=trivial
theorem tw11333035445084823236:True:=trivial
theorem tw13817840858816330218:True:=trivial
theorem tw6305305245340362508:True:=trivial
theorem tw1899773850419376234:True:=trivial
theorem tw18105273307069899350:True:=trivial
theorem tw10012415302563092745:True:=trivial
theorem tw14532515497742404416:True:=trivial
theorem tw560917675392293181:True:=trivial
theorem tw17547477728721309032:True:=trivial
theorem tw5124415468118053222:True:=trivial
theorem tw8414690443823468723:True:=trivial
theorem tw8711383412005859535:True:=trivial
theorem tw15558887076048289298:True:=trivial
theorem tw11529775643936183008:True:=trivial
theorem tw4903881216394353605:True:=trivial
theorem tw8985522563527019371:True:=trivial
theorem tw11291587623245179433:True:=trivial
theorem tw4687767884087716117:True:=trivial
theorem tw1000181491509119822:True:=trivial
theorem tw5687216065346605444:True:=trivial
theorem tw11698335664984268810:True:=trivial
theorem tw12167633011465726158:True:=trivial
theorem tw10162527318208846797:True:=trivial
theorem tw1294113234955467695:True:=trivial
theorem tw99380686259298346:True:=trivial
theorem tw15932573809459943307:True:=trivial
theorem tw11519006502652341916:True:=trivial
theorem tw5578455067996888115:True:=trivial
theorem tw12674369774003606455:True:=trivial
theorem tw171663091424725818:True:=trivial
theorem tw1839480936994867998:True:=trivial
theorem tw15116714342391257347:True:=trivial
theorem tw10373464689271914321:True:=trivial
theorem tw4200325380814687699:True:=trivial
theorem tw2635556398738177650:True:=trivial
theorem tw17921400945664870020:True:=trivial
theorem tw15293377272025855788:True:=trivial
theorem tw12951149853578079352:True:=trivial
theorem tw8601359200519853094:True:=trivial
theorem tw11612013106038168974:True:=trivial
theorem tw14889216107448600854:True:=trivial
theorem tw1738545042870267151:True:=trivial
theorem tw72937013600649323:True:=trivial
theorem tw11583303691832974902:True:=trivial
theorem tw8667573350350764255:True:=trivial
theorem tw1879032982142427489:True:=trivial
theorem tw5898815334188266239:True:=trivial
theorem tw6933807828760787613:True:=trivial
theorem tw2277913246042877797:True:=trivial
theorem tw5975793535874989721:True:=trivial
theorem tw10878606263963850514:True:=trivial
theorem tw11514913892509501234:True:=trivial
theorem tw10846709689682899221:True:=trivial
theorem tw17235675057841541669:True:=trivial
theorem tw12566428711602658979:True:=trivial
theorem tw10576139449675581723:True:=trivial
theorem tw9756147942788833798:True:=trivial
theorem tw10165237808599138552:True:=trivial
theorem tw12250897094036352359:True:=trivial
theorem tw10694592589186834216:True:=trivial
theorem tw17501065163178891371:True:=trivial
theorem tw8513685935629156503:True:=trivial
theorem tw8450002305817675586:True:=trivial
theorem tw15136708025907327854:True:=trivial
theorem tw12529320716796916170:True:=trivial
theorem tw14469945441469752460:True:=trivial
theorem tw7248277747876966467:True:=trivial
theorem tw10981373986986466844:True:=trivial
theorem tw4996047505708837337:True:=trivial
theorem tw11377301422406037021:True:=trivial
theorem tw5046831073976468990:True:=trivial
theorem tw16716754682396240230:True:=trivial
theorem tw2038226651751614252:True:=trivial
theorem tw2787063101962421140:True:=trivial
theorem tw3729081609139117513:True:=trivial
theorem tw11418275967899348084:True:=trivial
theorem tw12719083393816553020:True:=trivial
theorem tw18345151051911347109:True:=trivial
theorem tw16219529056972967250:True:=trivial
theorem tw4345833044880695662:True:=trivial
theorem tw3728145382402352024:True:=trivial
theorem tw3221403791781746924:True:=trivial
theorem tw3734085176671540727:True:=trivial
theorem tw2418751007687643277:True:=trivial
theorem tw10090804436826399122:True:=trivial
theorem tw1431534967461105665:True:=trivial
theorem tw7307319900540839300:True:=trivial
theorem tw7835609099393436883:True:=trivial
theorem tw7998929103058642279:True:=trivial
theorem tw14307680421964264810:True:=trivial
theorem tw15990665130075858175:True:=trivial
theorem tw14611422404810548951:True:=trivial
theorem tw15352092650237587125:True:=trivial
theorem tw6995312955955475372:True:=trivial
theorem tw12234048677664092798:True:=trivial
theorem tw12973732176745951439:True:=trivial
theorem tw6606754722642795771:True:=trivial
theorem tw11065522120151420245:True:=trivial
theorem tw7202224468726434704:True:=trivial
theorem tw7246661399318477057:True:=trivial
theorem tw2464844251909410012:True:=trivial
theorem tw3222589172170151388:True:=trivial
theorem tw16833378000745938045:True:=trivial
theorem tw18319170893768853510:True:=trivial
theorem tw5618069112497752378:True:=trivial
theorem tw17091192120765483494:True:=trivial
theorem tw3702608343730100026:True:=trivial
theorem tw10080320876761049422:True:=trivial
theorem tw17025090218550616558:True:=trivial
theorem tw5318062653653902963:True:=trivial
theorem tw16288678280644877691:True:=trivial
theorem tw15332981586012375209:True:=trivial
theorem tw15846536687651285226:True:=trivial
theorem tw13045946496216913462:True:=trivial
theorem tw12645268987725119160:True:=trivial
theorem tw7610463216162662107:True:=trivial
theorem tw3135357593593638574:True:=trivial
theorem tw4895109381954689362:True:=trivial
theorem tw12342566212060708389:True:=trivial
theorem tw1805066866160704155:True:=trivial
theorem tw17884085889973272885:True:=trivial
theorem tw3616635448520066624:True:=trivial
theorem tw11592065756226068093:True:=trivial
theorem tw1624648158590830653:True:=trivial
theorem tw11834048054448055861:True:=trivial
theorem tw735095043511232311:True:=trivial
theorem tw11520444895012603890:True:=trivial
theorem tw13530324481993151886:True:=trivial
theorem tw17324875038580108077:True:=trivial
theorem tw9576985000571533127:True:=trivial
theorem tw17974371470917280284:True:=trivial
theorem tw8768940743623375381:True:=trivial
theorem tw6401850085262186774:True:=trivial
theorem tw5654581112926456973:True:=trivial
theorem tw7866698291690895236:True:=trivial
theorem tw16524642049180033006:True:=trivial
theorem tw15683990830548439085:True:=trivial
theorem tw14965348526795087537:True:=trivial
theorem tw8170007547906715615:True:=trivial
theorem tw5388074611345974343:True:=trivial
theorem tw4843186633988468398:True:=trivial
theorem tw7805828822394563532:True:=trivial
theorem tw3737279097342306904:True:=trivial
theorem tw9171433306491870175:True:=trivial
theorem tw5788610624024809084:True:=trivial
theorem tw12758770001677338380:True:=trivial
theorem tw2674291562545616340:True:=trivial
theorem tw11065500779250409904:True:=trivial
end PySem.W.Fast
open PySem PySem.W PyProof.Rows
set_option maxRecDepth 100000 in
set_option maxHeartbeats 0 in
theorem PySem.Challenge.cw_secondread_k25_dealt_holds : PySem.Challenge.rw_secondread_k25_dealt.Holds := by
 w_on;o_law;k_head;(case hw=>w_witness2)
 k_fill
 refine Prf.walk (l:=PySem.Challenge.rw_secondread_k25_dealt) rfl rfl (fun w h Y=>PySem.W.kIn_of Y) ?F
 case F =>
  intro w mg fa h KX G hmg
  refine' Prf.zm7 KX G hmg ?aC_Attempt ?aC_Exam ?a0 ?l0 ?c0 ?k0 ?a1 ?l1 ?c1 ?k1 ?a2 ?l2 ?c2 ?k2 ?a3 ?i3 ?l3 ?c3 ?k3 ?a4 ?i4 ?l4 ?c4 ?k4 ?a5 ?l5 ?c5 ?k5 ?a6 ?i6 ?l6 ?c6 ?k6 ?a7 ?l7 ?c7 ?k7 ?a8 ?l8 ?c8 ?k8 ?a9 ?i9 ?l9 ?c9 ?k9 ?a10 ?i10 ?l10 ?c10 ?k10 ?a11 ?l11 ?c11 ?k11 ?a12 ?l12 ?c12 ?k12 ?a13 ?l13 ?c13 ?k13 ?a14 ?l14 ?c14 ?k14 ?a15 ?l15 ?c15 ?k15 ?a16 ?l16 ?c16 ?k16 ?a17 ?l17 ?c17 ?k17 ?a18 ?l18 ?c18 ?k18 ?a19 ?i19 ?l19 ?c19 ?k19 ?a20 ?i20 ?l20 ?c20 ?k20 ?a21 ?i21 ?l21 ?c21 ?k21 ?a22 ?l22 ?c22 ?k22 ?a23 ?l23 ?c23 ?k23 ?a24 ?l24 ?c24 ?k24 ?a25 ?l25 ?c25 ?k25 ?a26 ?l26 ?c26 ?k26 ?a27 ?i27 ?l27 ?c27 ?k27 ?a28 ?i28 ?l28 ?c28 ?k28 ?a29 ?l29 ?c29 ?k29 ?a30 ?l30 ?c30 ?k30 ?a31 ?l31 ?c31 ?k31 ?a32 ?l32 ?c32 ?k32 ?a33 ?l33 ?c33 ?k33 ?a34 ?l34 ?c34 ?k34 ?a35 ?i35 ?l35 ?c35 ?k35 ?a36 ?i36 ?l36 ?c36 ?k36 ?a37 ?l37 ?c37 ?k37 ?a38 ?l38 ?c38 ?k38 ?a39 ?l39 ?c39 ?k39 ?a40 ?l40 ?c40 ?k40 ?a41 ?l41 ?c41 ?k41 ?a42 ?l42 ?c42 ?k42 ?a43 ?l43 ?c43 ?k43 ?a44 ?i44 ?l44 ?c44 ?k44 ?a45 ?i45 ?l45 ?c45 ?k45 ?a46 ?i46 ?l46 ?c46 ?k46 ?a47 ?l47 ?c47 ?k47 ?a48 ?i48 ?l48 ?c48 ?k48 ?a49 ?i49 ?l49 ?c49 ?k49 ?a50 ?l50 ?c50 ?k50 ?a51 ?i51 ?l51 ?c51 ?k51 ?a52 ?l52 ?c52 ?k52 ?a53 ?l53 ?c53 ?k53 ?a54 ?l54 ?c54 ?k54 ?a55 ?l55 ?c55 ?k55 ?a56 ?l56 ?c56 ?k56 ?a57 ?i57 ?l57 ?c57 ?k57 ?a58 ?i58 ?l58 ?c58 ?k58 ?a59 ?l59 ?c59 ?k59 ?a60 ?i60 ?l60 ?c60 ?k60 ?a61 ?l61 ?c61 ?k61 ?pg_Attempt ?hd_Attempt ?po_Attempt ?sa_Attempt ?mk_Attempt ?kc_Attempt ?n_Attempt_allowed ?n_Attempt_given ?n_Attempt_spare ?pg_Exam ?hd_Exam ?po_Exam ?sa_Exam ?mk_Exam ?kc_Exam ?n_Exam_paper_houses ?n_Exam_reader_rows ?n_Exam_widest_step ?n_Exam_is_dealt ?n_Exam_named_readers ?n_Exam_entered_points ?v_READERS_EACH ?v_MOST_HOUSES ?v_MOST_PAPERS ?v_MOST_LIMIT ?v_MOST_READERS ?v_MOST_STEP ?z_abs ?z_all ?z_bool ?z_enumerate ?z_int ?z_isinstance ?z_len ?z_list ?z_max ?z_min ?z_range ?z_sorted ?z_sum ?z_zip
  (case aC_Attempt=>k_is)
  (case aC_Exam=>k_is)
  (case a0=>k_is)
  (case l0=>k_is)
  (case c0=>k_is)
  (case k0=>k_is)
  (case a1=>k_is)
  (case l1=>k_is)
  (case c1=>k_is)
  (case k1=>k_is)
  (case a2=>k_is)
  (case l2=>k_is)
  (case c2=>k_is)
  (case k2=>k_is)
  (case a3=>k_is)
  (case i3=>k_is)
  (case l3=>k_is)
  (case c3=>k_is)
  (case k3=>k_is)
  (case a4=>k_is)
  (case i4=>k_is)
  (case l4=>k_is)
  (case c4=>k_is)
  (case k4=>k_is)
  (case a5=>k_is)
  (case l5=>k_is)
  (case c5=>k_is)
  (case k5=>k_is)
  (case a6=>k_is)
  (case i6=>k_is)
  (case l6=>k_is)
  (case c6=>k_is)
  (case k6=>k_is)
  (case a7=>k_is)
  (case l7=>k_is)
  (case c7=>k_is)
  (case k7=>k_is)
  (case a8=>k_is)
  (case l8=>k_is)
  (case c8=>k_is)
  (case k8=>k_is)
  (case a9=>k_is)
  (case i9=>k_is)
  (case l9=>k_is)
  (case c9=>k_is)
  (case k9=>k_is)
  (case a10=>k_is)
  (case i10=>k_is)
  (case l10=>k_is)
  (case c10=>k_is)
  (case k10=>k_is)
  (case a11=>k_is)
  (case l11=>k_is)
  (case c11=>k_is)
  (case k11=>k_is)
  (case a12=>k_is)
  (case l12=>k_is)
  (case c12=>k_is)
  (case k12=>k_is)
  (case a13=>k_is)
  (case l13=>k_is)
  (case c13=>k_is)
  (case k13=>k_is)
  (case a14=>k_is)
  (case l14=>k_is)
  (case c14=>k_is)
  (case k14=>k_is)
  (case a15=>k_is)
  (case l15=>k_is)
  (case c15=>k_is)
  (case k15=>k_is)
  (case a16=>k_is)
  (case l16=>k_is)
  (case c16=>k_is)
  (case k16=>k_is)
  (case a17=>k_is)
  (case l17=>k_is)
  (case c17=>k_is)
  (case k17=>k_is)
  (case a18=>k_is)
  (case l18=>k_is)
  (case c18=>k_is)
  (case k18=>k_is)
  (case a19=>k_is)
  (case i19=>k_is)
  (case l19=>k_is)
  (case c19=>k_is)
  (case k19=>k_is)
  (case a20=>k_is)
  (case i20=>k_is)
  (case l20=>k_is)
  (case c20=>k_is)
  (case k20=>k_is)
  (case a21=>k_is)
  (case i21=>k_is)
  (case l21=>k_is)
  (case c21=>k_is)
  (case k21=>k_is)
  (case a22=>k_is)
  (case l22=>k_is)
  (case c22=>k_is)
  (case k22=>k_is)
  (case a23=>k_is)
  (case l23=>k_is)
  (case c23=>k_is)
  (case k23=>k_is)
  (case a24=>k_is)
  (case l24=>k_is)
  (case c24=>k_is)
  (case k24=>k_is)
  (case a25=>k_is)
  (case l25=>k_is)
  (case c25=>k_is)
  (case k25=>k_is)
  (case a26=>k_is)
  (case l26=>k_is)
  (case c26=>k_is)
  (case k26=>k_is)
  (case a27=>k_is)
  (case i27=>k_is)
  (case l27=>k_is)
  (case c27=>k_is)
  (case k27=>k_is)
  (case a28=>k_is)
  (case i28=>k_is)
  (case l28=>k_is)
  (case c28=>k_is)
  (case k28=>k_is)
  (case a29=>k_is)
  (case l29=>k_is)
  (case c29=>k_is)
  (case k29=>k_is)
  (case a30=>k_is)
  (case l30=>k_is)
  (case c30=>k_is)
  (case k30=>k_is)
  (case a31=>k_is)
  (case l31=>k_is)
  (case c31=>k_is)
  (case k31=>k_is)
  (case a32=>k_is)
  (case l32=>k_is)
  (case c32=>k_is)
  (case k32=>k_is)
  (case a33=>k_is)
  (case l33=>k_is)
  (case c33=>k_is)
  (case k33=>k_is)
  (case a34=>k_is)
  (case l34=>k_is)
  (case c34=>k_is)
  (case k34=>k_is)
  (case a35=>k_is)
  (case i35=>k_is)
  (case l35=>k_is)
  (case c35=>k_is)
  (case k35=>k_is)
  (case a36=>k_is)
  (case i36=>k_is)
  (case l36=>k_is)
  (case c36=>k_is)
  (case k36=>k_is)
  (case a37=>k_is)
  (case l37=>k_is)
  (case c37=>k_is)
  (case k37=>k_is)
  (case a38=>k_is)
  (case l38=>k_is)
  (case c38=>k_is)
  (case k38=>k_is)
  (case a39=>k_is)
  (case l39=>k_is)
  (case c39=>k_is)
  (case k39=>k_is)
  (case a40=>k_is)
  (case l40=>k_is)
  (case c40=>k_is)
  (case k40=>k_is)
  (case a41=>k_is)
  (case l41=>k_is)
  (case c41=>k_is)
  (case k41=>k_is)
  (case a42=>k_is)
  (case l42=>k_is)
  (case c42=>k_is)
  (case k42=>k_is)
  (case a43=>k_is)
  (case l43=>k_is)
  (case c43=>k_is)
  (case k43=>k_is)
  (case a44=>k_is)
  (case i44=>k_is)
  (case l44=>k_is)
  (case c44=>k_is)
  (case k44=>k_is)
  (case a45=>k_is)
  (case i45=>k_is)
  (case l45=>k_is)
  (case c45=>k_is)
  (case k45=>k_is)
  (case a46=>k_is)
  (case i46=>k_is)
  (case l46=>k_is)
  (case c46=>k_is)
  (case k46=>k_is)
  (case a47=>k_is)
  (case l47=>k_is)
  (case c47=>k_is)
  (case k47=>k_is)
  (case a48=>k_is)
  (case i48=>k_is)
  (case l48=>k_is)
  (case c48=>k_is)
  (case k48=>k_is)
  (case a49=>k_is)
  (case i49=>k_is)
  (case l49=>k_is)
  (case c49=>k_is)
  (case k49=>k_is)
  (case a50=>k_is)
  (case l50=>k_is)
  (case c50=>k_is)
  (case k50=>k_is)
  (case a51=>k_is)
  (case i51=>k_is)
  (case l51=>k_is)
  (case c51=>k_is)
  (case k51=>k_is)
  (case a52=>k_is)
  (case l52=>k_is)
  (case c52=>k_is)
  (case k52=>k_is)
  (case a53=>k_is)
  (case l53=>k_is)
  (case c53=>k_is)
  (case k53=>k_is)
  (case a54=>k_is)
  (case l54=>k_is)
  (case c54=>k_is)
  (case k54=>k_is)
  (case a55=>k_is)
  (case l55=>k_is)
  (case c55=>k_is)
  (case k55=>k_is)
  (case a56=>k_is)
  (case l56=>k_is)
  (case c56=>k_is)
  (case k56=>k_is)
  (case a57=>k_is)
  (case i57=>k_is)
  (case l57=>k_is)
  (case c57=>k_is)
  (case k57=>k_is)
  (case a58=>k_is)
  (case i58=>k_is)
  (case l58=>k_is)
  (case c58=>k_is)
  (case k58=>k_is)
  (case a59=>k_is)
  (case l59=>k_is)
  (case c59=>k_is)
  (case k59=>k_is)
  (case a60=>k_is)
  (case i60=>k_is)
  (case l60=>k_is)
  (case c60=>k_is)
  (case k60=>k_is)
  (case a61=>k_is)
  (case l61=>k_is)
  (case c61=>k_is)
  (case k61=>k_is)
  (case pg_Attempt=>k_is)
  (case hd_Attempt=>k_is)
  (case po_Attempt=>k_is)
  (case sa_Attempt=>k_is)
  (case mk_Attempt=>k_is)
  (case kc_Attempt=>k_is)
  (case n_Attempt_allowed=>k_is)
  (case n_Attempt_given=>k_is)
  (case n_Attempt_spare=>k_is)
  (case pg_Exam=>k_is)
  (case hd_Exam=>k_is)
  (case po_Exam=>k_is)
  (case sa_Exam=>k_is)
  (case mk_Exam=>k_is)
  (case kc_Exam=>k_is)
  (case n_Exam_paper_houses=>k_is)
  (case n_Exam_reader_rows=>k_is)
  (case n_Exam_widest_step=>k_is)
  (case n_Exam_is_dealt=>k_is)
  (case n_Exam_named_readers=>k_is)
  (case n_Exam_entered_points=>k_is)
  (case v_READERS_EACH=>k_is)
  (case v_MOST_HOUSES=>k_is)
  (case v_MOST_PAPERS=>k_is)
  (case v_MOST_LIMIT=>k_is)
  (case v_MOST_READERS=>k_is)
  (case v_MOST_STEP=>k_is)
  (case z_abs=>k_is)
  (case z_all=>k_is)
  (case z_bool=>k_is)
  (case z_enumerate=>k_is)
  (case z_int=>k_is)
  (case z_isinstance=>k_is)
  (case z_len=>k_is)
  (case z_list=>k_is)
  (case z_max=>k_is)
  (case z_min=>k_is)
  (case z_range=>k_is)
  (case z_sorted=>k_is)
  (case z_sum=>k_is)
  (case z_zip=>k_is)
