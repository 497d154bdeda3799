import PyProof.Rows.All
import Wide.All
import OpenK.AllK
import Wide.FinOn
import Lean
import PyProof.EqAt
import PyProof.EqKinds
import PyProof.TupleCall
import PyProof.NeKinds
import PySem.Challenge.RW_secondread_k38_whole_never_beyond
set_option Elab.async false
set_option linter.all false
set_option maxRecDepth 100000
set_option maxHeartbeats 4000000
local macro_rules | `(tactic| omega)=>`(tactic| lia)
namespace L2
open PySem PySem.Spec PyProof.Rows
abbrev Key:=Sum Int Str
def keyIs:Key→Value→Bool
 | .inl k,v=>Value.isInt k v
 | .inr x,v=>Value.isStrOf x v
def keyH (w:World):Key→Int
 | .inl k=>hashInt k
 | .inr x=>hashStr w x
theorem keyIs_shape:∀ {k:Key} {v:Value},keyIs k v=true→(∃ i t,k=Sum.inl i∧v=Value.int i t)∨(∃ x t,k=Sum.inr x∧v=Value.str x t)
 | .inl i,v,h=>by
   obtain ⟨t,e⟩:=Value.isInt_shape (k:=i) (v:=v) h;exact .inl ⟨i,t,rfl,e⟩
 | .inr x,v,h=>by
   obtain ⟨t,e⟩:=Value.isStrOf_shape (x:=x) (v:=v) h;exact .inr ⟨x,t,rfl,e⟩
theorem zhN (i:Int) (t:Tok):keyIs (.inl i) (.int i t)=true:=by simp [keyIs,Value.isInt]
theorem zhO (x:Str) (t:Tok):keyIs (.inr x) (.str x t)=true:=by simp [keyIs,Value.isStrOf]
theorem zkZ (a b:Int):decide ((Sum.inl a:Key)=Sum.inl b)=(a == b):=by
 by_cases e:a=b
 ·subst e;simp
 ·have h:¬(Sum.inl a:Key)=Sum.inl b:=fun q=>e (Sum.inl.inj q);rw [decide_eq_false h];exact (beq_eq_false_iff_ne.mpr e).symm
theorem zk0 (a b:Str):decide ((Sum.inr a:Key)=Sum.inr b)=decide (a=b):=by
 by_cases e:a=b
 ·subst e;simp
 ·have h:¬(Sum.inr a:Key)=Sum.inr b:=fun q=>e (Sum.inr.inj q);rw [decide_eq_false h,decide_eq_false e]
theorem zk1 (a:Int) (b:Str):decide ((Sum.inl a:Key)=Sum.inr b)=false:=decide_eq_false (fun q=>nomatch q)
theorem zk2 (a:Str) (b:Int):decide ((Sum.inr a:Key)=Sum.inl b)=false:=decide_eq_false (fun q=>nomatch q)
def zbw (prog:Program) (w:World):PySem.KeyKind prog w Key where
 is:=keyIs
 hash:=keyH w
 inj:=fun v a b ha hb=>by
  rcases keyIs_shape ha with ⟨i,t,rfl,rfl⟩ | ⟨x,t,rfl,rfl⟩
  ·rcases keyIs_shape hb with ⟨j,u,rfl,e⟩ | ⟨y,u,rfl,e⟩
   ·injection e with e1 _;rw [e1]
   ·exact nomatch e
  ·rcases keyIs_shape hb with ⟨j,u,rfl,e⟩ | ⟨y,u,rfl,e⟩
   ·exact nomatch e
   ·injection e with e1 _;rw [e1]
 byValue:=fun k v h=>by
  rcases keyIs_shape h with ⟨i,t,rfl,rfl⟩ | ⟨x,t,rfl,rfl⟩ <;> rfl
 pyHash:=fun hv h=>by
  rcases keyIs_shape hv with ⟨i,t,rfl,rfl⟩ | ⟨x,t,rfl,rfl⟩
  ·exact wpAny_pyHash_int h
  ·exact wpAny_pyHash_str h
 eqBool:=fun hu hv h=>by
  rcases keyIs_shape hu with ⟨i,t,rfl,rfl⟩ | ⟨x,t,rfl,rfl⟩
  ·rcases keyIs_shape hv with ⟨j,u,rfl,rfl⟩ | ⟨y,u,rfl,rfl⟩
   ·rw [zkZ] at h;exact wpAny_eqBool_int h
   ·rw [zk1] at h;exact SeqAt.EqAt.int_str i t y u _ _ _ _ h
  ·rcases keyIs_shape hv with ⟨j,u,rfl,rfl⟩ | ⟨y,u,rfl,rfl⟩
   ·rw [zk2] at h;exact SeqAt.EqAt.str_int x t j u _ _ _ _ h
   ·rw [zk0] at h;exact wpAny_eqBool_str h
 «strs»:=fun k x t v h=>by
  rcases keyIs_shape h with ⟨i,u,rfl,e⟩ | ⟨y,u,rfl,e⟩
  ·exact nomatch e
  ·injection e with e1 _;subst e1
   cases v <;> rfl
theorem zfX (prog:Program) (w:World) (i:Int) (t:Tok):(zbw prog w).is (.inl i) (.int i t)=true:=zhN i t
theorem zfY (prog:Program) (w:World) (x:Str) (t:Tok):(zbw prog w).is (.inr x) (.str x t)=true:=zhO x t
end L2
namespace L2
open PySem PySem.Spec PyProof.Rows
inductive V where
 | non | bl (b:Bool) | int (i:Int) | str (x:Str) | byt (b:Array UInt8) | flt (b:UInt64) | ref (a:Addr) | ty (n:String)
 deriving DecidableEq
def RelV:V→Value→Prop
 | .non,u=>u=Value.none
 | .bl b,u=>u=Value.bool b
 | .int i,u=>∃ t,u=Value.int i t
 | .str x,u=>∃ t,u=Value.str x t
 | .byt b,u=>∃ t,u=Value.bytes b t
 | .flt b,u=>∃ t,u=Value.float b t
 | .ref a,u=>u=Value.ref a
 | .ty n,u=>u=Value.type n
abbrev Vals:List V→List Value→Prop:=Paired RelV
theorem Vals.length {xs:List V} {us:List Value} (r:Vals xs us):xs.length=us.length:=Paired.length r
theorem Vals.get:∀ {xs:List V} {us:List Value} {i:Nat} {x:V},Vals xs us→xs[i]? = some x→∃ u,us[i]? = some u∧RelV x u
 | _,_,_,_,.nil,e=>by simp at e
 | _,_,0,_,.cons r _,e=>by simp at e;subst e;exact ⟨_,rfl,r⟩
 | _,_,i+1,x,.cons _ t,e=>by
   obtain ⟨u,h1,h2⟩:=Vals.get (i:=i) (x:=x) t (by simpa using e);exact ⟨u,by simpa using h1,h2⟩
theorem Vals.set {x:V} {u:Value} (r:RelV x u):∀ {xs:List V} {us:List Value} (i:Nat),Vals xs us→Vals (xs.set i x) (us.set i u)
 | _,_,_,.nil=>.nil
 | _,_,0,.cons _ t=>.cons r t
 | _,_,i+1,.cons q t=>.cons q (Vals.set r i t)
theorem Vals.append:∀ {xs ys:List V} {us ws:List Value},Vals xs us→Vals ys ws→Vals (xs++ys) (us++ws)
 | _,_,_,_,.nil,s=>s
 | _,_,_,_,.cons r t,s=>.cons r (Vals.append t s)
theorem Vals.take:∀ {xs:List V} {us:List Value} (n:Nat),Vals xs us→Vals (xs.take n) (us.take n)
 | _,_,0,_=>.nil
 | _,_,_+1,.nil=>.nil
 | _,_,n+1,.cons r t=>.cons r (Vals.take n t)
theorem Vals.drop:∀ {xs:List V} {us:List Value} (n:Nat),Vals xs us→Vals (xs.drop n) (us.drop n)
 | _,_,0,r=>r
 | _,_,_+1,.nil=>.nil
 | _,_,n+1,.cons _ t=>Vals.drop n t
def RelO:Option V→Option Value→Prop
 | some v,some u=>RelV v u
 | none,none=>True
 | _,_=>False
def KV {κ:Type}:List (κ×V)→List (κ×Value)→Prop:=Paired fun (p:κ×V) (q:κ×Value)=>p.1=q.1∧RelV p.2 q.2
def kV:Key→V
 | .inl i=>.int i
 | .inr x=>.str x
inductive HO where
 | lst (xs:List V)
 | tup (xs:List V)
 | dK (kvs:List (Key×V)) | dT (kvs:List (List Key×V))
 | set (S:Int→Bool) (n:Nat)
 | ins (C dx:Addr) (fs:List (Str×V))
 | own (x:Addr)
 | xd (fs:List (Str×V))
 | met (f x:Addr)
 | rng (lo hi:Int)
 | frz (o:Obj) (u:HO)
 | tbl (ps:Array Value)
 | ext (φ:Heap→Prop)
abbrev Hp:=Addr→Option HO
def upd (H:Hp) (a:Addr) (o:HO):Hp:=fun b=>if b=a then some o else H b
theorem zas {H:Hp} {a:Addr} {o:HO}:upd H a o a=some o:=by unfold upd;rw [if_pos rfl]
theorem zaJ {H:Hp} {a b:Addr} {o:HO} (h:b≠a):upd H a o b=H b:=by unfold upd;rw [if_neg h]
theorem zkd {H:Hp} {a:Addr} {o u:HO}:upd (upd H a o) a u=upd H a u:=by
 funext b;unfold upd;split <;> rfl
theorem zmm {H:Hp} {a b:Addr} {o u:HO} (h:H a=some o) (h':H b=some u) (d:o≠u):a≠b:=by
 intro e;subst e;rw [h] at h';exact d (Option.some.inj h')
theorem zai {H:Hp} {a b:Addr} {o:HO} (h:H a=some o) (h':H b=none):a≠b:=by
 intro e;subst e;rw [h] at h';cases h'
section
variable (P:Program) (w:World)
def zbI (H:Hp) (h:Heap) (a:Addr):HO→Prop
 | .lst xs=>xs.length≤sizeLine∧∃ (its:List Value) (n:Nat),Vals xs its∧h.get? a=some { cls:=.type "list",data:=.seq its.toArray n }
 | .tup xs=>xs.length≤sizeLine∧∃ its:List Value,Vals xs its∧IsTup h a its.toArray
 | .dK kvs=>kvs.length≤sizeLine∧(a == sysModules)=false∧∃ vs,KV kvs vs∧h.DictOf (zbw P w) a vs
 | .dT kvs=>kvs.length≤sizeLine∧(a == sysModules)=false∧∃ xs:List (List Key×Addr×Value),
    Paired (fun (p:List Key×V) (q:List Key×Addr×Value)=>p.1=q.1∧H q.2.1=some (.tup (p.1.map kV))∧RelV p.2 q.2.2) kvs xs ∧
    ∃ o es ep,h.get? a=some o∧o.ExactDict∧o.data=.dict es ep∧es.toList=xs.map (entryOfKey (tupleKind (zbw P w)))∧(xs.map (·.1)).Nodup
 | .set S n=>h.SetOf (intKind P w) a S n
 | .ins C dx fs=>H dx=some (.own a)∧fs.length≤1000∧dx≠a∧h.get? a=some (PySem.W.instObj C dx) ∧
    ∃ mA,h.Ns1 dx mA∧(∀ f,RelO (fs.lookup f) (mA f))∧PySem.Within mA (fs.map (·.1))
 | .own _=>∃ o,h.get? a=some o
 | .xd fs=>∃ mA,h.Ns1 a mA∧∀ f,RelO (fs.lookup f) (mA f)
 | .rng lo hi=>∃ t u v,h.get? a=some { cls:=.type "range",data:=.fields #[.int lo t,.int hi u,.int 1 v] }
 | .frz o u=>h.get? a=some o∧zbI H h a u
 | .tbl ps=>h.get? a=some { cls:=.none,data:=.fields ps }
 | .met f x=>h.get? a=some (PySem.W.methodObj (.ref f) (.ref x))
 | .ext φ=>φ h∧(∃ o,h.get? a=some o)∧∀ h1 h2:Heap,φ h1→(∀ o,h1.get? a=some o→h2.get? a=some o)→φ h2
def HOk (H:Hp) (h:Heap):Prop:=∀ a o,H a=some o→zbI P w H h a o
end
section
variable {P:Program} {w:World} {H H':Hp} {h h':Heap} {a:Addr} {o:HO}
theorem zbI.lt (x:zbI P w H h a o):a < h.objs.size:=by
 cases o with
 | lst xs=>obtain ⟨_,_,_,_,e⟩:=x;exact Heap.lt_size e
 | tup xs=>obtain ⟨_,_,_,p⟩:=x;exact p.lt
 | dK kvs=>obtain ⟨_,_,_,_,o,_,_,e,_⟩:=x;exact Heap.lt_size e
 | dT kvs=>obtain ⟨_,_,_,_,o,_,_,e,_⟩:=x;exact Heap.lt_size e
 | set S n=>obtain ⟨o,_,_,_,e,_⟩:=x;exact Heap.lt_size e
 | ins C dx fs=>obtain ⟨_,_,_,e,_⟩:=x;exact Heap.lt_size e
 | own y=>obtain ⟨_,e⟩:=x;exact Heap.lt_size e
 | xd fs=>obtain ⟨_,⟨_,_,_,e,_⟩,_⟩:=x;exact Heap.lt_size e
 | rng lo hi=>obtain ⟨_,_,_,e⟩:=x;exact Heap.lt_size e
 | frz ob u=>obtain ⟨e,_⟩:=x;exact Heap.lt_size e
 | tbl ps=>exact Heap.lt_size (show h.get? a=some _ from x)
 | met f y=>exact Heap.lt_size (show h.get? a=some _ from x)
 | ext φ=>obtain ⟨_,⟨_,e⟩,_⟩:=x;exact Heap.lt_size e
theorem Paired.mapP {α β:Type} {F G:α→β→Prop}:∀ {l₁:List α} {l₂:List β},Paired F l₁ l₂→(∀ a b,F a b→G a b)→Paired G l₁ l₂
 | _,_,.nil,_=>.nil
 | _,_,.cons r t,f=>.cons (f _ _ r) (Paired.mapP t f)
theorem zbI.stay (x:zbI P w H h a o) (k:∀ b u,(b=a∨H b=some (.own a))→h.get? b=some u→h'.get? b=some u)
  (ho:∀ b,H b=some (.own a)→H' b=some (.own a)) (ht:∀ b xs,H b=some (.tup xs)→H' b=some (.tup xs)):zbI P w H' h' a o:=by
 induction o with
 | lst xs=>obtain ⟨z,its,n,r,e⟩:=x;exact ⟨z,its,n,r,k _ _ (.inl rfl) e⟩
 | tup xs=>obtain ⟨z,its,r,ob,e,c⟩:=x;exact ⟨z,its,r,ob,k _ _ (.inl rfl) e,c⟩
 | dK kvs=>obtain ⟨z,y,vs,r,ob,es,ep,e,c⟩:=x;exact ⟨z,y,vs,r,ob,es,ep,k _ _ (.inl rfl) e,c⟩
 | dT kvs =>
   obtain ⟨z,y,xs,r,ob,es,ep,e,c⟩:=x;exact ⟨z,y,xs,Paired.mapP r fun p q z=>⟨z.1,ht _ _ z.2.1,z.2.2⟩,ob,es,ep,k _ _ (.inl rfl) e,c⟩
 | set S n=>obtain ⟨ob,es,ep,t,e,c⟩:=x;exact ⟨ob,es,ep,t,k _ _ (.inl rfl) e,c⟩
 | ins C dx fs =>
   obtain ⟨d,z,ne,e,mA,⟨od,es,ep,e2,c⟩,r⟩:=x;exact ⟨ho _ d,z,ne,k _ _ (.inl rfl) e,mA,⟨od,es,ep,k _ _ (.inr d) e2,c⟩,r⟩
 | own y=>obtain ⟨ob,e⟩:=x;exact ⟨ob,k _ _ (.inl rfl) e⟩
 | xd fs=>obtain ⟨mA,⟨od,es,ep,e,c⟩,r⟩:=x;exact ⟨mA,⟨od,es,ep,k _ _ (.inl rfl) e,c⟩,r⟩
 | rng lo hi=>obtain ⟨t,u,v,e⟩:=x;exact ⟨t,u,v,k _ _ (.inl rfl) e⟩
 | frz ob u ih=>obtain ⟨e,q⟩:=x;exact ⟨k _ _ (.inl rfl) e,ih q⟩
 | tbl ps =>
   have e:h.get? a=some { cls:=.none,data:=.fields ps }:=x;show h'.get? a=some { cls:=.none,data:=.fields ps };exact k a _ (.inl rfl) e
 | met f y =>
   have e:h.get? a=some (PySem.W.methodObj (.ref f) (.ref y)):=x;show h'.get? a=some (PySem.W.methodObj (.ref f) (.ref y));exact k a _ (.inl rfl) e
 | ext φ=>obtain ⟨p,⟨o,e⟩,st⟩:=x;exact ⟨st _ _ p fun o q=>k _ _ (.inl rfl) q,⟨o,k _ _ (.inl rfl) e⟩,st⟩
theorem HOk.lt (x:HOk P w H h) (e:H a=some o):a < h.objs.size:=(x a o e).lt
theorem HOk.fresh (x:HOk P w H h) (e:h.objs.size≤a):H a=none:=by
 cases q:H a with
 | none=>rfl
 | some u=>exact absurd (Nat.lt_of_lt_of_le (x.lt q) e) (Nat.lt_irrefl _)
theorem HOk.kept (x:HOk P w H h) (k:∀ b u,h.get? b=some u→h'.get? b=some u):HOk P w H h':=fun a o e =>
 (x a o e).stay (fun b u _ q=>k b u q) (fun _ q=>q) fun _ _ q=>q
theorem HOk.laid (x:HOk P w H h) (k:∀ b u,h.get? b=some u→h'.get? b=some u) (hp:h.objs.size≤a) (new:zbI P w (upd H a o) h' a o):HOk P w (upd H a o) h':=fun b u e=>by
 have hn:=x.fresh hp
 by_cases hb:b=a
 ·subst hb;rw [zas] at e;cases e;exact new
 ·rw [zaJ hb] at e;exact (x b u e).stay (fun c v _ q=>k c v q) (fun c q=>by rw [zaJ (zai q hn)];exact q) fun c xs q=>by rw [zaJ (zai q hn)];exact q
end
def Rd (H:Hp) (a:Addr) (u:HO):Prop:=H a=some u∨∃ o,H a=some (.frz o u)
theorem Rd.ok {P:Program} {w:World} {H:Hp} {h:Heap} {a:Addr} {u:HO} (r:Rd H a u) (x:HOk P w H h):zbI P w H h a u:=by
 rcases r with r | ⟨o,r⟩
 ·exact x a u r
 ·obtain ⟨_,q⟩:=x a _ r;exact q
def Mut:Option HO→Prop
 | some (.lst _)=>True
 | some (.dK _)=>True
 | some (.dT _)=>True
 | some (.set _ _)=>True
 | some (.ins _ _ _)=>True
 | some (.ext _)=>True
 | _=>False
section
variable {P:Program} {w:World} {H:Hp} {h h':Heap} {x e:Addr} {o':HO}
theorem HOk.write (ok:HOk P w H h) (mu:Mut (H x)) (he:e=x∨H e=some (.own x)) (k:∀ b u,b≠e→h.get? b=some u→h'.get? b=some u) (heo:∃ u,h'.get? e=some u)
  (new:zbI P w (upd H x o') h' x o'):HOk P w (upd H x o') h':=fun b u q=>by
 have nown:∀ c y,H c=some (.own y)→c≠x:=fun c y r z=>by subst z;rw [r] at mu;exact mu
 have ntup:∀ c xs,H c=some (.tup xs)→c≠x:=fun c xs r z=>by subst z;rw [r] at mu;exact mu
 by_cases hb:b=x
 ·subst hb;rw [zas] at q;cases q;exact new
 ·rw [zaJ hb] at q
  by_cases hbe:b=e
  ·have q':H b=some (.own x):=by
    rcases he with z | z
    ·exact absurd (hbe.trans z) hb
    ·rw [hbe];exact z
   rw [q] at q';cases q'
   obtain ⟨v,hv⟩:=heo;exact ⟨v,by rw [hbe];exact hv⟩
  ·refine (ok b u q).stay (fun c v hc r=>k c v ?_ r) (fun c r=>by rw [zaJ (nown c b r)];exact r) fun c xs r=>by rw [zaJ (ntup c xs r)];exact r
   rcases hc with rfl | hc
   ·exact hbe
   ·rintro rfl;rcases he with z | z
    ·exact nown c b hc z
    ·rw [hc] at z;cases z;exact hb rfl
end
structure Un (fs ex:List Addr) (H H':Hp) (h h':Heap):Prop where
 keep:∀ b o,h.get? b=some o→H b=none→b∉fs→b∉ex→h'.get? b=some o
 slot:∀ b o,h.get? b=some o→H b=none→b∈fs→b∉ex→∃ sl,h'.get? b=some { o with slots:=sl }
 free:∀ b o,h.get? b=some o→H b=none→b∉ex→H' b=none
 there:∀ b o,h.get? b=some o→b∉ex→∃ o',h'.get? b=some o'
 tups:∀ b xs,H b=some (.tup xs)→H' b=some (.tup xs)
 frzs:∀ b o u,H b=some (.frz o u)→H' b=some (.frz o u)
 tbls:∀ b ps,H b=some (.tbl ps)→∃ more,H' b=some (.tbl (ps++more))
section
variable {fs fs' ex ex':List Addr} {H H1 H2:Hp} {h h1 h2 h':Heap} {a x e:Addr} {o:HO}
theorem Un.any (u:Un fs ex H H1 h h1) {b:Addr} {ob:Obj} (q:h.get? b=some ob) (n:H b=none) (hx:b∉ex):∃ sl,h1.get? b=some { ob with slots:=sl }:=by
 by_cases hb:b∈fs
 ·exact u.slot b ob q n hb hx
 ·exact ⟨ob.slots,u.keep b ob q n hb hx⟩
theorem Un.kept (k:∀ b u,h.get? b=some u→h'.get? b=some u):Un fs ex H H h h' :=
 ⟨fun b ob q _ _ _=>k b ob q,fun b ob q _ _ _=>⟨ob.slots,k b ob q⟩,fun _ _ _ n _=>n,fun b ob q _=>⟨ob,k b ob q⟩,fun _ _ q=>q,fun _ _ _ q=>q,fun _ ps q=>⟨#[],by rw [q];simp⟩⟩
theorem Un.refl:Un fs ex H H h h:=Un.kept fun _ _ q=>q
theorem Un.laid (k:∀ b u,h.get? b=some u→h'.get? b=some u) (hp:h.objs.size≤a) (hn:H a=none):Un fs ex H (upd H a o) h h' where
 keep:=fun b u q _ _ _=>k b u q
 slot:=fun b u q _ _ _=>⟨u.slots,k b u q⟩
 free:=fun b u q n _=>by rw [zaJ (Nat.ne_of_lt (Nat.lt_of_lt_of_le (Heap.lt_size q) hp))];exact n
 there:=fun b u q _=>⟨u,k b u q⟩
 tups:=fun b xs q=>by rw [zaJ (zai q hn)];exact q
 frzs:=fun b u xs q=>by rw [zaJ (zai q hn)];exact q
 tbls:=fun b ps q=>⟨#[],by rw [zaJ (zai q hn),q];simp⟩
theorem Un.write (mu:Mut (H x)) (he:e=x∨H e=some (.own x)) (k:∀ b u,b≠e→h.get? b=some u→h'.get? b=some u) (heo:∃ u,h'.get? e=some u):Un fs ex H (upd H x o) h h':=by
 have hx:∀ b,H b=none→b≠x:=fun b n z=>by subst z;rw [n] at mu;exact mu
 have hb:∀ b,H b=none→b≠e:=fun b n z=>by
  subst z;rcases he with r | r
  ·exact hx b n r
  ·rw [n] at r;cases r
 have hm:∀ b u,H b=some u→¬Mut (some u)→b≠x:=fun b u q nm z=>by subst z;rw [q] at mu;exact nm mu
 refine ⟨fun b u q n _ _=>k b u (hb b n) q,fun b u q n _ _=>⟨u.slots,k b u (hb b n) q⟩,fun b u q n _=>by rw [zaJ (hx b n)];exact n,fun b u q _=>?_,
  fun b xs q=>by rw [zaJ (hm b _ q fun z=>z)];exact q,fun b u xs q=>by rw [zaJ (hm b _ q fun z=>z)];exact q,fun b ps q=>⟨#[],by rw [zaJ (hm b _ q fun z=>z),q];simp⟩⟩
 by_cases hbe:b=e
 ·subst hbe;exact heo
 ·exact ⟨u,k b u hbe q⟩
end
def trk (h:Heap) (H:Hp):List Addr:=(List.range h.objs.size).filter fun a=>(H a).isSome
def hidT (h:Heap) (H:Hp):Heap:=PySem.W.hideAll h (trk h H)
theorem zhP (h:Heap) (H:Hp):(hidT h H).objs.size=h.objs.size:=PySem.W.hideAll_size _ _
theorem zi4 {h:Heap} {H:Hp} {b:Addr} {o:Obj} (e:h.get? b=some o) (n:H b=none):(hidT h H).get? b=some o :=
 PySem.W.hideAll_get _ e fun hm=>by
  have q:(H b).isSome=true:=(List.mem_filter.mp hm).2;rw [n] at q;simp at q
theorem zke {h:Heap} {H:Hp} {b:Addr} {o:Obj} (e:(hidT h H).get? b=some o):h.get? b=some o∧H b=none:=by
 have e':h.get? b=some o:=PySem.W.of_hideAll (trk h H) e;refine ⟨e',?_⟩
 cases q:H b with
 | none=>rfl
 | some x =>
   have hm:b∈trk h H:=List.mem_filter.mpr ⟨List.mem_range.mpr (Heap.lt_size e'),by simp [q]⟩;have z:(hidT h H).get? b=none:=PySem.W.hideAll_none (trk h H) hm;rw [z] at e;cases e
end L2
namespace L2
open PySem PySem.Spec PyProof.Rows
structure Mod (K:PySem.W.Frag) (mg:Str→Option Value) (base:Heap):Prop where
 kin:K.In base
 glob:base.Ns mainGlobals mg
 blt:∃ mb,base.Ns builtinsNs mb∧∀ x:Str,x≠"__name__"→mb x=bootBuiltins x
 nolimit:base.NoLimit
structure Cx where
 prog:Program
 w:World
 K:PySem.W.Frag
 mg:Str→Option Value
 base:Heap
 A:Around
 N:List Str
 s₀:Shared
 H₀:Hp
 env:Env
 outer:List Env
 stack:List Env
 ex:List Addr
 fn:Str→Bool
 calm:Bool
 pn:List (Addr×Obj)
 xe:Value→Shared→Prop
def frs (l:List Env):List Addr:=l.filterMap (·.frame)
abbrev Cx.fs (X:Cx):List Addr:=frs X.outer
def Vis (sc:Scope) (x:Str):Prop:=sc.names.lookup x=some .local∨sc.names.lookup x=some .cell∨sc.names.lookup x=some .free
def Loc (sc:Scope) (x:Str):Prop:=sc.names.lookup x=some .local∨sc.names.lookup x=some .cell
def Look (env:Env) (h:Heap) (m:Str→Option Value) (x:Str) (u:Value):Prop :=
 (env.kindOf x=some .local∧m x=some u)∨((env.kindOf x=some .cell∨env.kindOf x=some .free)∧∃ c,env.cells.lookup x=some c∧h.IsCell c (some u))
structure Cx.Ok (X:Cx):Prop where
 mod:Mod X.K X.mg X.base
 kind:X.env.scope.kind=.function
 glob:X.env.globals=mainGlobals
 blt:X.env.builtins=builtinsNs
 above:X.s₀.heap.objs.size≤X.env.locals
 inj:∀ x y c,X.env.cells.lookup x=some c→X.env.cells.lookup y=some c→x=y
 has:∀ x,(X.env.kindOf x=some .cell∨X.env.kindOf x=some .free)→∃ c,X.env.cells.lookup x=some c
 cab:∀ x c,X.fn x=true→X.env.cells.lookup x=some c→X.s₀.heap.objs.size≤c
 hd:X.calm=true→X.A.handled=none
 frames:X.A.frames=some X.stack
 stk:X.stack=X.outer∨(X.stack=X.env::X.outer∧X.env.frame=some X.env.locals)
 exf:∀ b∈X.ex,b≠X.env.locals∧∀ x c,X.env.cells.lookup x=some c→c≠b
 bs:∀ b o,X.base.get? b=some o→X.s₀.heap.get? b=some o∧X.H₀ b=none
 bsz:X.base.objs.size≤X.s₀.heap.objs.size
 noex:∀ b o,X.base.get? b=some o→b∉X.ex
 exfs:∀ b∈X.ex,b∉X.fs
 funs:X.s₀.heap.FunFrames X.base X.outer
 frf:∀ b∈X.fs,X.H₀ b=none
structure Inv (X:Cx) (pins:List (Addr×Obj)) (σ:List (Option V)) (H:Hp) (s:Shared):Prop where
 ok:X.Ok
 os:s.os=X.s₀.os
 bare:AllBare s.gens
 base:Un X.fs X.ex X.H₀ H X.s₀.heap s.heap
 loc:∃ m,s.heap.Ns X.env.locals m∧∀ (i:Nat) (x:Str) (v:V),X.N[i]? = some x→σ[i]? = some (some v)→Vis X.env.scope x→∃ u,RelV v u∧Look X.env s.heap m x u
 cell:∀ x c,X.env.cells.lookup x=some c→∃ v,s.heap.IsCell c v
 free:H X.env.locals=none
 freeC:∀ x c,X.env.cells.lookup x=some c→H c=none
 pin:∀ p∈X.pn++pins,s.heap.get? p.1=some p.2∧H p.1=none∧p.1≠X.env.locals∧p.1∉X.fs∧∀ v,p.2.data≠.cell v
 hok:HOk X.prog X.w H s.heap
 len:σ.length=X.N.length
section
variable {X:Cx} {pins:List (Addr×Obj)} {σ:List (Option V)} {H H':Hp} {s:Shared} {h':Heap}
theorem Cx.Ok.nofr (ok:X.Ok) {b:Addr} {o:Obj} (e:X.base.get? b=some o):b∉X.fs:=fun hb=>by
 have:=(ok.funs.mem hb).1;rw [e] at this;cases this
theorem Inv.bs (I:Inv X pins σ H s):∀ b o,X.base.get? b=some o→s.heap.get? b=some o∧H b=none:=fun b o e =>
 ⟨I.base.keep b o (I.ok.bs b o e).1 (I.ok.bs b o e).2 (I.ok.nofr e) (I.ok.noex b o e),I.base.free b o (I.ok.bs b o e).1 (I.ok.bs b o e).2 (I.ok.noex b o e)⟩
theorem Inv.bk (I:Inv X pins σ H s):∀ b o,X.base.get? b=some o→s.heap.get? b=some o:=fun b o e=>(I.bs b o e).1
theorem Inv.mod (I:Inv X pins σ H s):Mod X.K X.mg X.base:=I.ok.mod
theorem Inv.kIn (I:Inv X pins σ H s):X.K.In s.heap:=I.ok.mod.kin.keeps I.bk
theorem Inv.lt (I:Inv X pins σ H s):X.env.locals < s.heap.objs.size:=let ⟨_,hn,_⟩:=I.loc;hn.lt
theorem Inv.sz (I:Inv X pins σ H s):X.s₀.heap.objs.size≤s.heap.objs.size:=Nat.le_trans I.ok.above (Nat.le_of_lt I.lt)
theorem Inv.nofs (I:Inv X pins σ H s) {a:Addr} (h:s.heap.objs.size≤a):a∉X.fs:=fun hb=>by
 obtain ⟨_,o,ho,_⟩:=I.ok.funs.mem hb;exact absurd (Nat.lt_of_lt_of_le (Heap.lt_size ho) (Nat.le_trans I.sz h)) (Nat.lt_irrefl _)
theorem Inv.cne (I:Inv X pins σ H s):∀ x c,X.env.cells.lookup x=some c→c≠X.env.locals:=fun x c e z=>by
 obtain ⟨v,o,ho,hd⟩:=I.cell x c e;obtain ⟨m,⟨o',es,ep,ho',hd',_⟩,_⟩:=I.loc;rw [z,ho'] at ho;cases ho;rw [hd'] at hd;cases hd
theorem Inv.funs (I:Inv X pins σ H s):s.heap.FunFrames X.base X.outer:=by
 have all:∀ (l:List Env),(∀ b∈frs l,b∈X.fs)→X.s₀.heap.FunFrames X.base l→s.heap.FunFrames X.base l:=by
  intro l
  induction l with
  | nil=>intro _ _;trivial
  | cons env r ih =>
    intro hs hl;obtain ⟨hk,⟨L,o,hf,hn,ho,hd⟩,hr⟩:=hl;have hL:L∈X.fs:=hs L (by unfold frs;rw [List.filterMap_cons,hf];exact List.mem_cons_self);obtain ⟨sl,e⟩:=I.base.slot L o ho (I.ok.frf L hL) hL fun z=>I.ok.exfs L z hL;exact ⟨hk,⟨L,_,hf,hn,e,hd⟩,ih (fun b hb=>hs b (by unfold frs;rw [List.filterMap_cons,hf];exact List.mem_cons_of_mem _ hb)) hr⟩
 exact all X.outer (fun _ hb=>hb) I.ok.funs
theorem Inv.stack (I:Inv X pins σ H s):s.heap.FunFrames X.base X.stack:=by
 rcases I.ok.stk with e | ⟨e,hf⟩
 ·rw [e];exact I.funs
 ·rw [e];obtain ⟨m,hn,_⟩:=I.loc;refine .cons (by rw [I.ok.kind];decide) hf hn ?_ I.funs;exact Heap.get?_none_of_le (Nat.le_trans I.ok.bsz I.ok.above)
theorem Inv.stkSub (I:Inv X pins σ H s):∀ b∈frs X.stack,b∈X.env.locals::X.fs:=fun b hb=>by
 rcases I.ok.stk with e | ⟨e,hf⟩
 ·rw [e] at hb;exact List.mem_cons_of_mem _ hb
 ·rw [e] at hb;unfold frs at hb;rw [List.filterMap_cons,hf] at hb;exact hb
theorem Inv.stkFree (I:Inv X pins σ H s):∀ b∈frs X.stack,H b=none:=fun b hb=>by
 rcases List.mem_cons.mp (I.stkSub b hb) with e | hb
 ·rw [e];exact I.free
 ·obtain ⟨_,o,ho,_⟩:=I.ok.funs.mem hb;exact I.base.free b o ho (I.ok.frf b hb) fun z=>I.ok.exfs b z hb
theorem Inv.step {g':Array GenState} {t':Nat} {d':Drawn} {ch:List Addr} (I:Inv X pins σ H s)
  (hch:∀ b∈ch,(b∈X.ex∨X.s₀.heap.objs.size≤b)∧b≠X.env.locals∧(∀ x c,X.env.cells.lookup x=some c→c≠b)∧∀ p∈X.pn++pins,p.1≠b)
  (keep:∀ b o,b≠X.env.locals→b∉X.fs→b∉ch→s.heap.get? b=some o→H b=none→h'.get? b=some o)
  (slot:∀ b o,b≠X.env.locals→b∈X.fs→b∉ch→s.heap.get? b=some o→H b=none→∃ sl,h'.get? b=some { o with slots:=sl }) (free:∀ b o,b∉ch→s.heap.get? b=some o→H b=none→H' b=none)
  (there:∀ b o,b∉ch→s.heap.get? b=some o→∃ o',h'.get? b=some o')
  (tups:∀ b xs,H b=some (.tup xs)→H' b=some (.tup xs)) (frzs:∀ b o u,H b=some (.frz o u)→H' b=some (.frz o u)) (tbls:∀ b ps,H b=some (.tbl ps)→∃ more,H' b=some (.tbl (ps++more)))
  (ns:∀ m,s.heap.Ns X.env.locals m→h'.Ns X.env.locals m) (hok:HOk X.prog X.w H' h') (hg:AllBare g') :
  Inv X pins σ H' { s with heap:=h',gens:=g',drawn:=d',toks:=t' }:=by
 have neL:∀ b o,X.s₀.heap.get? b=some o→b≠X.env.locals:=fun b o e=>Nat.ne_of_lt (Nat.lt_of_lt_of_le (Heap.lt_size e) I.ok.above);have neC:∀ b o,X.s₀.heap.get? b=some o→b∉X.ex→b∉ch:=fun b o e hx hb=>by
  rcases (hch b hb).1 with z | z
  ·exact hx z
  ·exact absurd (Nat.lt_of_lt_of_le (Heap.lt_size e) z) (Nat.lt_irrefl _)
 have cellK:∀ x c,X.env.cells.lookup x=some c→∀ v,s.heap.IsCell c v→h'.IsCell c v:=fun x c e v ⟨o,ho,hd⟩=>by
  have nch:c∉ch:=fun z=>(hch c z).2.2.1 x c e rfl
  by_cases hc:c∈X.fs
  ·obtain ⟨sl,q⟩:=slot c o (I.cne x c e) hc nch ho (I.freeC x c e);exact ⟨_,q,hd⟩
  ·exact ⟨o,keep c o (I.cne x c e) hc nch ho (I.freeC x c e),hd⟩
 refine ⟨I.ok,I.os,hg,⟨fun b o e n hb hx=>?_,fun b o e n hb hx=>?_,fun b o e n hx=>?_,fun b o e hx=>?_,fun b xs e=>tups b xs (I.base.tups b xs e),fun b o xs e=>frzs b o xs (I.base.frzs b o xs e),fun b ps e=>?_⟩,?_,fun x c e=>?_,?_,fun x c e=>?_,fun p hp=>?_,hok,I.len⟩
 ·exact keep b o (neL b o e) hb (neC b o e hx) (I.base.keep b o e n hb hx) (I.base.free b o e n hx)
 ·obtain ⟨sl,e1⟩:=I.base.slot b o e n hb hx;obtain ⟨sl',e2⟩:=slot b _ (neL b o e) hb (neC b o e hx) e1 (I.base.free b o e n hx);exact ⟨sl',e2⟩
 ·obtain ⟨o',e1⟩:=I.base.there b o e hx;exact free b o' (neC b o e hx) e1 (I.base.free b o e n hx)
 ·obtain ⟨o',e1⟩:=I.base.there b o e hx;exact there b o' (neC b o e hx) e1
 ·obtain ⟨m1,e1⟩:=I.base.tbls b ps e;obtain ⟨m2,e2⟩:=tbls b _ e1;exact ⟨m1++m2,by rw [e2,Array.append_assoc]⟩
 ·obtain ⟨m,hn,hl⟩:=I.loc;refine ⟨m,ns m hn,fun i x v e1 e2 e3=>?_⟩;obtain ⟨u,r,l⟩:=hl i x v e1 e2 e3;refine ⟨u,r,?_⟩;rcases l with l | ⟨k,c,e,z⟩
  ·exact .inl l
  ·exact .inr ⟨k,c,e,cellK x c e _ z⟩
 ·obtain ⟨v,z⟩:=I.cell x c e;exact ⟨v,cellK x c e v z⟩
 ·obtain ⟨m,⟨o,_,_,ho,_⟩,_⟩:=I.loc;exact free _ o (fun z=>(hch _ z).2.1 rfl) ho I.free
 ·obtain ⟨v,o,ho,hd⟩:=I.cell x c e;exact free c o (fun z=>(hch c z).2.2.1 x c e rfl) ho (I.freeC x c e)
 ·obtain ⟨e,n,ne,nf,d⟩:=I.pin p hp;have nch:p.1∉ch:=fun z=>(hch p.1 z).2.2.2 p hp rfl;exact ⟨keep p.1 p.2 ne nf nch e n,free p.1 p.2 nch e n,ne,nf,d⟩
theorem Inv.un {t':Nat} (I:Inv X pins σ H s) (u:Un X.fs [] H H' s.heap h') (hok:HOk X.prog X.w H' h'):Inv X pins σ H' { s with heap:=h',toks:=t' }:=by
 obtain ⟨m,⟨o,es,ep,ho,r⟩,_⟩:=id I.loc;obtain ⟨sl,hL⟩:=u.any ho I.free (by simp);exact I.step (g':=s.gens) (d':=s.drawn) (ch:=[]) (fun _ z=>nomatch z) (fun b o _ hb _ e n=>u.keep b o e n hb (by simp)) (fun b o _ hb _ e n=>u.slot b o e n hb (by simp)) (fun b o _ e n=>u.free b o e n (by simp)) (fun b o _ e=>u.there b o e (by simp)) u.tups u.frzs u.tbls (fun m' hm=>by
  obtain ⟨o',es',ep',ho',r'⟩:=hm;rw [ho] at ho';cases ho'
  exact ⟨_,es',ep',hL,r'⟩) hok I.bare
theorem Inv.call {g':Array GenState} {t':Nat} {d':Drawn} {ch:List Addr} (I:Inv X pins σ H s) (u:Un (frs X.stack) ch H H' s.heap h') (hok:HOk X.prog X.w H' h') (hg:AllBare g')
  (hch:∀ b∈ch,(b∈X.ex∨X.s₀.heap.objs.size≤b)∧b≠X.env.locals∧(∀ x c,X.env.cells.lookup x=some c→c≠b)∧∀ p∈X.pn++pins,p.1≠b) :
  Inv X pins σ H' { s with heap:=h',gens:=g',drawn:=d',toks:=t' }:=by
 obtain ⟨m,⟨o,es,ep,ho,r⟩,_⟩:=id I.loc;obtain ⟨sl,hL⟩:=u.any ho I.free fun z=>(hch _ z).2.1 rfl;exact I.step (ch:=ch) hch (fun b o hL hb hc e n=>u.keep b o e n (fun z=>(List.mem_cons.mp (I.stkSub b z)).elim hL hb) hc) (fun b o _ _ hc e n=>u.any e n hc) (fun b o hc e n=>u.free b o e n hc) (fun b o hc e=>u.there b o e hc) u.tups u.frzs u.tbls (fun m' hm=>by
  obtain ⟨o',es',ep',ho',r'⟩:=hm;rw [ho] at ho';cases ho'
  exact ⟨_,es',ep',hL,r'⟩) hok hg
theorem Inv.turned {t':Nat} {it:Addr} (I:Inv X pins σ H s) (k:∀ b o,b≠it→s.heap.get? b=some o→h'.get? b=some o) (hn:H it=none) (hL:it≠X.env.locals)
  (h1:it∈X.ex∨X.s₀.heap.objs.size≤it) (h2:∀ x c,X.env.cells.lookup x=some c→c≠it) (h3:∀ p∈X.pn++pins,p.1≠it):Inv X pins σ H { s with heap:=h',toks:=t' }:=by
 have nit:∀ b u,H b=some u→b≠it:=fun b u e z=>by rw [z,hn] at e;cases e
 refine I.step (g':=s.gens) (d':=s.drawn) (ch:=[it]) (fun b hb=>?_) (fun b o _ _ hc e _=>k b o (fun z=>hc (by simp [z])) e) (fun b o _ _ hc e _=>⟨o.slots,k b o (fun z=>hc (by simp [z])) e⟩) (fun _ _ _ _ n=>n)
  (fun b o hc e=>⟨o,k b o (fun z=>hc (by simp [z])) e⟩) (fun _ _ e=>e) (fun _ _ _ e=>e) (fun b ps e=>⟨#[],by rw [e];simp⟩) (fun m hm=>?_) (fun b u e=>?_) I.bare
 ·have e:b=it:=by simpa using hb
  subst e;exact ⟨h1,hL,h2,h3⟩
 ·obtain ⟨o,es,ep,ho,r⟩:=hm;exact ⟨o,es,ep,k _ o (Ne.symm hL) ho,r⟩
 ·refine (I.hok b u e).stay (fun c v hc q=>k c v ?_ q) (fun _ q=>q) fun _ _ q=>q;rcases hc with z | z
  ·rw [z];exact nit b u e
  ·exact nit c _ z
theorem Inv.tok (I:Inv X pins σ H s) (t:Nat):Inv X pins σ H { s with toks:=t }:=I.un (h':=s.heap) (t':=t) Un.refl I.hok
theorem Inv.kept {t':Nat} (I:Inv X pins σ H s) (k:∀ b u,s.heap.get? b=some u→h'.get? b=some u):Inv X pins σ H { s with heap:=h',toks:=t' }:=I.un (Un.kept k) (I.hok.kept k)
theorem Inv.laid {a:Addr} {o:HO} {t':Nat} (I:Inv X pins σ H s) (k:∀ b u,s.heap.get? b=some u→h'.get? b=some u) (hp:s.heap.objs.size≤a) (new:zbI X.prog X.w (upd H a o) h' a o) :
  Inv X pins σ (upd H a o) { s with heap:=h',toks:=t' }:=I.un (Un.laid k hp (I.hok.fresh hp)) (I.hok.laid k hp new)
theorem Inv.write {x e:Addr} {o:HO} {t':Nat} (I:Inv X pins σ H s) (mu:Mut (H x)) (he:e=x∨H e=some (.own x)) (k:∀ b u,b≠e→s.heap.get? b=some u→h'.get? b=some u) (heo:∃ u,h'.get? e=some u)
  (new:zbI X.prog X.w (upd H x o) h' x o):Inv X pins σ (upd H x o) { s with heap:=h',toks:=t' }:=I.un (Un.write mu he k heo) (I.hok.write mu he k heo new)
theorem Inv.pins_of {pins':List (Addr×Obj)} (I:Inv X pins σ H s) (h:∀ p∈pins',s.heap.get? p.1=some p.2∧H p.1=none∧p.1≠X.env.locals∧p.1∉X.fs∧∀ v,p.2.data≠.cell v):Inv X pins' σ H s :=
 ⟨I.ok,I.os,I.bare,I.base,I.loc,I.cell,I.free,I.freeC,fun p hp=>(List.mem_append.mp hp).elim (fun z=>I.pin p (List.mem_append_left _ z)) (h p),I.hok,I.len⟩
theorem zgD {N:List Str} (hN:N.Nodup) {i j:Nat} {x:Str} (a:N[i]? = some x) (b:N[j]? = some x):i=j:=by
 obtain ⟨h1,e1⟩:=List.getElem?_eq_some_iff.mp a;obtain ⟨h2,e2⟩:=List.getElem?_eq_some_iff.mp b;exact (List.getElem_inj hN).mp (e1.trans e2.symm)
theorem ze9 {M:Model} {A:Around} {E:Value→Shared→Prop} {i:Nat} {x:Str} {v:V} {u:Value} {Q:Unit→Shared→Prop} (I:Inv X pins σ H s) (hN:X.N.Nodup) (hi:X.N[i]? = some x) (hx:Loc X.env.scope x) (r:RelV v u)
  (h:∀ s',Inv X pins (σ.set i (some v)) H s'→(∃ a,Heap.SameBut a s.heap s'.heap∧(a=X.env.locals∨X.env.cells.lookup x=some a))→Q () s') (hf:X.fn x=true∨X.env.scope.names.lookup x=some .local:=by first | exact .inl rfl | exact .inr rfl | assumption):wpAny M A (storeName X.env x u) Q E s:=by
 obtain ⟨m,hn,hl⟩:=id I.loc;have hcls:(X.env.scope.kind == .class || (X.env.scope.kind == .module && X.env.locals != X.env.globals))=false:=by rw [I.ok.kind];rfl
 have hiσ:i < σ.length:=by rw [I.len];exact (List.getElem?_eq_some_iff.mp hi).1
 have cne:=I.cne;have tracked:∀ {a:Addr} {h':Heap},(∃ o,s.heap.get? a=some o∧H a=none)→Heap.SameBut a s.heap h'→HOk X.prog X.w H h':=fun {a h'} ha hs b ob e=>by
  obtain ⟨_,_,hfree⟩:=ha;refine (I.hok b ob e).stay (fun c w' hc q=>(hs.2 c ?_).trans q) (fun _ q=>q) fun _ _ q=>q;rintro rfl;rcases hc with rfl | hc
  ·rw [hfree] at e;cases e
  ·rw [hfree] at hc;cases hc
 rcases hx with hk | hk
 ·refine wpAny_storeName_local hk hn (fun h' hn' hs=>?_) hcls;obtain ⟨oL,_,_,hoL,_⟩:=id hn;refine h _ ⟨I.ok,I.os,I.bare,⟨fun b o e n hb hx=>?_,fun b o e n hb hx=>?_,I.base.free,fun b o e hx=>?_,I.base.tups,I.base.frzs,I.base.tbls⟩,⟨_,hn',fun j y v' e1 e2 e3=>?_⟩,fun y c e=>?_,I.free,I.freeC,fun p hp=>?_,tracked ⟨oL,hoL,I.free⟩ hs,by simpa using I.len⟩ ⟨_,hs,.inl rfl⟩
  ·exact (hs.2 b (Nat.ne_of_lt (Nat.lt_of_lt_of_le (Heap.lt_size e) I.ok.above))).trans (I.base.keep b o e n hb hx)
  ·obtain ⟨sl,e1⟩:=I.base.slot b o e n hb hx;exact ⟨sl,(hs.2 b (Nat.ne_of_lt (Nat.lt_of_lt_of_le (Heap.lt_size e) I.ok.above))).trans e1⟩
  ·obtain ⟨o',e1⟩:=I.base.there b o e hx;exact ⟨o',(hs.2 b (Nat.ne_of_lt (Nat.lt_of_lt_of_le (Heap.lt_size e) I.ok.above))).trans e1⟩
  ·by_cases hj:j=i
   ·subst hj;rw [hi] at e1;cases e1
    rw [List.getElem?_set_self hiσ] at e2
    cases e2
    exact ⟨u,r,.inl ⟨hk,by simp⟩⟩
   ·rw [List.getElem?_set_ne (Ne.symm hj)] at e2;obtain ⟨u',r',q⟩:=hl j y v' e1 e2 e3;refine ⟨u',r',?_⟩;rcases q with ⟨k,e⟩ | ⟨k,c,e,z⟩
    ·refine .inl ⟨k,?_⟩;have:y≠x:=fun e=>hj (zgD hN e1 (e▸hi));simp [this,e]
    ·exact .inr ⟨k,c,e,z.sameBut hs (cne y c e)⟩
  ·obtain ⟨w',z⟩:=I.cell y c e;exact ⟨w',z.sameBut hs (cne y c e)⟩
  ·obtain ⟨e,n,ne,nf,d⟩:=I.pin p hp;exact ⟨(hs.2 p.1 ne).trans e,n,ne,nf,d⟩
 ·have hfn:X.fn x=true:=by
   rcases hf with z | z
   ·exact z
   ·rw [z] at hk;cases hk
  obtain ⟨c,hc⟩:=I.ok.has x (.inl hk);obtain ⟨w',z⟩:=I.cell x c hc;refine wpAny_storeName_cell I.ok.kind hk hc z (fun h' hc' hs=>?_);obtain ⟨oc,hoc,hocd⟩:=id z;refine h { s with heap:=h' } ⟨I.ok,I.os,I.bare,⟨fun b o e n hb hx=>?_,fun b o e n hb hx=>?_,I.base.free,fun b o e hx=>?_,I.base.tups,I.base.frzs,I.base.tbls⟩,⟨m,hn.sameBut hs (Ne.symm (cne x c hc)),fun j y v' e1 e2 e3=>?_⟩,fun y c' e=>?_,I.free,I.freeC,fun p hp=>?_,tracked ⟨oc,hoc,I.freeC x c hc⟩ hs,by simpa using I.len⟩ ⟨c,hs,.inr hc⟩
  ·exact (hs.2 b (Nat.ne_of_lt (Nat.lt_of_lt_of_le (Heap.lt_size e) (I.ok.cab x c hfn hc)))).trans (I.base.keep b o e n hb hx)
  ·obtain ⟨sl,e1⟩:=I.base.slot b o e n hb hx;exact ⟨sl,(hs.2 b (Nat.ne_of_lt (Nat.lt_of_lt_of_le (Heap.lt_size e) (I.ok.cab x c hfn hc)))).trans e1⟩
  ·obtain ⟨o',e1⟩:=I.base.there b o e hx;exact ⟨o',(hs.2 b (Nat.ne_of_lt (Nat.lt_of_lt_of_le (Heap.lt_size e) (I.ok.cab x c hfn hc)))).trans e1⟩
  ·by_cases hj:j=i
   ·subst hj;rw [hi] at e1;cases e1
    rw [List.getElem?_set_self hiσ] at e2
    cases e2
    exact ⟨u,r,.inr ⟨.inl hk,c,hc,hc'⟩⟩
   ·rw [List.getElem?_set_ne (Ne.symm hj)] at e2;obtain ⟨u',r',q⟩:=hl j y v' e1 e2 e3;refine ⟨u',r',?_⟩;rcases q with q | ⟨k,c',e,z'⟩
    ·exact .inl q
    ·refine .inr ⟨k,c',e,z'.sameBut hs ?_⟩;rintro rfl;exact hj (zgD hN e1 (I.ok.inj _ _ _ e hc▸hi))
  ·by_cases hcc:c'=c
   ·subst hcc;exact ⟨_,hc'⟩
   ·obtain ⟨w2,z2⟩:=I.cell y c' e;exact ⟨w2,z2.sameBut hs hcc⟩
  ·obtain ⟨e,n,ne,nf,d⟩:=I.pin p hp;refine ⟨(hs.2 p.1 ?_).trans e,n,ne,nf,d⟩;intro q;rw [q,hoc] at e;have q':oc=p.2:=Option.some.inj e;exact d w' (by rw [← q'];exact hocd)
theorem zgE {M:Model} {A:Around} {E:Value→Shared→Prop} {i:Nat} {x:Str} {v:V} {u:Value} {Q:Unit→Shared→Prop} (I:Inv X pins σ H s) (hN:X.N.Nodup) (hi:X.N[i]? = some x) (hx:Loc X.env.scope x) (r:RelV v u)
  (h:∀ s',Inv X pins (σ.set i (some v)) H s'→Q () s') (hf:X.fn x=true∨X.env.scope.names.lookup x=some .local:=by first | exact .inl rfl | exact .inr rfl | assumption):wpAny M A (storeName X.env x u) Q E s :=
 ze9 I hN hi hx r (fun s' I' _=>h s' I') hf
theorem Inv.call' {s':Shared} {ch:List Addr} (I:Inv X pins σ H s) (ho:s'.os=s.os) (u:Un (frs X.stack) ch H H' s.heap s'.heap) (hok:HOk X.prog X.w H' s'.heap) (hg:AllBare s'.gens)
  (hch:∀ b∈ch,(b∈X.ex∨X.s₀.heap.objs.size≤b)∧b≠X.env.locals∧(∀ x c,X.env.cells.lookup x=some c→c≠b)∧∀ p∈X.pn++pins,p.1≠b):Inv X pins σ H' s':=by
 obtain ⟨h',g',d',t',o'⟩:=s';have e:o'=s.os:=ho;subst e;exact I.call (g':=g') (t':=t') (d':=d') u hok hg hch
end
abbrev XK:=Value→Option Addr→Hp→Prop
abbrev St:=List (Option V)
abbrev VK:=V→Hp→Prop
abbrev TE:=St→Hp→VK→Prop
abbrev TT:=St→Hp→(Bool→Hp→Prop)→Prop
abbrev TA:=St→Hp→(List V→Hp→Prop)→Prop
structure Ends where
 nx:St→Hp→Prop
 rt:VK
 bk:St→Hp→Prop:=fun _ _=>False
 ct:St→Hp→Prop:=fun _ _=>False
abbrev TS:=Ends→St→Hp→Prop
def EP (X:Cx) (pins:List (Addr×Obj)) (σ:St) (Q:VK) (u:Value) (s':Shared):Prop:=∃ v H',Inv X pins σ H' s'∧RelV v u∧Q v H'
def TP (X:Cx) (pins:List (Addr×Obj)) (σ:St) (Q:Bool→Hp→Prop) (b:Bool) (s':Shared):Prop:=∃ H',Inv X pins σ H' s'∧Q b H'
def AP (X:Cx) (pins:List (Addr×Obj)) (σ:St) (Q:List V→Hp→Prop) (us:List Value) (s':Shared):Prop:=∃ vs H',Inv X pins σ H' s'∧Vals vs us∧Q vs H'
def SP (X:Cx) (pins:List (Addr×Obj)) (D:Ends) (f:Flow) (s':Shared):Prop :=
 match f with
 | .next=>∃ σ' H',Inv X pins σ' H' s'∧D.nx σ' H'
 | .brk=>∃ σ' H',Inv X pins σ' H' s'∧D.bk σ' H'
 | .cont=>∃ σ' H',Inv X pins σ' H' s'∧D.ct σ' H'
 | .ret u=>∃ v σ' H',Inv X pins σ' H' s'∧RelV v u∧D.rt v H'
def PE (X:Cx) (e:Expr) (t:TE):Prop :=
 ∀ (pins:List (Addr×Obj)) (s:Shared) (σ:St) (H:Hp) (Q:VK),Inv X pins σ H s→t σ H Q→wpAny (model X.prog X.w) X.A (eval e X.env) (EP X pins σ Q) X.xe s
def PT (X:Cx) (e:Expr) (t:TT):Prop :=
 ∀ (pins:List (Addr×Obj)) (s:Shared) (σ:St) (H:Hp) (Q:Bool→Hp→Prop),Inv X pins σ H s→t σ H Q→wpAny (model X.prog X.w) X.A (isTrue e X.env (eval e X.env)) (TP X pins σ Q) X.xe s
def PW (X:Cx) (e:Expr) (t:TT):Prop :=
 ∀ (whole:Sem Value) (pins:List (Addr×Obj)) (s:Shared) (σ:St) (H:Hp) (Q:Bool→Hp→Prop),Inv X pins σ H s→t σ H Q→wpAny (model X.prog X.w) X.A (isTrue e X.env whole) (TP X pins σ Q) X.xe s
theorem PW.pt {X:Cx} {e:Expr} {t:TT} (h:PW X e t):PT X e t:=h _
def PA (X:Cx) (es:List Expr) (t:TA):Prop :=
 ∀ (pos:Pos) (pins:List (Addr×Obj)) (s:Shared) (σ:St) (H:Hp) (Q:List V→Hp→Prop),Inv X pins σ H s→t σ H Q→wpAny (model X.prog X.w) X.A (spliced (backTo pos (starEach es X.env))) (AP X pins σ Q) X.xe s
def PS (X:Cx) (st:Stmt) (t:TS):Prop :=
 ∀ (pins:List (Addr×Obj)) (s:Shared) (σ:St) (H:Hp) (D:Ends),Inv X pins σ H s→t D σ H→wpAny (model X.prog X.w) X.A (exec st X.env) (SP X pins D) X.xe s
def PSs (X:Cx) (st:List Stmt) (t:TS):Prop :=
 ∀ (pins:List (Addr×Obj)) (s:Shared) (σ:St) (H:Hp) (D:Ends),Inv X pins σ H s→t D σ H→wpAny (model X.prog X.w) X.A (execs st X.env) (SP X pins D) X.xe s
theorem thn {α:Type} {t:Sem α} {Q Q':α→Shared→Prop} {M:Model} {A:Around} {E:Value→Shared→Prop} {s:Shared} (h:wpAny M A t Q E s) (hQ:∀ a s,Q a s→Q' a s):wpAny M A t Q' E s:=wpAny_mono h hQ fun _ _ x=>x
end L2
namespace L2
open PySem PySem.Spec PyProof.Rows
section
variable {X:Cx}
def tVar (i:Nat):TE:=fun σ H Q=>∃ v,σ[i]? = some (some v)∧Q v H
def tC (v:V):TE:=fun _ H Q=>Q v H
theorem zk3 {i:Nat} {x:Str} {pos:Pos} (hN:X.N[i]? = some x) (hv:Vis X.env.scope x) (hd:(x == ("__debug__" : Str))=false:=by decide) (hcd:(x == ("__classdict__" : Str))=false:=by decide):PE X (.Name x pos) (tVar i):=by
 intro pins s σ H Q I h;obtain ⟨v,e,h⟩:=h;obtain ⟨m,hn,hl⟩:=I.loc;obtain ⟨u,r,l⟩:=hl i x v hN e hv;have fin:EP X pins σ Q u s:=⟨v,H,I,r,h⟩
 rcases l with ⟨hk,hm⟩ | ⟨hk,c,hc,hcell⟩
 ·exact wpAny_Name (wpAny_loadName_local I.ok.kind hk hn hm fin) hd
 ·rcases hk with hk | hk
  ·exact wpAny_Name (wpAny_loadName_cell I.ok.kind hk hc hcell fin) hd
  ·exact wpAny_Name (wpAny_loadName_free I.ok.kind hk hc hcell fin hcd) hd
theorem zad {i j pos}:PE X (.Constant (.int i) j pos) (tC (.int i)):=fun _ _ _ H _ I h=>wpAny_Constant_int ⟨.int i,H,I.tok _,⟨_,rfl⟩,h⟩
theorem zbe {b j pos}:PE X (.Constant (.bool b) j pos) (tC (.bl b)):=fun _ _ _ H _ I h=>Constant_bool ⟨.bl b,H,I,rfl,h⟩
theorem zfa {j pos}:PE X (.Constant .none j pos) (tC .non):=fun _ _ _ H _ I h=>Constant_none ⟨.non,H,I,rfl,h⟩
def Gl (X:Cx) (x:Str):Prop:=X.env.kindOf x=some .globalImplicit
theorem zeQ {E:Value→Shared→Prop} {pins:List (Addr×Obj)} {s:Shared} {σ:St} {H:Hp} {x:Str} {u:Value} {pos:Pos} {Q:Value→Shared→Prop} (I:Inv X pins σ H s) (hg:Gl X x) (hm:X.mg x=some u) (h:Q u s)
  (hd:(x == ("__debug__" : Str))=false:=by decide):wpAny (model X.prog X.w) X.A (eval (.Name x pos) X.env) Q E s :=
 Calls.Name_function_global I.ok.kind hg (Calls.loadGlobal_global (by rw [I.ok.glob];exact I.mod.glob.keeps I.bk) hm h) hd
theorem zd4 {E:Value→Shared→Prop} {pins:List (Addr×Obj)} {s:Shared} {σ:St} {H:Hp} {x:Str} {u:Value} {pos:Pos} {Q:Value→Shared→Prop} (I:Inv X pins σ H s) (hg:Gl X x) (hm:X.mg x=none) (hv:bootBuiltins x=some u) (h:Q u s)
  (hn:x≠"__name__":=by decide) (hd:(x == ("__debug__" : Str))=false:=by decide):wpAny (model X.prog X.w) X.A (eval (.Name x pos) X.env) Q E s:=by
 obtain ⟨mb,h1,h2⟩:=I.mod.blt;exact Calls.Name_function_global I.ok.kind hg (Calls.loadGlobal_builtin (by rw [I.ok.glob];exact I.mod.glob.keeps I.bk) hm (by rw [I.ok.blt];exact h1.keeps I.bk) ((h2 x hn).trans hv) h) hd
theorem zcv {x:Str} {v:V} {u:Value} {pos:Pos} (hg:Gl X x) (hm:X.mg x=some u) (r:RelV v u) (hd:(x == ("__debug__" : Str))=false:=by decide):PE X (.Name x pos) (tC v) :=
 fun _ _ _ H _ I h=>zeQ I hg hm ⟨v,H,I,r,h⟩ hd
theorem zcZ {x:Str} {v:V} {u:Value} {pos:Pos} (hg:Gl X x) (hm:X.mg x=none) (hv:bootBuiltins x=some u) (r:RelV v u) (hn:x≠"__name__":=by decide) (hd:(x == ("__debug__" : Str))=false:=by decide):PE X (.Name x pos) (tC v) :=
 fun _ _ _ H _ I h=>zd4 I hg hm hv ⟨v,H,I,r,h⟩ hn hd
variable {a b:Expr} {ta tb:TE} {pos:Pos}
def PC (X:Cx) (op:CmpOp) (a b:Expr) (t:TE):Prop :=
 ∀ (pins:List (Addr×Obj)) (s:Shared) (σ:St) (H:Hp) (Q:VK),Inv X pins σ H s→t σ H Q →
  wpAny (model X.prog X.w) X.A (eval a X.env) (fun v s₁=>wpAny (model X.prog X.w) X.A (eval b X.env) (fun u s₂=>wpAny (model X.prog X.w) X.A (compareOp op v u) (EP X pins σ Q) X.xe s₂) X.xe s₁) X.xe s
theorem zi5 (b:Expr) {op:CmpOp} (h:op≠.In) (h2:op≠.NotIn):behindInMarks op b=false:=by
 have e1:(op == CmpOp.In)=false:=by cases op <;> first | rfl | exact absurd rfl h
 have e2:(op == CmpOp.NotIn)=false:=by cases op <;> first | rfl | exact absurd rfl h2
 cases b <;> simp [behindInMarks,e1,e2]
def tB (t:TE):TT:=fun σ H Q=>t σ H fun x H1=>∃ c,x=.bl c∧Q c H1
theorem zjX {op:CmpOp} {t:TE} (h:PC X op a b t) (h1:behindInMarks op b=false:=by first | exact zi5 _ (by decide) (by decide) | rfl):PT X (.Compare a [op] [b] pos) (tB t):=by
 intro pins s σ H Q I hw;refine wpAny_isTrue_Compare1 (thn (h pins s σ H _ I hw) fun v s1 h1=>thn h1 fun u s2 h2=>thn h2 fun c s3 ⟨x,H1,I1,r1,q1⟩=>?_) h1;obtain ⟨d,rfl,q⟩:=q1
 cases r1
 exact wpAny_truthy_bool ⟨H1,I1,q⟩
variable {tA tB':TT} {rest:List Expr}
def tAnd (t u:TT):TT:=fun σ H Q=>t σ H fun c H1=>if c=true then u σ H1 Q else Q false H1
def tOr (t u:TT):TT:=fun σ H Q=>t σ H fun c H1=>if c=true then Q true H1 else u σ H1 Q
def tNot (t:TT):TT:=fun σ H Q=>t σ H fun c H1=>Q (!c) H1
theorem zeR (ha:PT X a tA):PW X (.BoolOp .And [a] pos) tA:=by
 intro wh pins s σ H Q I h;refine isTrue_and (thn (ha pins s σ H Q I h) fun c s1 e=>?_)
 cases c with
 | true=>exact isTrue_and_nil e
 | false=>exact e
theorem zb5 (ha:PT X a tA):PW X (.BoolOp .Or [a] pos) tA:=by
 intro wh pins s σ H Q I h;refine isTrue_or (thn (ha pins s σ H Q I h) fun c s1 e=>?_)
 cases c with
 | false=>exact isTrue_or_nil e
 | true=>exact e
theorem zfb (ha:PT X a tA) (hb:PW X (.BoolOp .And (b::rest) pos) tB'):PW X (.BoolOp .And (a::b::rest) pos) (tAnd tA tB'):=by
 intro wh pins s σ H Q I h;refine isTrue_and (thn (ha pins s σ H _ I h) fun c s1 ⟨H1,I1,q1⟩=>?_)
 cases c with
 | true=>exact hb wh pins s1 σ H1 Q I1 q1
 | false=>exact ⟨H1,I1,q1⟩
theorem zcM (ha:PT X a tA) (hb:PW X (.BoolOp .Or (b::rest) pos) tB'):PW X (.BoolOp .Or (a::b::rest) pos) (tOr tA tB'):=by
 intro wh pins s σ H Q I h;refine isTrue_or (thn (ha pins s σ H _ I h) fun c s1 ⟨H1,I1,q1⟩=>?_)
 cases c with
 | true=>exact ⟨H1,I1,q1⟩
 | false=>exact hb wh pins s1 σ H1 Q I1 q1
theorem zbD (ha:PT X a tA):PT X (.UnaryOp .Not a pos) (tNot tA):=by
 intro pins s σ H Q I h;exact isTrue_not (ha pins s σ H (fun c H1=>Q (!c) H1) I h)
def zk4 (ta tb:TE):TE:=fun σ H Q=>ta σ H fun x H1=>∃ c,x=.bl c∧if c=true then tb σ H1 Q else Q (.bl false) H1
def zk5 (ta:TE):TE:=fun σ H Q=>ta σ H fun x H1=>∃ c,x=.bl c∧Q (.bl (!c)) H1
theorem zfc {op} {t:TE} (h:PE X a t):PE X (.BoolOp op [a] pos) t:=fun pins s σ H Q I hw=>BoolOp_one (h pins s σ H Q I hw)
theorem zfd (ha:PE X a ta) (hb:PE X (.BoolOp .And (b::rest) pos) tb):PE X (.BoolOp .And (a::b::rest) pos) (zk4 ta tb):=by
 intro pins s σ H Q I h;refine BoolOp_and (thn (ha pins s σ H _ I h) fun v s1 ⟨x,H1,I1,r1,q1⟩=>?_);obtain ⟨c,rfl,q1⟩:=q1
 cases r1
 refine wpAny_truthy_bool ?_
 cases c with
 | true=>exact hb pins s1 σ H1 Q I1 q1
 | false=>exact ⟨.bl false,H1,I1,rfl,q1⟩
theorem zjY (ha:PE X a ta):PE X (.UnaryOp .Not a pos) (zk5 ta):=by
 intro pins s σ H Q I h;refine UnaryOp_ (thn (ha pins s σ H _ I h) fun v s1 ⟨x,H1,I1,r1,q1⟩=>?_);obtain ⟨c,rfl,q1⟩:=q1
 cases r1
 exact not_of (wpAny_truthy_bool ⟨.bl (!c),H1,I1,rfl,q1⟩)
end
end L2
namespace L2
open PySem PySem.Spec PyProof.Rows
def SqL (K:PySem.W.Frag) (H:Hp) (a:Addr) (xs:List V):Prop :=
 Rd H a (.lst xs) ∨
  ∃ (o:Obj) (its:Array Value) (n:Nat),K.lookup a=some o∧o.cls=.type "list"∧o.dict=none∧o.data=.seq its n∧its.size≤sizeLine∧Vals xs its.toList
def SqT (K:PySem.W.Frag) (H:Hp) (a:Addr) (xs:List V):Prop :=
 Rd H a (.tup xs) ∨
  ∃ (o:Obj) (its:Array Value) (n:Nat),K.lookup a=some o∧o.cls=.type "tuple"∧o.data=.seq its n∧its.size≤sizeLine∧Vals xs its.toList
def absV:Value→Option V
 | .none=>some .non
 | .bool b=>some (.bl b)
 | .int i _=>some (.int i)
 | .str x _=>some (.str x)
 | .bytes b _=>some (.byt b)
 | .float b _=>some (.flt b)
 | .ref a=>some (.ref a)
 | .type n=>some (.ty n)
 | _=>none
theorem RelV.abs {x:V} {u:Value} (r:RelV x u):absV u=some x:=by
 cases x with
 | non=>cases r;rfl
 | bl _=>cases r;rfl
 | int _=>obtain ⟨t,rfl⟩:=r;rfl
 | str _=>obtain ⟨t,rfl⟩:=r;rfl
 | byt _=>obtain ⟨t,rfl⟩:=r;rfl
 | flt _=>obtain ⟨t,rfl⟩:=r;rfl
 | ref _=>cases r;rfl
 | ty _=>cases r;rfl
theorem RelV.inj {x y:V} {u:Value} (r:RelV x u) (q:RelV y u):x=y:=Option.some.inj (r.abs.symm.trans q.abs)
theorem Vals.inj:∀ {xs ys:List V} {us:List Value},Vals xs us→Vals ys us→xs=ys
 | _,_,_,.nil,.nil=>rfl
 | _,_,_,.cons r t,.cons r' t'=>by rw [r.inj r',Vals.inj t t']
section
variable {X:Cx} {pins:List (Addr×Obj)} {σ:St} {H:Hp} {s:Shared} {a:Addr} {xs ys:List V}
theorem SqL.of {K:PySem.W.Frag} (h:H a=some (.lst xs)):SqL K H a xs:=.inl (.inl h)
theorem SqT.of {K:PySem.W.Frag} (h:H a=some (.tup xs)):SqT K H a xs:=.inl (.inl h)
theorem Inv.list (I:Inv X pins σ H s) (h:SqL X.K H a xs):∃ its:List Value,Vals xs its∧PlainL s.heap a its.toArray∧xs.length≤sizeLine:=by
 rcases h with h | ⟨o,its,n,hk,hc,hd,hs,hz,r⟩
 ·obtain ⟨z,its,n,r,e⟩:=h.ok I.hok;exact ⟨its,r,⟨_,n,e,rfl,rfl,rfl⟩,z⟩
 ·refine ⟨its.toList,r,⟨o,n,I.kIn a o hk,hc,hd,by simpa using hs⟩,?_⟩;have e:=r.length;simp only [Array.length_toList] at e;omega
theorem Inv.tuple (I:Inv X pins σ H s) (h:SqT X.K H a xs):∃ its:List Value,Vals xs its∧IsTup s.heap a its.toArray∧xs.length≤sizeLine:=by
 rcases h with h | ⟨o,its,n,hk,hc,hs,hz,r⟩
 ·obtain ⟨z,its,r,p⟩:=h.ok I.hok;exact ⟨its,r,p,z⟩
 ·refine ⟨its.toList,r,⟨o,I.kIn a o hk,hc,n,by simpa using hs⟩,?_⟩;have e:=r.length;simp only [Array.length_toList] at e;omega
theorem Inv.list_inj (I:Inv X pins σ H s) (h:SqL X.K H a xs) (h':SqL X.K H a ys):xs=ys:=by
 obtain ⟨its,r,⟨o,n,e,_,_,d⟩,_⟩:=I.list h;obtain ⟨its',r',⟨o',n',e',_,_,d'⟩,_⟩:=I.list h';rw [e] at e';cases e'
 rw [d] at d';injection d' with d1 _;have:its=its':=by simpa using congrArg Array.toList d1
 subst this;exact r.inj r'
end
abbrev Cx.wish (X:Cx) (E:Value→Shared→Prop):Cx:={ X with xe:=E }
abbrev Cx.nox (X:Cx):Cx:=X.wish fun _ _=>False
theorem Cx.Ok.wish {X:Cx} (ok:X.Ok) (E:Value→Shared→Prop):(X.wish E).Ok :=
 ⟨ok.mod,ok.kind,ok.glob,ok.blt,ok.above,ok.inj,ok.has,ok.cab,ok.hd,ok.frames,ok.stk,ok.exf,ok.bs,ok.bsz,ok.noex,ok.exfs,ok.funs,ok.frf⟩
theorem Cx.Ok.unwish {X:Cx} {E:Value→Shared→Prop} (ok:(X.wish E).Ok):X.Ok :=
 ⟨ok.mod,ok.kind,ok.glob,ok.blt,ok.above,ok.inj,ok.has,ok.cab,ok.hd,ok.frames,ok.stk,ok.exf,ok.bs,ok.bsz,ok.noex,ok.exfs,ok.funs,ok.frf⟩
section
variable {X:Cx} {pins:List (Addr×Obj)} {σ:St} {H:Hp} {s:Shared} {E:Value→Shared→Prop}
theorem Inv.wish (I:Inv X pins σ H s) (E:Value→Shared→Prop):Inv (X.wish E) pins σ H s:=⟨I.ok.wish E,I.os,I.bare,I.base,I.loc,I.cell,I.free,I.freeC,I.pin,I.hok,I.len⟩
theorem Inv.unwish (I:Inv (X.wish E) pins σ H s):Inv X pins σ H s:=⟨I.ok.unwish,I.os,I.bare,I.base,I.loc,I.cell,I.free,I.freeC,I.pin,I.hok,I.len⟩
theorem SP.unwish {D:Ends} {f:Flow} {s':Shared} (h:SP (X.wish E) pins D f s'):SP X pins D f s':=by
 cases f with
 | next=>obtain ⟨σ',H',I,q⟩:=h;exact ⟨σ',H',I.unwish,q⟩
 | brk=>obtain ⟨σ',H',I,q⟩:=h;exact ⟨σ',H',I.unwish,q⟩
 | cont=>obtain ⟨σ',H',I,q⟩:=h;exact ⟨σ',H',I.unwish,q⟩
 | ret u=>obtain ⟨v,σ',H',I,r,q⟩:=h;exact ⟨v,σ',H',I.unwish,r,q⟩
theorem PSs.nox {st:List Stmt} {t:TS} (h:PSs X.nox st t):PSs X st t:=fun pins s σ H D I hw =>
 wpAny_mono (h pins s σ H D (I.wish _) hw) (fun _ _ q=>q.unwish) fun _ _ z=>False.elim z
end
section
variable {X:Cx} {st:Stmt} {rest:List Stmt} {t u:TS} {e:Expr} {te:TE} {pos:Pos}
def tNext:TS:=fun D σ H=>D.nx σ H
def tSeq (t u:TS):TS:=fun D σ H=>t { D with nx:=u D } σ H
theorem pss_nil:PSs X [] tNext:=fun _ _ σ H _ I h=>wpAny_execs_nil ⟨σ,H,I,h⟩
theorem zac (h1:PS X st t) (h2:PSs X rest u):PSs X (st::rest) (tSeq t u):=by
 intro pins s σ H D I h;refine wpAny_execs_cons (thn (h1 pins s σ H { D with nx:=u D } I h) fun f s1 q=>?_)
 cases f with
 | next =>
   obtain ⟨σ',H',I',q⟩:=q;exact h2 pins s1 σ' H' D I' q
 | ret v=>exact q
 | brk=>exact q
 | cont=>exact q
theorem zae (h1:PS X st t):PSs X [st] t:=by
 intro pins s σ H D I h;refine wpAny_execs_cons (thn (h1 pins s σ H D I h) fun f s1 q=>?_)
 cases f with
 | next=>exact wpAny_execs_nil q
 | ret v=>exact q
 | brk=>exact q
 | cont=>exact q
def tBreak:TS:=fun D σ H=>D.bk σ H
def tCont:TS:=fun D σ H=>D.ct σ H
theorem ps_break:PS X (.Break pos) tBreak:=fun _ _ σ H _ I h=>wpAny_Break ⟨σ,H,I,h⟩
theorem ps_continue:PS X (.Continue pos) tCont:=fun _ _ σ H _ I h=>wpAny_Continue ⟨σ,H,I,h⟩
theorem Inv.quiet {pins:List (Addr×Obj)} {σ:St} {H:Hp} {s:Shared} (I:Inv X pins σ H s):interactive X.env=false:=by simp [interactive,I.ok.kind]
def zk6 (te:TE):TS:=fun D σ H=>te σ H fun _ H1=>D.nx σ H1
theorem zaG (he:PE X e te) (hs:swapsWith e none pos.line X.env=pure false:=by rfl):PS X (.Expr e pos) (zk6 te):=by
 intro pins s σ H D I h;exact wpAny_Expr_any (thn (he pins s σ H _ I h) fun v s1 ⟨x,H1,I1,r1,q1⟩=>⟨σ,H1,I1,q1⟩) I.quiet hs
def tRet (te:TE):TS:=fun D σ H=>te σ H D.rt
theorem zal (he:PE X e te):PS X (.Return (some e) pos) (tRet te):=by
 intro pins s σ H D I h;exact wpAny_Return_some (thn (he pins s σ H _ I h) fun v s1 ⟨x,H1,I1,r1,q1⟩=>⟨x,σ,H1,I1,r1,q1⟩)
def tIfS (c:TT) (t u:TS):TS:=fun D σ H=>c σ H fun b H1=>if b=true then t D σ H1 else u D σ H1
theorem zaX {c:Expr} {a b:List Stmt} {tc:TT} (hc:PT X c tc) (ha:PSs X a t) (hb:PSs X b u):PS X (.If c a b pos) (tIfS tc t u):=by
 intro pins s σ H D I h;refine wpAny_If (thn (hc pins s σ H _ I h) fun d s1 ⟨H1,I1,q1⟩=>?_)
 cases d with
 | true=>exact ha pins s1 σ H1 D I1 q1
 | false=>exact hb pins s1 σ H1 D I1 q1
def tNever:TS:=fun _ _ _=>False
theorem ps_never:PS X st tNever:=fun _ _ _ _ _ _ h=>h.elim
end
abbrev TG:=V→St→Hp→(St→Hp→Prop)→Prop
abbrev TGs:=List V→St→Hp→(St→Hp→Prop)→Prop
def PG (X:Cx) (target:Expr) (t:TG):Prop :=
 ∀ (pins:List (Addr×Obj)) (s:Shared) (σ:St) (H:Hp) (v:V) (u:Value) (Q:St→Hp→Prop),Inv X pins σ H s→RelV v u→t v σ H Q →
  wpAny (model X.prog X.w) X.A (assign target X.env u) (fun _ s'=>∃ σ' H',Inv X pins σ' H' s'∧Q σ' H') X.xe s
def PGs (X:Cx) (ts:List Expr) (t:TGs):Prop :=
 ∀ (pins:List (Addr×Obj)) (s:Shared) (σ:St) (H:Hp) (vs:List V) (us:List Value) (Q:St→Hp→Prop),Inv X pins σ H s→Vals vs us→t vs σ H Q →
  wpAny (model X.prog X.w) X.A (assignInOrder ((assignEach ts X.env).map (·.2)) us) (fun _ s'=>∃ σ' H',Inv X pins σ' H' s'∧Q σ' H') X.xe s
abbrev TSet:=V→V→V→Hp→(Hp→Prop)→Prop
def PSet (X:Cx) (t:TSet):Prop :=
 ∀ (pins:List (Addr×Obj)) (s:Shared) (σ:St) (H:Hp) (o i v:V) (ov iv u:Value) (Q:Hp→Prop),Inv X pins σ H s→RelV o ov→RelV i iv→RelV v u→t o i v H Q →
  wpAny (model X.prog X.w) X.A (setItem ov iv u) (fun _ s'=>∃ H',Inv X pins σ H' s'∧Q H') X.xe s
abbrev TIp:=V→V→Hp→VK→Prop
def PIp (X:Cx) (op:Operator) (t:TIp):Prop :=
 ∀ (pins:List (Addr×Obj)) (s:Shared) (σ:St) (H:Hp) (x y:V) (v u:Value) (Q:VK),Inv X pins σ H s→RelV x v→RelV y u→t x y H Q →
  wpAny (model X.prog X.w) X.A (inplaceOp op v u) (EP X pins σ Q) X.xe s
section
variable {X:Cx} {pos:Pos}
def zcs (i:Nat):TG:=fun v σ H Q=>Q (σ.set i (some v)) H
theorem zar {i:Nat} {x:Str} (hN:X.N.Nodup) (hi:X.N[i]? = some x) (hx:Loc X.env.scope x) (hf:X.fn x=true∨X.env.scope.names.lookup x=some .local:=by first | exact .inl rfl | exact .inr rfl | assumption):PG X (.Name x pos) (zcs i):=by
 intro pins s σ H v u Q I r h;exact wpAny_assign_Name (zgE I hN hi hx r (fun s' I'=>⟨_,H,I',h⟩) hf)
def gNil:TGs:=fun vs σ H Q=>vs=[]∧Q σ H
def zfZ (t:TG) (u:TGs):TGs:=fun vs σ H Q=>∃ v r,vs=v::r∧t v σ H fun σ' H'=>u r σ' H' Q
theorem pgs_nil:PGs X [] gNil:=by
 intro pins s σ H vs us Q I r h;obtain ⟨e,h⟩:=h;subst e
 cases r
 exact assignInOrder_nil ⟨σ,H,I,h⟩
theorem zcI {e:Expr} {es:List Expr} {t:TG} {u:TGs} (h1:PG X e t) (h2:PGs X es u)
  (hs:(assignEach (e::es) X.env).map (·.2)=assign e X.env::(assignEach es X.env).map (·.2):=by rfl):PGs X (e::es) (zfZ t u):=by
 intro pins s σ H vs us Q I r h;obtain ⟨v,vr,e1,h⟩:=h;subst e1
 cases r with
 | cons r rr =>
   rw [hs];refine assignInOrder_cons (thn (h1 pins s σ H _ _ _ I r h) fun _ s1 ⟨σ1,H1,I1,q1⟩=>?_);exact h2 pins s1 σ1 H1 _ _ Q I1 rr q1
def gTup (K:PySem.W.Frag) (n:Nat) (t:TGs):TG:=fun v σ H Q=>∃ a xs,v=.ref a∧SqT K H a xs∧xs.length=n∧t xs σ H Q
theorem zk7 {es:List Expr} {k:Nat} {t:TGs} {n:Nat} (hc:X.calm=true) (h:PGs X es t)
  (hn:(assignEach es X.env).length=n:=by rfl) (hst:(assignEach es X.env).findIdx? (·.1)=none:=by rfl):PG X (.Tuple es k pos) (gTup X.K n t):=by
 intro pins s σ H v u Q I r hw;obtain ⟨a,xs,e1,hq,hl,hw⟩:=hw;subst e1
 cases r
 obtain ⟨its,rv,ht,hz⟩:=I.tuple hq;refine assign_Tuple_tuple (I.ok.hd hc) ht (by simp [hn,← hl,rv.length]) hst fun h' hx=>?_;have I1:Inv X pins σ H { s with heap:=h' }:=I.kept (t':=s.toks) fun b o e=>hx b o (Nat.ne_of_lt (Heap.lt_size e)) e;exact h pins _ σ H xs _ Q I1 (by simpa using rv) hw
def gSub (to ti:TE) (t:TSet):TG:=fun v σ H Q=>to σ H fun o H1=>ti σ H1 fun i H2=>t o i v H2 fun H3=>Q σ H3
theorem zjZ {o i:Expr} {to ti:TE} {t:TSet} (ho:PE X o to) (hi:PE X i ti) (hs:PSet X t)
  (ha:∀ v,assign (.Subscript o i pos) X.env v=(do
   let ov ← holding [v] (eval o X.env)
   let iv ← holding [v,ov] (eval i X.env)
   standAt pos
   holding [v,ov,iv] (setItem ov iv v)
   release [v,ov,iv] []):=by intro _;rfl):PG X (.Subscript o i pos) (gSub to ti t):=by
 intro pins s σ H v u Q I r h;rw [ha];refine wpAny_bind (wpAny_holding (thn (ho pins s σ H _ I h) fun ov s1 ⟨x,H1,I1,r1,q1⟩=>?_));refine wpAny_bind (wpAny_holding (thn (hi pins s1 σ H1 _ I1 q1) fun iv s2 ⟨y,H2,I2,r2,q2⟩=>?_));refine wpAny_bind (wpAny_standAt (wpAny_bind (wpAny_holding (thn (hs pins s2 σ H2 x y v ov iv u _ I2 r1 r2 r q2) fun _ s3 ⟨H3,I3,q3⟩=>?_))));exact wpAny_release ⟨σ,H3,I3,q3⟩
def tAsg (te:TE) (g:TG):TS:=fun D σ H=>te σ H fun x H1=>g x σ H1 D.nx
theorem zj0 {tg e:Expr} {te:TE} {g:TG} (he:PE X e te) (hg:PG X tg g) (hs:swapsWithSole [tg] e pos.line X.env=pure false:=by rfl) (hw:swappedStores [tg] e X.env=pure none:=by rfl)
  (h1:(assignEach [tg] X.env).map (·.2)=[assign tg X.env]:=by rfl):PS X (.Assign [tg] e pos) (tAsg te g):=by
 intro pins s σ H D I h;refine wpAny_Assign_stores (thn (he pins s σ H _ I h) fun v s1 ⟨x,H1,I1,r1,q1⟩=>?_) hs hw;rw [h1];exact thn (hg pins s1 σ H1 x v _ I1 r1 q1) fun _ s2 q=>q
theorem zaL {i:Nat} {x:Str} {e:Expr} {te:TE} {pos':Pos} (hN:X.N.Nodup) (hi:X.N[i]? = some x) (hx:Loc X.env.scope x) (he:PE X e te) (hs:swapsWith e (some (.Name x pos')) pos.line X.env=pure false:=by rfl) (hf:X.fn x=true∨X.env.scope.names.lookup x=some .local:=by first | exact .inl rfl | exact .inr rfl | assumption) :
  PS X (.Assign [.Name x pos'] e pos) (tAsg te (zcs i)):=by
 intro pins s σ H D I h;refine wpAny_Assign_Name (thn (he pins s σ H _ I h) fun v s1 ⟨y,H1,I1,r1,q1⟩=>?_) hs;exact zgE I1 hN hi hx r1 (fun s2 I2=>⟨_,H1,I2,q1⟩) hf
def zk8 (to ti te:TE) (tget:V→V→Hp→VK→Prop) (tip:TIp) (tset:TSet):TS:=fun D σ H=>to σ H fun o H1=>ti σ H1 fun i H2=>tget o i H2 fun x H3=>te σ H3 fun y H4=>tip x y H4 fun z H5=>tset o i z H5 fun H6=>D.nx σ H6
def PGet (X:Cx) (t:V→V→Hp→VK→Prop):Prop :=
 ∀ (pins:List (Addr×Obj)) (s:Shared) (σ:St) (H:Hp) (o i:V) (ov iv:Value) (Q:VK),Inv X pins σ H s→RelV o ov→RelV i iv→t o i H Q →
  wpAny (model X.prog X.w) X.A (getItem ov iv) (EP X pins σ Q) X.xe s
theorem zkf {o i e:Expr} {to ti te:TE} {tget:V→V→Hp→VK→Prop} {tip:TIp} {tset:TSet} {op:Operator} {tpos:Pos} (ho:PE X o to) (hi:PE X i ti) (hg:PGet X tget) (he:PE X e te) (hp:PIp X op tip) (hs:PSet X tset)
  (ha:∀ ov iv new,augStore i ov iv new=(do holding [new,ov,iv] (setItem ov iv new);release [new,ov,iv] [];pure .next):=by intros;rfl):PS X (.AugAssign (.Subscript o i tpos) op e pos) (zk8 to ti te tget tip tset):=by
 intro pins s σ H D I h;refine wpAny_AugAssign_SubscriptAny (thn (ho pins s σ H _ I h) fun ov s1 ⟨x1,H1,I1,r1,q1⟩=>?_) ha;refine thn (hi pins s1 σ H1 _ I1 q1) fun iv s2 ⟨x2,H2,I2,r2,q2⟩=>?_;refine thn (hg pins s2 σ H2 x1 x2 ov iv _ I2 r1 r2 q2) fun old s3 ⟨x3,H3,I3,r3,q3⟩=>?_;refine thn (he pins s3 σ H3 _ I3 q3) fun v s4 ⟨x4,H4,I4,r4,q4⟩=>?_;refine thn (hp pins s4 σ H4 x3 x4 old v _ I4 r3 r4 q4) fun new s5 ⟨x5,H5,I5,r5,q5⟩=>?_;exact thn (hs pins s5 σ H5 x1 x2 x5 ov iv new _ I5 r1 r2 r5 q5) fun _ s6 ⟨H6,I6,q6⟩=>⟨σ,H6,I6,q6⟩
def ipI (f:Int→Int→Int):TIp:=fun x y H Q=>∃ i j,x=.int i∧y=.int j∧Q (.int (f i j)) H
theorem ip_sub:PIp X .Sub (ipI fun i j=>i-j):=by
 intro pins s σ H x y v u Q I r1 r2 h;obtain ⟨i,j,e1,e2,q⟩:=h;subst e1;subst e2;obtain ⟨t,rfl⟩:=r1;obtain ⟨t',rfl⟩:=r2;exact isub_int ⟨.int _,H,I.tok _,⟨_,rfl⟩,q⟩
end
section
variable {X:Cx} {pos:Pos}
def zk9 (c:TT) (tb:TS):TS:=fun D σ H=>∃ W:Nat→St→Hp→Prop,(∃ m,W m σ H)∧∀ m σ H,W m σ H →
 c σ H fun b H1=>if b=true then ∃ N:St→Hp→Prop,(∀ σ' H',N σ' H'→∃ m',m' < m∧W m' σ' H')∧tb { D with nx:=N,ct:=N,bk:=D.nx } σ H1 else D.nx σ H1
theorem zi6 {c:Expr} {body:List Stmt} {tc:TT} {tb:TS} (hp:PassesOwn (model X.prog X.w) X.A X.env X.xe) (hc:PT X c tc) (hb:PSs X body tb):PS X (.While c body [] pos) (zk9 tc tb):=by
 intro pins s σ H D I h;obtain ⟨W,⟨m0,w0⟩,turn⟩:=h;refine wpAny_While (codeAny_whileLoop (fun n s'=>∃ σ' H',Inv X pins σ' H' s'∧W n σ' H') ?_ m0 ⟨σ,H,I,w0⟩);rintro n s1 ⟨σ1,H1,I1,w1⟩;refine wpAny_passesOwn hp (thn (hc pins s1 σ1 H1 _ I1 (turn n σ1 H1 w1)) fun b s2 ⟨H2,I2,q2⟩=>?_)
 cases b with
 | true =>
   obtain ⟨N,hN,q2⟩:=q2;rw [if_pos rfl];refine wpAny_passesOwn hp (thn (hb pins s2 σ1 H2 _ I2 q2) fun f s3 q3=>?_)
   cases f with
   | next =>
     obtain ⟨σ3,H3,I3,n3⟩:=q3;obtain ⟨m',hm,w3⟩:=hN σ3 H3 n3;exact ⟨m',hm,σ3,H3,I3,w3⟩
   | cont =>
     obtain ⟨σ3,H3,I3,n3⟩:=q3;obtain ⟨m',hm,w3⟩:=hN σ3 H3 n3;exact ⟨m',hm,σ3,H3,I3,w3⟩
   | brk=>exact q3
   | ret v=>exact q3
 | false =>
   rw [if_neg Bool.false_ne_true];exact wpAny_execs_nil ⟨σ1,H2,I2,q2⟩
end
structure It where
 go:Nat→Hp→Prop
 yld:Nat→Hp→V→Hp→Prop
 stop:Nat→Hp→Prop
def FpOk (X:Cx) (pins:List (Addr×Obj)) (H:Hp) (b:Addr):Prop :=
 H b=none∧b≠X.env.locals∧b∉X.fs∧(b∈X.ex∨X.s₀.heap.objs.size≤b)∧(∀ x c,X.env.cells.lookup x=some c→c≠b)∧∀ p∈X.pn++pins,p.1≠b
theorem Inv.fpOk {X:Cx} {pins:List (Addr×Obj)} {σ:St} {H H':Hp} {s:Shared} {b:Addr} (I:Inv X pins σ H s) (hb:s.heap.objs.size≤b) (hn:H' b=none):FpOk X pins H' b:=by
 refine ⟨hn,Nat.ne_of_gt (Nat.lt_of_lt_of_le I.lt hb),I.nofs hb,.inr (Nat.le_trans I.sz hb),fun x c e z=>?_,fun p hp z=>?_⟩
 ·obtain ⟨v,q⟩:=I.cell x c e;exact absurd (Nat.lt_of_lt_of_le q.lt (by rw [z];exact hb)) (Nat.lt_irrefl _)
 ·exact absurd (Nat.lt_of_lt_of_le (Heap.lt_size (I.pin p hp).1) (by rw [z];exact hb)) (Nat.lt_irrefl _)
structure Turn (P:Program) (w:World) (K:PySem.W.Frag) (tg:Expr) (J:It) (fp:List Addr) (it:Addr) (tn:Nat→Heap→Prop):Prop where
 mem:it∈fp
 obj:∀ i h,tn i h→∀ b∈fp,∃ o,h.get? b=some o∧∀ v,o.data≠.cell v
 keep:∀ i h h',tn i h→(∀ b∈fp,∀ o,h.get? b=some o→h'.get? b=some o)→tn i h'
 item:∀ (X:Cx),X.prog=P→X.w=w→X.K=K→X.calm=true→∀ (i:Nat) (pins:List (Addr×Obj)) (s:Shared) (σ:St) (H:Hp) (E:Value→Shared→Prop),Inv X pins σ H s→(∀ b∈fp,FpOk X pins H b)→tn i s.heap→J.go i H →
  wpAny (model P w) X.A (pyNext (.ref it)) (fun r s1=>∃ u,r=some u ∧
   wpAny (model P w) X.A (letOwnedTupleGo tg (.ref it) u) (fun _ s2=>∃ x H',Inv X pins σ H' s2∧RelV x u∧J.yld i H x H'∧tn (i+1) s2.heap∧∀ b∈fp,H' b=none) E s1) E s
 done:∀ (X:Cx),X.prog=P→X.w=w→X.K=K→X.calm=true→∀ (i:Nat) (pins:List (Addr×Obj)) (s:Shared) (σ:St) (H:Hp) (E:Value→Shared→Prop),Inv X pins σ H s→(∀ b∈fp,FpOk X pins H b)→tn i s.heap→J.stop i H →
  wpAny (model P w) X.A (pyNext (.ref it)) (fun r s1=>r=none∧Inv X pins σ H s1) E s
 self:∀ (A:Around) (i:Nat) (s:Shared) (Q:Value→Shared→Prop) (E:Value→Shared→Prop),tn i s.heap→Q (.ref it) s→wpAny (model P w) A (pyIter (.ref it)) Q E s
abbrev TI:=St→Hp→(It→Hp→Prop)→Prop
def PIE (X:Cx) (pins:List (Addr×Obj)) (σ:St) (tg:Expr) (R:It→Hp→Prop) (itv:Value) (s2:Shared):Prop :=
 ∃ (it:Addr) (fp:List Addr) (tn:Nat→Heap→Prop) (J:It) (H':Hp),itv=.ref it∧Inv X pins σ H' s2∧Turn X.prog X.w X.K tg J fp it tn∧tn 0 s2.heap∧(∀ b∈fp,FpOk X pins H' b)∧R J H'
def PI (X:Cx) (tg iter:Expr) (wi:TI):Prop :=
 ∀ (pins:List (Addr×Obj)) (s:Shared) (σ:St) (H:Hp) (R:It→Hp→Prop),Inv X pins σ H s→wi σ H R →
  wpAny (model X.prog X.w) X.A (eval iter X.env) (fun v s1=>wpAny (model X.prog X.w) X.A (pyIter v) (PIE X pins σ tg R) X.xe s1) X.xe s
theorem zla {M:Model} {A:Around} {E:Value→Shared→Prop} {s:Shared} {tg:Expr} {it:Addr} {u:Value} {o:Obj} {n:String} {vs:Array Value} {Q:Unit→Shared→Prop} (ho:s.heap.get? it=some o) (hc:o.cls=.type n) (hd:o.data=.fields vs)
  (hn:["enumerate","zip","dict_itemiterator","dict_reverseitemiterator","odict_iterator","itertools.zip_longest","itertools.pairwise"].contains n=false) (hQ:Q () s):wpAny M A (letOwnedTupleGo tg (.ref it) u) Q E s:=by
 unfold letOwnedTupleGo
 cases tg <;> first
  | exact wpAny_pure hQ
  | (cases u <;> first
     | exact wpAny_pure hQ
     | (refine wpAny_bind (wpAny_load ho ?_)
        rw [hc,hd];show wpAny M A (if (["enumerate","zip","dict_itemiterator","dict_reverseitemiterator","odict_iterator","itertools.zip_longest","itertools.pairwise"].contains n && vs[0]? == some (rawInt _))=true then _ else _) Q E s;rw [if_neg (by intro h;rw [hn,Bool.false_and] at h;cases h)];exact wpAny_pure hQ))
def Itl (K:PySem.W.Frag) (a:Addr):It :=
 ⟨fun i H=>∃ xs x,SqL K H a xs∧xs[i]? = some x,fun i H x H'=>H'=H∧∀ xs,SqL K H a xs→xs[i]? = some x,fun i H=>∃ xs,SqL K H a xs∧xs.length≤i⟩
def Itr (lo:Int) (n:Nat):It:=⟨fun i _=>i < n,fun i H x H'=>H'=H∧x=.int (lo+i),fun i _=>n≤i⟩
theorem zhQ {P:Program} {w:World} {K:PySem.W.Frag} {tg:Expr} (a it:Addr):Turn P w K tg (Itl K a) [it] it (fun i h=>h.IsListIter it a i) where
 mem:=by simp
 obj:=fun i h st b hb=>by
  have e:b=it:=by simpa using hb
  subst e;obtain ⟨o,e,c,d⟩:=st;exact ⟨o,e,fun v z=>by rw [d] at z;cases z⟩
 keep:=fun i h h' st k=>st.at fun o e=>k it (by simp) o e
 item:=by
  intro X hP hw hK hc i pins s σ H E I hf st hg;subst hP hw hK;obtain ⟨xs,x,hq,hx⟩:=hg;obtain ⟨its,rv,p,hz⟩:=I.list hq;obtain ⟨u,hu,ru⟩:=rv.get hx;obtain ⟨f0,f1,f2,f3,f4,f5⟩:=hf it (by simp);refine wpAny_pyNext_list_item st p.isList (x:=u) (by simpa using hu) fun h' st' sb=>?_;have I1:Inv X pins σ H { s with heap:=h' }:=I.turned (t':=s.toks) (fun b o hb e=>(sb.2 b hb).trans e) f0 f1 f3 f4 f5;obtain ⟨o,e,c,d⟩:=id st';exact ⟨u,rfl,zla (s:={ s with heap:=h' }) e c d (by decide) ⟨x,H,I1,ru,⟨rfl,fun ys hy=>by rw [I.list_inj hy hq];exact hx⟩,st',fun b hb=>(hf b hb).1⟩⟩
 done:=by
  intro X hP hw hK hc i pins s σ H E I hf st hg;subst hP hw hK;obtain ⟨xs,hq,hx⟩:=hg;obtain ⟨its,rv,p,hz⟩:=I.list hq;obtain ⟨f0,f1,f2,f3,f4,f5⟩:=hf it (by simp);have hl:=rv.length;exact wpAny_pyNext_list_end (I.ok.hd hc) st p.isList (by simp;omega) fun h' eb=>⟨rfl,I.turned (t':=s.toks) (fun b o hb e=>eb b o hb e) f0 f1 f3 f4 f5⟩
 self:=fun _ _ _ _ _ st h=>wpAny_pyIter_listiter st h
theorem zg8 {P:Program} {w:World} {K:PySem.W.Frag} {tg:Expr} (it:Addr) (lo:Int) (n:Nat):Turn P w K tg (Itr lo n) [it] it (fun i h=>IsRangeIter h it (lo+(i:Nat) * 1) ((n:Int)-(i:Nat)) 1) where
 mem:=by simp
 obj:=fun i h st b hb=>by
  have e:b=it:=by simpa using hb
  subst e;exact ⟨_,st,fun v z=>by
   have z':Data.fields _=Data.cell v:=z
   cases z'⟩
 keep:=fun i h h' st k=>k it (by simp) _ st
 item:=by
  intro X hP hw hK hc i pins s σ H E I hf st hg;subst hP hw hK;obtain ⟨f0,f1,f2,f3,f4,f5⟩:=hf it (by simp);have W:=Walks.range (prog:=X.prog) (w:=X.w) (I.ok.hd hc) it lo 1 n;refine W.item i s _ _ hg st fun v h' tk hv st' kk=>?_;obtain ⟨t,rfl⟩:=hv;have I1:Inv X pins σ H { s with heap:=h',toks:=tk }:=I.turned (fun b o hb e=>kk b o (by simpa using hb) e) f0 f1 f3 f4 f5;refine ⟨_,rfl,zla (s:={ s with heap:=h',toks:=tk }) (n:="range_iterator") st' rfl rfl (by decide) ⟨.int (lo+i),H,I1,⟨t,?_⟩,⟨rfl,rfl⟩,st',fun b hb=>(hf b hb).1⟩⟩;rw [Int.mul_one]
 done:=by
  intro X hP hw hK hc i pins s σ H E I hf st hg;subst hP hw hK;obtain ⟨f0,f1,f2,f3,f4,f5⟩:=hf it (by simp);exact wpAny_pyNext_range_end (I.ok.hd hc) st (by have:n≤i:=hg;omega) fun h' eb=>⟨rfl,I.turned (t':=s.toks) (fun b o hb e=>eb b o hb e) f0 f1 f3 f4 f5⟩
 self:=fun _ _ _ _ _ st h=>wpAny_pyIter_rangeiter st h
end L2
namespace L2
open PySem PySem.Spec PyProof.Rows
section
variable {X:Cx} {tg:Expr}
def zi7 (K:PySem.W.Frag) (tl:TE):TI:=fun σ H R=>tl σ H fun x H1=>∃ a,x=.ref a∧(∃ xs,SqL K H1 a xs)∧R (Itl K a) H1
theorem zkg {l:Expr} {tl:TE} (hl:PE X l tl):PI X tg l (zi7 X.K tl):=by
 intro pins s σ H R I h;refine thn (hl pins s σ H _ I h) fun v s1 ⟨x,H1,I1,r1,q1⟩=>?_;obtain ⟨a,e,⟨xs,hq⟩,q⟩:=q1;subst e
 cases r1
 obtain ⟨its,rv,p,hz⟩:=I1.list hq;refine wpAny_pyIter_list p.isList ?_;refine ⟨s1.heap.objs.size,[s1.heap.objs.size],_,_,H1,rfl,I1.kept (t':=s1.toks) fun b o e=>Heap.get?_push_of_some _ e,zhQ a _,⟨_,Heap.get?_push_size _ rfl,rfl,rfl⟩,fun b hb=>?_,q⟩;have e:b=s1.heap.objs.size:=by simpa using hb
 subst e;exact I1.fpOk (Nat.le_refl _) (I1.hok.fresh (Nat.le_refl _))
theorem zgF {pins:List (Addr×Obj)} {σ:St} {H:Hp} {s:Shared} {R:It→Hp→Prop} {E:Value→Shared→Prop} {lo hi:Int} {t u v:Tok} {tk:Nat} (I:Inv X pins σ H s) (h1 : -(2 ^ 62)≤lo) (h2:lo < 2 ^ 62) (h3 : -(2 ^ 62)≤hi) (h4:hi < 2 ^ 62)
  (q:R (Itr lo (hi-lo).toNat) H):wpAny (model X.prog X.w) X.A (pyIter (.ref s.heap.objs.size)) (PIE X pins σ tg R) E { s with heap:=s.heap.push { cls:=.type "range",data:=.fields #[.int lo t,.int hi u,.int 1 v] },toks:=tk }:=by
 refine wpAny_pyIter_range (IsRange.new ..) (small_one h1 h2 h3 h4) ?_;have I1:Inv X pins σ H { s with heap:=s.heap.push { cls:=.type "range",data:=.fields #[.int lo t,.int hi u,.int 1 v] },toks:=tk }:=I.kept fun b o e=>Heap.get?_push_of_some _ e;refine ⟨(s.heap.push { cls:=.type "range",data:=.fields #[.int lo t,.int hi u,.int 1 v] }).objs.size,[(s.heap.push { cls:=.type "range",data:=.fields #[.int lo t,.int hi u,.int 1 v] }).objs.size],_,_,H,rfl,
  I1.kept (t':=tk) fun b o e=>Heap.get?_push_of_some _ e,zg8 _ lo (hi-lo).toNat,?_,fun b hb=>?_,q⟩
 ·have e1:lo+((0:Nat):Int) * 1=lo:=by simp
  have e2:(((hi-lo).toNat:Nat):Int)-((0:Nat):Int)=Builtin.Range.rangeSize lo hi 1:=by rw [rangeSize_one];split <;> omega
  show IsRangeIter _ _ (lo+((0:Nat):Int) * 1) ((((hi-lo).toNat:Nat):Int)-((0:Nat):Int)) 1;rw [e1,e2];exact Heap.get?_push_size _ rfl
 ·have e:b=(s.heap.push { cls:=.type "range",data:=.fields #[.int lo t,.int hi u,.int 1 v] }).objs.size:=by simpa using hb
  subst e;exact I1.fpOk (Nat.le_refl _) (I1.hok.fresh (Nat.le_refl _))
def zkh (ta:TA):TI:=fun σ H R=>ta σ H fun vs H1=>∃ j:Int,vs=[.int j]∧-(2 ^ 62)≤j∧j < 2 ^ 62∧R (Itr 0 j.toNat) H1
def zki (ta:TA):TI:=fun σ H R=>ta σ H fun vs H1=>∃ i j:Int,vs=[.int i,.int j]∧(-(2 ^ 62)≤i∧i < 2 ^ 62∧-(2 ^ 62)≤j∧j < 2 ^ 62)∧R (Itr i (j-i).toNat) H1
theorem za8 {a:Expr} {ta:TA} {p pos:Pos} (hg:Gl X "range") (hm:X.mg "range" = none) (ha:PA X [a] ta) (hs:starEach [a] X.env=[(false,eval a X.env)]:=by rfl):PI X tg (.Call (.Name "range" p) [a] [] pos) (zkh ta):=by
 intro pins s σ H R I h;refine Call_ (zd4 I hg hm boot_range (PyProof.Rows.callWith_type1 (thn (ha pos pins s σ H _ I h) fun us s1 ⟨vs,H1,I1,r1,q1⟩=>?_) hs rfl));obtain ⟨j,e,q1,q2,q⟩:=q1;subst e
 cases r1 with
 | cons r rr =>
   cases rr
   obtain ⟨t,rfl⟩:=r;exact call_range_1 (zgF I1 (by omega) (by omega) q1 q2 (by simpa using q))
theorem zb6 {a b:Expr} {ta:TA} {p pos:Pos} (hg:Gl X "range") (hm:X.mg "range" = none) (ha:PA X [a,b] ta) (hs:starEach [a,b] X.env=[(false,eval a X.env),(false,eval b X.env)]:=by rfl) (hs2:starEach [b] X.env=[(false,eval b X.env)]:=by rfl) :
  PI X tg (.Call (.Name "range" p) [a,b] [] pos) (zki ta):=by
 intro pins s σ H R I h;refine Call_ (zd4 I hg hm boot_range (PyProof.Rows.callWith_type1 (thn (ha pos pins s σ H _ I h) fun us s1 ⟨vs,H1,I1,r1,q1⟩=>?_) (by rw [hs,hs2]) (by rw [hs2];rfl)));obtain ⟨i,j,e,⟨q1,q2,q3,q4⟩,q⟩:=q1;subst e
 cases r1 with
 | cons r rr =>
   cases rr with
   | cons r' rr =>
     cases rr
     obtain ⟨t,rfl⟩:=r;obtain ⟨t',rfl⟩:=r';exact call_range_2 (zgF I1 q1 q2 q3 q4 q)
def tFor (wi:TI) (g:TG) (tb:TS):TS:=fun D σ H=>wi σ H fun J H1=>∃ W:Nat→Nat→St→Hp→Prop,(∃ m,W 0 m σ H1)∧∀ i m σ H,W i m σ H →
 (J.stop i H∧D.nx σ H)∨(J.go i H∧∃ N:St→Hp→Prop,(∀ σ' H',N σ' H'→∃ m',m' < m∧W (i+1) m' σ' H')∧∀ x H',J.yld i H x H'→g x σ H' fun σ2 H2=>tb { D with nx:=N,ct:=N,bk:=D.nx } σ2 H2)
def zfe (fp:List Addr) (h:Heap):List (Addr×Obj):=fp.filterMap fun b=>(h.get? b).map fun o=>(b,o)
theorem zcJ {fp:List Addr} {h:Heap} {b:Addr} {o:Obj} (hb:b∈fp) (e:h.get? b=some o):(b,o)∈zfe fp h:=List.mem_filterMap.mpr ⟨b,hb,by rw [e];rfl⟩
theorem zhR {fp:List Addr} {h:Heap} {p:Addr×Obj} (hp:p∈zfe fp h):p.1∈fp∧h.get? p.1=some p.2:=by
 obtain ⟨b,hb,e⟩:=List.mem_filterMap.mp hp
 cases q:h.get? b with
 | none=>rw [q] at e;cases e
 | some o =>
   rw [q] at e;have e':(b,o)=p:=Option.some.inj e;subst e';exact ⟨hb,q⟩
theorem Inv.pinned {pins:List (Addr×Obj)} {σ:St} {H:Hp} {s:Shared} {fp:List Addr} (I:Inv X pins σ H s) (hf:∀ b∈fp,FpOk X pins H b) (ho:∀ b∈fp,∃ o,s.heap.get? b=some o∧∀ v,o.data≠.cell v):Inv X (pins++zfe fp s.heap) σ H s :=
 I.pins_of fun p hp=>(List.mem_append.mp hp).elim (fun z=>I.pin p (List.mem_append_right _ z)) fun z=>by
  obtain ⟨hb,e⟩:=zhR z;obtain ⟨f0,f1,f2,_⟩:=hf p.1 hb;obtain ⟨o,e',d⟩:=ho p.1 hb;rw [e] at e';cases e'
  exact ⟨e,f0,f1,f2,d⟩
theorem Inv.unpinned {pins pl:List (Addr×Obj)} {σ:St} {H:Hp} {s:Shared} (I:Inv X (pins++pl) σ H s):Inv X pins σ H s:=I.pins_of fun p hp=>I.pin p (List.mem_append_right _ (List.mem_append_left _ hp))
theorem zbc {iter:Expr} {body:List Stmt} {wi:TI} {g:TG} {tb:TS} {pos:Pos} (hp:PassesOwn (model X.prog X.w) X.A X.env X.xe) (hc:X.calm=true) (hi:PI X tg iter wi) (hg:PG X tg g) (hb:PSs X body tb)
  (hs:∀ x,foldedSetIterable iter X.env x=pure x:=by intro _;rfl):PS X (.For tg iter body [] pos) (tFor wi g tb):=by
 intro pins s σ H D I h;refine wpAny_For (thn (hi pins s σ H _ I h) fun v s1 h1=>thn h1 fun itv s2 h2=>?_) hs;obtain ⟨it,fp,tn,J,H2,e,I2,T,st2,f2,W,⟨m0,w0⟩,turn⟩:=h2;subst e;have stat:∀ {H':Hp},(∀ b∈fp,H' b=none)→∀ b∈fp,FpOk X pins H' b:=fun hn b hb=>⟨hn b hb,(f2 b hb).2⟩
 refine codeAny_forLoop_any (fun n s'=>∃ i σ' H',Inv X pins σ' H' s'∧tn i s'.heap∧(∀ b∈fp,H' b=none)∧W i n σ' H') ?_ m0 ⟨0,σ,H2,I2,st2,fun b hb=>(f2 b hb).1,w0⟩;rintro n s3 ⟨i,σ3,H3,I3,st3,fr3,w3⟩;rcases turn i n σ3 H3 w3 with ⟨stop,qn⟩ | ⟨go,N,hN,step⟩
 ·refine wpAny_passesOwn hp (thn (T.done X rfl rfl rfl hc i pins s3 σ3 H3 X.xe I3 (stat fr3) st3 stop) fun r s4 ⟨hr,I4⟩=>?_);subst hr;exact wpAny_execs_nil ⟨σ3,H3,I4,qn⟩
 ·refine wpAny_passesOwn hp (thn (T.item X rfl rfl rfl hc i pins s3 σ3 H3 X.xe I3 (stat fr3) st3 go) fun r s4 ⟨u,hr,h4⟩=>?_);subst hr;refine wpAny_passesOwn hp (thn h4 fun _ s5 ⟨x,H5,I5,r5,y5,st5,fr5⟩=>?_);have I5':=I5.pinned (stat fr5) (T.obj _ _ st5);refine wpAny_passesOwn hp (thn (hg _ s5 σ3 H5 x u _ I5' r5 (step x H5 y5)) fun _ s6 ⟨σ6,H6,I6,q6⟩=>?_);refine wpAny_passesOwn hp (thn (hb _ s6 σ6 H6 _ I6 q6) fun f s7 q7=>?_);have again:∀ {σ7:St} {H7:Hp},Inv X (pins++zfe fp s5.heap) σ7 H7 s7→N σ7 H7→∃ m,m < n∧∃ i σ' H',Inv X pins σ' H' s7∧tn i s7.heap∧(∀ b∈fp,H' b=none)∧W i m σ' H':=fun {σ7 H7} I7 n7=>by
   obtain ⟨m',hm,w7⟩:=hN σ7 H7 n7;refine ⟨m',hm,i+1,σ7,H7,I7.unpinned,T.keep _ _ _ st5 fun b hb o e=>(I7.pin (b,o) (List.mem_append_right _ (List.mem_append_right _ (zcJ hb e)))).1,fun b hb=>?_,w7⟩;obtain ⟨o,e,d⟩:=T.obj _ _ st5 b hb;exact (I7.pin (b,o) (List.mem_append_right _ (List.mem_append_right _ (zcJ hb e)))).2.1
  cases f with
  | next=>obtain ⟨σ7,H7,I7,n7⟩:=q7;exact again I7 n7
  | cont=>obtain ⟨σ7,H7,I7,n7⟩:=q7;exact again I7 n7
  | brk=>obtain ⟨σ7,H7,I7,q7⟩:=q7;exact ⟨σ7,H7,I7.unpinned,q7⟩
  | ret v=>obtain ⟨x7,σ7,H7,I7,r7,q7⟩:=q7;exact ⟨x7,σ7,H7,I7.unpinned,r7,q7⟩
end
theorem zi8 {K:PySem.W.Frag} {a:Addr} {xs:List V} {g:TG} {tb:TS} {D:Ends} {σ:St} {H:Hp} (Pv:Nat→St→Hp→Prop) (h0:Pv 0 σ H) (hl:∀ i σ H,i≤xs.length→Pv i σ H→SqL K H a xs)
  (hs:∀ i x σ H,xs[i]? = some x→Pv i σ H→g x σ H fun σ2 H2=>tb { D with nx:=Pv (i+1),ct:=Pv (i+1),bk:=D.nx } σ2 H2) (hd:∀ σ H,Pv xs.length σ H→D.nx σ H) :
  ∃ W:Nat→Nat→St→Hp→Prop,(∃ m,W 0 m σ H)∧∀ i m σ H,W i m σ H →
   ((Itl K a).stop i H∧D.nx σ H)∨((Itl K a).go i H∧∃ N:St→Hp→Prop,(∀ σ' H',N σ' H'→∃ m',m' < m∧W (i+1) m' σ' H')∧∀ x H',(Itl K a).yld i H x H'→g x σ H' fun σ2 H2=>tb { D with nx:=N,ct:=N,bk:=D.nx } σ2 H2):=by
 refine ⟨fun i m σ H=>m=xs.length-i∧i≤xs.length∧Pv i σ H,⟨xs.length,by simp,Nat.zero_le _,h0⟩,?_⟩;rintro i m σ H ⟨rfl,hi,p⟩;have q:=hl i σ H hi p
 by_cases hlt:i < xs.length
 ·refine .inr ⟨⟨xs,xs[i],q,by simp [hlt]⟩,Pv (i+1),fun σ' H' p'=>⟨xs.length-(i+1),by omega,rfl,hlt,p'⟩,fun x H' y=>?_⟩;obtain ⟨e,y⟩:=y;subst e;exact hs i x σ _ (y xs q) p
 ·have e:i=xs.length:=by omega
  subst e;exact .inl ⟨⟨xs,q,Nat.le_refl _⟩,hd σ H p⟩
theorem zhS {lo:Int} {n:Nat} {g:TG} {tb:TS} {D:Ends} {σ:St} {H:Hp} (Pv:Nat→St→Hp→Prop) (h0:Pv 0 σ H)
  (hs:∀ i σ H,i < n→Pv i σ H→g (.int (lo+i)) σ H fun σ2 H2=>tb { D with nx:=Pv (i+1),ct:=Pv (i+1),bk:=D.nx } σ2 H2) (hd:∀ σ H,Pv n σ H→D.nx σ H) :
  ∃ W:Nat→Nat→St→Hp→Prop,(∃ m,W 0 m σ H)∧∀ i m σ H,W i m σ H →
   ((Itr lo n).stop i H∧D.nx σ H)∨((Itr lo n).go i H∧∃ N:St→Hp→Prop,(∀ σ' H',N σ' H'→∃ m',m' < m∧W (i+1) m' σ' H')∧∀ x H',(Itr lo n).yld i H x H'→g x σ H' fun σ2 H2=>tb { D with nx:=N,ct:=N,bk:=D.nx } σ2 H2):=by
 refine ⟨fun i m σ H=>m=n-i∧i≤n∧Pv i σ H,⟨n,by simp,Nat.zero_le _,h0⟩,?_⟩;rintro i m σ H ⟨rfl,hi,p⟩
 by_cases hlt:i < n
 ·refine .inr ⟨hlt,Pv (i+1),fun σ' H' p'=>⟨n-(i+1),by omega,rfl,hlt,p'⟩,fun x H' y=>?_⟩;obtain ⟨e,y⟩:=y;subst e y;exact hs i σ _ hlt p
 ·have e:i=n:=by omega
  subst e;exact .inl ⟨Nat.le_refl _,hd σ H p⟩
end L2
namespace L2
open PySem PySem.Spec PyProof.Rows
abbrev R2:=V→V→Hp→VK→Prop
def OpR (X:Cx) (f:Value→Value→Sem Value) (r:R2):Prop :=
 ∀ (pins:List (Addr×Obj)) (s:Shared) (σ:St) (H:Hp) (x y:V) (v u:Value) (Q:VK),Inv X pins σ H s→RelV x v→RelV y u→r x y H Q →
  wpAny (model X.prog X.w) X.A (f v u) (EP X pins σ Q) X.xe s
def UnR (X:Cx) (f:Value→Sem Value) (r:V→Hp→VK→Prop):Prop :=
 ∀ (pins:List (Addr×Obj)) (s:Shared) (σ:St) (H:Hp) (x:V) (v:Value) (Q:VK),Inv X pins σ H s→RelV x v→r x H Q →
  wpAny (model X.prog X.w) X.A (f v) (EP X pins σ Q) X.xe s
def zdd (X:Cx) (f:Value) (r:List V→Hp→VK→Prop):Prop :=
 ∀ (pins:List (Addr×Obj)) (s:Shared) (σ:St) (H:Hp) (xs:List V) (us:List Value) (Q:VK),Inv X pins σ H s→Vals xs us→r xs H Q →
  wpAny (model X.prog X.w) X.A (call f us) (EP X pins σ Q) X.xe s
def TruR (X:Cx) (r:V→Hp→(Bool→Hp→Prop)→Prop):Prop :=
 ∀ (pins:List (Addr×Obj)) (s:Shared) (σ:St) (H:Hp) (x:V) (v:Value) (Q:Bool→Hp→Prop),Inv X pins σ H s→RelV x v→r x H Q →
  wpAny (model X.prog X.w) X.A (truthy v) (TP X pins σ Q) X.xe s
def tOp (r:R2) (ta tb:TE):TE:=fun σ H Q=>ta σ H fun x H1=>tb σ H1 fun y H2=>r x y H2 Q
def tUn (r:V→Hp→VK→Prop) (ta:TE):TE:=fun σ H Q=>ta σ H fun x H1=>r x H1 Q
def rI (C:Int→Int→Prop) (g:Int→Int→V):R2:=fun x y H Q=>∃ i j,x=.int i∧y=.int j∧C i j∧Q (g i j) H
def rI0 (g:Int→Int→V):R2:=fun x y H Q=>∃ i j,x=.int i∧y=.int j∧Q (g i j) H
def rU (g:Int→V):V→Hp→VK→Prop:=fun x H Q=>∃ i,x=.int i∧Q (g i) H
section
variable {X:Cx} {a b c:Expr} {ta tb tc:TE} {pos:Pos}
theorem binT (ha:PE X a ta) (hb:PE X b tb) {pins:List (Addr×Obj)} {s:Shared} {σ:St} {H:Hp} {R:V→V→Hp→Prop} (I:Inv X pins σ H s)
  (h:ta σ H fun x H1=>tb σ H1 fun y H2=>R x y H2) {Q:Value→Shared→Prop} {f:Value→Value→Sem Value}
  (hf:∀ v u s2 x y H2,Inv X pins σ H2 s2→RelV x v→RelV y u→R x y H2→wpAny (model X.prog X.w) X.A (f v u) Q X.xe s2) :
  wpAny (model X.prog X.w) X.A (eval a X.env) (fun v s₁=>wpAny (model X.prog X.w) X.A (eval b X.env) (fun u s₂=>wpAny (model X.prog X.w) X.A (f v u) Q X.xe s₂) X.xe s₁) X.xe s:=by
 refine thn (ha pins s σ H _ I h) fun v s1 ⟨x,H1,I1,r1,q1⟩=>?_;refine thn (hb pins s1 σ H1 _ I1 q1) fun u s2 ⟨y,H2,I2,r2,q2⟩=>?_;exact hf v u s2 x y H2 I2 r1 r2 q2
theorem zap {op:Operator} {r:R2} (ho:OpR X (binaryOp op) r) (ha:PE X a ta) (hb:PE X b tb):PE X (.BinOp a op b pos) (tOp r ta tb):=by
 intro pins s σ H Q I h;exact wpAny_BinOp (binT ha hb I h fun v u s2 x y H2 I2 rx ry q=>ho pins s2 σ H2 x y v u Q I2 rx ry q)
theorem zmn {op:UnaryOp} {r:V→Hp→VK→Prop} (ho:UnR X (unaryOp op) r) (ha:PE X a ta):PE X (.UnaryOp op a pos) (tUn r ta):=by
 intro pins s σ H Q I h;exact UnaryOp_ (thn (ha pins s σ H _ I h) fun v s1 ⟨x,H1,I1,r1,q1⟩=>ho pins s1 σ H1 x v Q I1 r1 q1)
theorem opI {f:Value→Value→Sem Value} {C:Int→Int→Prop} {g:Int→Int→Int}
  (rule:∀ (i j:Int) (t u:Tok) (s:Shared) (Q:Value→Shared→Prop) (E:Value→Shared→Prop),C i j→Q (.int (g i j) s.toks) { s with toks:=s.toks+1 }→wpAny (model X.prog X.w) X.A (f (.int i t) (.int j u)) Q E s) :
  OpR X f (rI C fun i j=>.int (g i j)):=by
 intro pins s σ H x y v u Q I rx ry h;obtain ⟨i,j,rfl,rfl,hc,q⟩:=h;obtain ⟨t,rfl⟩:=rx;obtain ⟨t',rfl⟩:=ry;exact rule i j t t' s _ _ hc ⟨.int (g i j),H,I.tok _,⟨_,rfl⟩,q⟩
theorem opI0 {f:Value→Value→Sem Value} {g:Int→Int→Int}
  (rule:∀ (i j:Int) (t u:Tok) (s:Shared) (Q:Value→Shared→Prop) (E:Value→Shared→Prop),Q (.int (g i j) s.toks) { s with toks:=s.toks+1 }→wpAny (model X.prog X.w) X.A (f (.int i t) (.int j u)) Q E s) :
  OpR X f (rI0 fun i j=>.int (g i j)):=by
 intro pins s σ H x y v u Q I rx ry h;obtain ⟨i,j,rfl,rfl,q⟩:=h;obtain ⟨t,rfl⟩:=rx;obtain ⟨t',rfl⟩:=ry;exact rule i j t t' s _ _ ⟨.int (g i j),H,I.tok _,⟨_,rfl⟩,q⟩
theorem opB0 {f:Value→Value→Sem Value} {g:Int→Int→Bool}
  (rule:∀ (i j:Int) (t u:Tok) (s:Shared) (Q:Value→Shared→Prop) (E:Value→Shared→Prop),Q (.bool (g i j)) s→wpAny (model X.prog X.w) X.A (f (.int i t) (.int j u)) Q E s) :
  OpR X f (rI0 fun i j=>.bl (g i j)):=by
 intro pins s σ H x y v u Q I rx ry h;obtain ⟨i,j,rfl,rfl,q⟩:=h;obtain ⟨t,rfl⟩:=rx;obtain ⟨t',rfl⟩:=ry;exact rule i j t t' s _ _ ⟨.bl (g i j),H,I,rfl,q⟩
theorem op_add:OpR X (binaryOp .Add) (rI0 fun i j=>.int (i+j)):=opI0 fun _ _ _ _ _ _ _ q=>add_int q
theorem op_sub:OpR X (binaryOp .Sub) (rI0 fun i j=>.int (i-j)):=opI0 fun _ _ _ _ _ _ _ q=>sub_int q
theorem op_mod:OpR X (binaryOp .Mod) (rI (fun _ j=>0 < j) fun i j=>.int (i % j)):=opI fun i j _ _ _ _ _ hc q=>by
 have h1:(0:Int) < j:=hc;exact mod_int' (by omega) (by rw [Int.fmod_eq_emod_of_nonneg i (by omega)];exact q)
theorem unI {f:Value→Sem Value} {g:Int→Int}
  (rule:∀ (i:Int) (t:Tok) (s:Shared) (Q:Value→Shared→Prop) (E:Value→Shared→Prop),Q (.int (g i) s.toks) { s with toks:=s.toks+1 }→wpAny (model X.prog X.w) X.A (f (.int i t)) Q E s) :
  UnR X f (rU fun i=>.int (g i)):=by
 intro pins s σ H x v Q I rx h;obtain ⟨i,rfl,q⟩:=h;obtain ⟨t,rfl⟩:=rx;exact rule i t s _ _ ⟨.int (g i),H,I.tok _,⟨_,rfl⟩,q⟩
theorem un_neg:UnR X (unaryOp .USub) (rU fun i=>.int (-i)):=unI fun _ _ _ _ _ q=>neg_int q
end
def scal:V→V→Bool
 | .non,.non=>true | .non,.int _=>true | .int _,.non=>true | .non,.bl _=>true | .bl _,.non=>true | .non,.str _=>true | .str _,.non=>true
 | .int _,.int _=>true | .bl _,.bl _=>true | .str _,.str _=>true | .byt _,.byt _=>true
 | .int _,.str _=>true | .str _,.int _=>true | .bl _,.str _=>true | .str _,.bl _=>true
 | _,_=>false
def rEq:R2:=fun x y H Q=>scal x y=true∧Q (.bl (decide (x=y))) H
def rNe:R2:=fun x y H Q=>scal x y=true∧Q (.bl (!decide (x=y))) H
theorem zhT {i j:Int}:decide (V.int i=V.int j)=(i == j):=by
 rw [Bool.eq_iff_iff];simp
theorem zj1 {i j:Bool}:decide (V.bl i=V.bl j)=(i == j):=by
 rw [Bool.eq_iff_iff];simp
theorem zhU {i j:Str}:decide (V.str i=V.str j)=(i == j):=by
 rw [Bool.eq_iff_iff];simp
theorem zhV {i j:Array UInt8}:decide (V.byt i=V.byt j)=(i.toList == j.toList):=by
 rw [Bool.eq_iff_iff]
 cases i
 cases j
 simp
section
variable {X:Cx} {a b c:Expr} {ta tb tc:TE} {pos:Pos}
theorem zaU {pins:List (Addr×Obj)} {σ:St} {H:Hp} {s:Shared} {Q:VK} {k k':Bool} (I:Inv X pins σ H s) (q:Q (.bl k) H) (e:k=k'):EP X pins σ Q (.bool k') s:=by
 subst e;exact ⟨.bl k,H,I,rfl,q⟩
theorem op_eq:OpR X (compareOp .Eq) rEq:=by
 intro pins s σ H x y v u Q I rx ry h;obtain ⟨hs,q⟩:=h
 cases x with
 | non =>
   cases rx
   cases y with
   | non=>cases ry;exact PySem.EqNone.eq_none_none (zaU I q (by simp))
   | bl j=>cases ry;exact PySem.EqNone.eq_none_bool (zaU I q (by simp))
   | int j=>obtain ⟨t',rfl⟩:=ry;exact PySem.EqNone.eq_none_int (zaU I q (by simp))
   | str j=>obtain ⟨t',rfl⟩:=ry;exact PySem.EqNone.eq_none_str (zaU I q (by simp))
   | _=>exact absurd (show false=true from hs) Bool.false_ne_true
 | bl i =>
   cases rx
   cases y with
   | non=>cases ry;exact PySem.EqNone.eq_bool_none (zaU I q (by simp))
   | bl j=>cases ry;exact eq_bool (zaU I q zj1)
   | str j=>obtain ⟨t',rfl⟩:=ry;exact PySem.EqMixed.eq_bool_str (zaU I q (by simp))
   | _=>exact absurd (show false=true from hs) Bool.false_ne_true
 | int i =>
   obtain ⟨t,rfl⟩:=rx
   cases y with
   | non=>cases ry;exact PySem.EqNone.eq_int_none (zaU I q (by simp))
   | int j=>obtain ⟨t',rfl⟩:=ry;exact eq_int (zaU I q zhT)
   | str j=>obtain ⟨t',rfl⟩:=ry;exact PySem.EqMixed.eq_int_str (zaU I q (by simp))
   | _=>exact absurd (show false=true from hs) Bool.false_ne_true
 | str i =>
   obtain ⟨t,rfl⟩:=rx
   cases y with
   | non=>cases ry;exact PySem.EqNone.eq_str_none (zaU I q (by simp))
   | bl j=>cases ry;exact PySem.EqMixed.eq_str_bool (zaU I q (by simp))
   | int j=>obtain ⟨t',rfl⟩:=ry;exact PySem.EqMixed.eq_str_int (zaU I q (by simp))
   | str j=>obtain ⟨t',rfl⟩:=ry;exact eq_str (zaU I q zhU)
   | _=>exact absurd (show false=true from hs) Bool.false_ne_true
 | byt i =>
   obtain ⟨t,rfl⟩:=rx
   cases y with
   | byt j=>obtain ⟨t',rfl⟩:=ry;exact PySem.W.eq_bytes (zaU I q zhV)
   | _=>exact absurd (show false=true from hs) Bool.false_ne_true
 | _=>cases y <;> exact absurd (show false=true from hs) Bool.false_ne_true
theorem op_ne:OpR X (compareOp .NotEq) rNe:=by
 intro pins s σ H x y v u Q I rx ry h;obtain ⟨hs,q⟩:=h
 cases x with
 | non =>
   cases rx
   cases y with
   | non=>cases ry;exact PySem.EqNone.ne_none_none (zaU I q (by simp))
   | bl j=>cases ry;exact PySem.EqNone.ne_none_bool (zaU I q (by simp))
   | int j=>obtain ⟨t',rfl⟩:=ry;exact PySem.EqNone.ne_none_int (zaU I q (by simp))
   | str j=>obtain ⟨t',rfl⟩:=ry;exact PySem.EqNone.ne_none_str (zaU I q (by simp))
   | _=>exact absurd (show false=true from hs) Bool.false_ne_true
 | bl i =>
   cases rx
   cases y with
   | non=>cases ry;exact PySem.EqNone.ne_bool_none (zaU I q (by simp))
   | bl j=>cases ry;exact ne_bool (zaU I q (congrArg not zj1))
   | str j=>obtain ⟨t',rfl⟩:=ry;exact PySem.EqMixed.ne_bool_str (zaU I q (by simp))
   | _=>exact absurd (show false=true from hs) Bool.false_ne_true
 | int i =>
   obtain ⟨t,rfl⟩:=rx
   cases y with
   | non=>cases ry;exact PySem.EqNone.ne_int_none (zaU I q (by simp))
   | int j=>obtain ⟨t',rfl⟩:=ry;exact ne_int (zaU I q (congrArg not zhT))
   | str j=>obtain ⟨t',rfl⟩:=ry;exact PySem.EqMixed.ne_int_str (zaU I q (by simp))
   | _=>exact absurd (show false=true from hs) Bool.false_ne_true
 | str i =>
   obtain ⟨t,rfl⟩:=rx
   cases y with
   | non=>cases ry;exact PySem.EqNone.ne_str_none (zaU I q (by simp))
   | bl j=>cases ry;exact PySem.EqMixed.ne_str_bool (zaU I q (by simp))
   | int j=>obtain ⟨t',rfl⟩:=ry;exact PySem.EqMixed.ne_str_int (zaU I q (by simp))
   | str j=>obtain ⟨t',rfl⟩:=ry;exact ne_str (zaU I q (congrArg not zhU))
   | _=>exact absurd (show false=true from hs) Bool.false_ne_true
 | byt i =>
   obtain ⟨t,rfl⟩:=rx
   cases y with
   | byt j=>obtain ⟨t',rfl⟩:=ry;exact PySem.W.ne_bytes (zaU I q (congrArg not zhV))
   | _=>exact absurd (show false=true from hs) Bool.false_ne_true
 | _=>cases y <;> exact absurd (show false=true from hs) Bool.false_ne_true
theorem op_lt:OpR X (compareOp .Lt) (rI0 fun i j=>.bl (decide (i < j))):=opB0 fun _ _ _ _ _ _ _ q=>lt_int q
theorem op_le:OpR X (compareOp .LtE) (rI0 fun i j=>.bl (decide (i≤j))):=opB0 fun _ _ _ _ _ _ _ q=>le_int q
theorem op_gt:OpR X (compareOp .Gt) (rI0 fun i j=>.bl (decide (j < i))):=opB0 fun _ _ _ _ _ _ _ q=>gt_int q
theorem op_ge:OpR X (compareOp .GtE) (rI0 fun i j=>.bl (decide (j≤i))):=opB0 fun _ _ _ _ _ _ _ q=>ge_int q
theorem op_isN:OpR X (compareOp .Is) (fun x y H Q=>y=.non∧Q (.bl (decide (x=.non))) H):=by
 intro pins s σ H x y v u Q I rx ry h;obtain ⟨rfl,q⟩:=h
 cases ry
 refine is_none_gen (zaU I q ?_)
 cases x <;> first
  | (cases rx;rfl)
  | (obtain ⟨t,rfl⟩:=rx;rfl)
theorem OpR.or {f:Value→Value→Sem Value} {r r':R2} (h:OpR X f r) (h':OpR X f r'):OpR X f (fun x y H Q=>r x y H Q∨r' x y H Q):=by
 intro pins s σ H x y v u Q I rx ry q;rcases q with q | q
 ·exact h pins s σ H x y v u Q I rx ry q
 ·exact h' pins s σ H x y v u Q I rx ry q
theorem zaB (b:Expr) {op:CmpOp} (h:op≠.In:=by decide) (h2:op≠.NotIn:=by decide):behindInMarks op b=false:=by
 have e1:(op == CmpOp.In)=false:=by cases op <;> first | rfl | exact absurd rfl h
 have e2:(op == CmpOp.NotIn)=false:=by cases op <;> first | rfl | exact absurd rfl h2
 cases b <;> simp [behindInMarks,e1,e2]
theorem zcd {op:CmpOp} {r:R2} (ho:OpR X (compareOp op) r) (ha:PE X a ta) (hb:PE X b tb) (hm:behindInMarks op b=false):PE X (.Compare a [op] [b] pos) (tOp r ta tb):=by
 intro pins s σ H Q I h;exact wpAny_Compare1 (binT ha hb I h fun v u s2 x y H2 I2 rx ry q=>ho pins s2 σ H2 x y v u Q I2 rx ry q) hm
def zlb (t:TE):TT:=fun σ H Q=>t σ H fun x H'=>∃ k,x=.bl k∧Q k H'
theorem zaq {op:CmpOp} {r:R2} (ho:OpR X (compareOp op) r) (ha:PE X a ta) (hb:PE X b tb) (hm:behindInMarks op b=false):PT X (.Compare a [op] [b] pos) (zlb (tOp r ta tb)):=by
 intro pins s σ H Q I h;refine wpAny_isTrue_Compare1 (thn (ha pins s σ H _ I h) fun v s1 ⟨x,H1,I1,r1,q1⟩=>thn (hb pins s1 σ H1 _ I1 q1) fun u s2 ⟨y,H2,I2,r2,q2⟩ =>
  thn (ho pins s2 σ H2 x y v u _ I2 r1 r2 q2) fun c s3 ⟨z,H3,I3,r3,k,e,q3⟩=>?_) hm
 subst e
 cases r3
 exact wpAny_truthy_bool ⟨H3,I3,q3⟩
def TruV (K:PySem.W.Frag) (x:V) (H:Hp) (k:Bool):Prop :=
 match x with
 | .non=>k=false
 | .bl b=>k=b
 | .int i=>k=(i != 0)
 | .str y=>y.length≤sizeLine∧k=((y.length:Int) != 0)
 | .byt y=>y.size≤sizeLine∧k=((y.size:Int) != 0)
 | .ref p=>(∃ xs,SqL K H p xs∧k = !xs.isEmpty)∨(∃ xs,SqT K H p xs∧k = !xs.isEmpty)∨∃ kvs,H p=some (.dK kvs)∧k = !kvs.isEmpty
 | _=>False
theorem zg9 {κ:Type} {kvs:List (κ×V)} {vs:List (κ×Value)} (r:KV kvs vs):(!vs.isEmpty) = !kvs.isEmpty:=by
 cases r <;> rfl
theorem zex {xs:List V} {its:List Value} (r:Vals xs its):(!its.toArray.isEmpty) = !xs.isEmpty:=by
 cases r <;> simp
theorem line63:(sizeLine:Nat) < 2 ^ 63:=by rw [sizeLine_eq];decide
theorem tru_ok:TruR X (fun x H Q=>∃ k,TruV X.K x H k∧Q k H):=by
 intro pins s σ H x v Q I rx h;obtain ⟨k,e,q⟩:=h;have hl:=line63;have hs:sizeLine=16777216:=sizeLine_eq
 cases x with
 | non =>
   cases rx
   have e':k=false:=e;subst e';exact truthy_none ⟨H,I,q⟩
 | bl b =>
   cases rx
   have e':k=b:=e;subst e';exact wpAny_truthy_bool ⟨H,I,q⟩
 | int i =>
   obtain ⟨t,rfl⟩:=rx;have e':k=(i != 0):=e;subst e';exact PySem.P.truthy_int ⟨H,I,q⟩
 | str y =>
   obtain ⟨t,rfl⟩:=rx;obtain ⟨hy,e'⟩:y.length≤sizeLine∧k=((y.length:Int) != 0):=e;subst e';exact PySem.P.truthy_str (by omega) ⟨H,I.tok _,q⟩
 | byt y =>
   obtain ⟨t,rfl⟩:=rx;obtain ⟨hy,e'⟩:y.size≤sizeLine∧k=((y.size:Int) != 0):=e;subst e';exact PySem.W.truthy_bytes (by omega) ⟨H,I.tok _,q⟩
 | ref p =>
   cases rx
   have e':(∃ xs,SqL X.K H p xs∧k = !xs.isEmpty)∨(∃ xs,SqT X.K H p xs∧k = !xs.isEmpty)∨∃ kvs,H p=some (.dK kvs)∧k = !kvs.isEmpty:=e;rcases e' with ⟨xs,hx,e'⟩ | ⟨xs,hx,e'⟩ | ⟨kvs,hx,e'⟩
   ·subst e';obtain ⟨its,r,pl,hz⟩:=I.list hx;have hlen:=r.length;exact wpAny_truthy_list pl.isList (by simp only [List.size_toArray];omega) ⟨H,I.tok _,by rw [zex r];exact q⟩
   ·subst e';obtain ⟨its,r,pl,hz⟩:=I.tuple hx;have hlen:=r.length;exact truthy_tuple pl (by simp only [List.size_toArray];omega) ⟨H,I.tok _,by rw [zex r];exact q⟩
   ·subst e';obtain ⟨hz,hS,vs,r,m⟩:kvs.length≤sizeLine∧(p == sysModules)=false∧∃ vs,KV kvs vs∧s.heap.DictOf (zbw X.prog X.w) p vs:=I.hok p _ hx;have hlen:kvs.length=vs.length:=Paired.length r;exact wpAny_truthy_dict hS m (by omega) ⟨H,I.tok _,by rw [zg9 r];exact q⟩
 | _=>exact (show False from e).elim
theorem zi9 (ha:PE X a ta) (he:∀ whole,isTrue a X.env whole=(do let v ← whole;standAt a.pos;holding [v] (truthy v))) :
  PT X a (fun σ H Q=>ta σ H fun x H'=>∃ k,TruV X.K x H' k∧Q k H'):=by
 intro pins s σ H Q I h;exact isTrue_plain (thn (ha pins s σ H _ I h) fun v s1 ⟨x,H1,I1,r1,q1⟩=>tru_ok pins s1 σ H1 x v Q I1 r1 q1) (he _)
theorem op_add_str:OpR X (binaryOp .Add) (fun x y H Q=>∃ i j,x=.str i∧y=.str j∧i.length+j.length≤sizeLine∧Q (.str (i++j)) H):=by
 intro pins s σ H x y v u Q I rx ry h;obtain ⟨i,j,rfl,rfl,hz,q⟩:=h;obtain ⟨t,rfl⟩:=rx;obtain ⟨t',rfl⟩:=ry;exact add_str (fun t' tk=>⟨.str (i++j),H,I.tok _,⟨_,rfl⟩,q⟩) hz
theorem vals1 {x:V} {us:List Value} (r:Vals [x] us):∃ u,us=[u]∧RelV x u:=by
 cases r with
 | cons r1 r2=>cases r2;exact ⟨_,rfl,r1⟩
theorem vals2 {x y:V} {us:List Value} (r:Vals [x,y] us):∃ u w',us=[u,w']∧RelV x u∧RelV y w':=by
 cases r with
 | cons r1 r2 =>
   cases r2 with
   | cons r3 r4=>cases r4;exact ⟨_,_,rfl,r1,r3⟩
theorem call_abs:zdd X (.builtin "abs") (fun xs H Q=>∃ i,xs=[.int i]∧Q (.int (if i < 0 then -i else i)) H):=by
 intro pins s σ H xs us Q I r h;obtain ⟨i,rfl,q⟩:=h;obtain ⟨u,rfl,t,rfl⟩:=vals1 r;exact call_abs_int fun u tk=>⟨.int (if i < 0 then -i else i),H,I.tok _,⟨_,rfl⟩,q⟩
theorem zhW (hc:X.calm=true):zdd X (.builtin "max") (fun xs H Q=>∃ i j,xs=[.int i,.int j]∧Q (.int (if j > i then j else i)) H):=by
 intro pins s σ H xs us Q I r h;obtain ⟨i,j,rfl,q⟩:=h;obtain ⟨u,w',rfl,⟨t,rfl⟩,⟨t',rfl⟩⟩:=vals2 r;refine max_two_ints (I.ok.hd hc) fun h' tk k=>⟨_,H,I.kept k,?_,q⟩
 by_cases hj:j > i
 ·rw [if_pos hj,if_pos hj];exact ⟨_,rfl⟩
 ·rw [if_neg hj,if_neg hj];exact ⟨_,rfl⟩
theorem zhX (hc:X.calm=true):zdd X (.builtin "min") (fun xs H Q=>∃ i j,xs=[.int i,.int j]∧Q (.int (if j < i then j else i)) H):=by
 intro pins s σ H xs us Q I r h;obtain ⟨i,j,rfl,q⟩:=h;obtain ⟨u,w',rfl,⟨t,rfl⟩,⟨t',rfl⟩⟩:=vals2 r;refine min_two_ints (I.ok.hd hc) fun h' tk k=>⟨_,H,I.kept k,?_,q⟩
 by_cases hj:j < i
 ·rw [if_pos hj,if_pos hj];exact ⟨_,rfl⟩
 ·rw [if_neg hj,if_neg hj];exact ⟨_,rfl⟩
theorem call_int1:zdd X (.type "int") (fun xs H Q=>(∃ i,xs=[.int i]∧Q (.int i) H)∨∃ k,xs=[.bl k]∧Q (.int (if k then 1 else 0)) H):=by
 intro pins s σ H xs us Q I r h;rcases h with ⟨i,rfl,q⟩ | ⟨k,rfl,q⟩
 ·obtain ⟨u,rfl,t,rfl⟩:=vals1 r;exact call_int_int ⟨.int i,H,I,⟨_,rfl⟩,q⟩
 ·obtain ⟨u,rfl,r1⟩:=vals1 r
  cases r1
  exact call_int_bool ⟨.int (if k then 1 else 0),H,I.tok _,⟨_,rfl⟩,q⟩
end
end L2
namespace L2
open PySem PySem.Spec PyProof.Rows
structure ObjM (h:Heap) (x dx C:Addr) (mA:Str→Option Value):Prop where
 obj:h.get? x=some (PySem.W.instObj C dx)
 ns:h.Ns1 dx mA
 ne:dx≠x
theorem zhY {h:Heap} {dx:Addr} {mA:Str→Option Value} (n:h.Ns1 dx mA):∃ od,h.get? dx=some od∧∀ name,PySem.W.lookIn name od=some (mA name):=by
 obtain ⟨o,es,ep,ho,hd,hk,_,hm⟩:=n;refine ⟨o,ho,fun name=>?_⟩;have e:=hm name;unfold nsFind findBy at e;rw [← Array.find?_toList] at e;unfold PySem.W.lookIn;rw [hd];dsimp only;split
 ·rename_i y q
  rw [q] at e;exact congrArg some e
 ·rename_i q
  rw [q] at e;have a:es.toList.any (·.refKey)=false:=by
   rw [List.any_eq_false];intro y hy;obtain ⟨z,t,hkey⟩:=hk y (Array.mem_toList_iff.mp hy);simp [DictEntry.refKey,hkey]
  have a':¬es.toList.any (·.refKey)=true:=by rw [a];exact Bool.false_ne_true
  rw [if_neg a'];exact congrArg some e
theorem ObjM.look {h:Heap} {x dx C:Addr} {mA:Str→Option Value} (I:ObjM h x dx C mA):∃ od,PySem.W.InstAt h x (PySem.W.instObj C dx) C (some od)∧∀ name,PySem.W.lookIn name od=some (mA name) :=
 let ⟨od,ho,hl⟩:=zhY I.ns
 ⟨od,⟨I.obj,rfl,rfl,ho⟩,hl⟩
section
variable {prog:Program} {w:World} {A:Around} {E:Value→Shared→Prop} {s:Shared} {K:PySem.W.Frag} {x dx C f:Addr} {mA:Str→Option Value} {name:Str} {v:Value}
theorem zkj {expr:Bool} {Q:Value→Shared→Prop} (X:K.In s.heap) (I:ObjM s.heap x dx C mA) (hg:PySem.W.plainGet K C name=true) (hh:PySem.W.hasDictIn K C=true)
  (ha:PySem.W.findIn K (.ref C) name=some none) (hv:mA name=some v) (hv':PySem.W.handedIn v=true) (h:Q v { s with toks:=s.toks+1 }) :
  wpAny (model prog w) A (getAttr (.ref x) name expr) Q E s:=by
 obtain ⟨od,J,hl⟩:=I.look;exact PySem.W.get_value X J (PySem.W.plainGet_of hg).1 (PySem.W.findObj_own hh ha rfl (by rw [hl,hv])) hv' h
theorem zja {pl:Sem Bool} {Q:Value×List Value→Shared→Prop} (X:K.In s.heap) (I:ObjM s.heap x dx C mA) (hg:PySem.W.plainGet K C name=true)
  (hf:PySem.W.findIn K (.ref C) name=some (some (.ref f))) (ht:PySem.W.isFn K (.ref f)=true) (hv:mA name=none) (h:Q (.ref f,[.ref x]) s) :
  wpAny (model prog w) A (getMethod (.ref x) name pl) Q E s:=by
 obtain ⟨od,J,hl⟩:=I.look;exact PySem.W.method_fn X J (PySem.W.plainGet_of hg).1 (PySem.W.plainGet_of hg).2 hf (beq_iff_eq.mp ht) (by show (PySem.W.lookIn name od).map (·.isSome)=some false;rw [hl,hv];rfl) h
theorem zkk {ns:List Str} {Q:Unit→Shared→Prop} (X:K.In s.heap) (I:ObjM s.heap x dx C mA)
  (hs:PySem.W.findIn K (.ref C) "__setattr__" = some (some (.builtin "object.__setattr__"))) (hp:PySem.W.plainOver K C=true) (ht:PySem.W.takerIn K C name=some none) (hh:PySem.W.hasDictIn K C=true)
  (hw:PySem.Within mA ns) (hsz:ns.length≤sizeLine)
  (h:∀ h',ObjM h' x dx C (fun y=>if y=name then some v else mA y)→Heap.SameBut dx s.heap h'→Q () { s with heap:=h',toks:=s.toks+2 }) :
  wpAny (model prog w) A (setAttr (.ref x) name v) Q E s:=by
 obtain ⟨od,J,hl⟩:=I.look;refine PySem.W.set_plain X J hs (PySem.W.osa_open (s:={ s with toks:=s.toks+1 }) (r:=none) X J hp ht fun b=>?_);obtain ⟨cd,hc,hd'⟩:=PySem.W.any_some hh;have hx:s.heap.get? x=some ⟨.ref C,some dx,.plain,#[]⟩:=I.obj;refine wpAny_bind (wpAny_pure (wpAny_bind (wpAny_bind (wpAny_loadPart hx (wpAny_bind (PySem.W.Looks.here (s:={ s with toks:=s.toks+1 }) (PySem.W.looks_clsIn X hc) ?_))))));rw [hd'];refine wpAny_pure (a:=some dx) (wpAny_bind (wpAny_pure (wpAny_bind ?_)));refine wpAny_nsSet1 (s:={ s with toks:=s.toks+1 }) I.ns fun h' hn2 hs2=>?_;obtain ⟨oD,esD,epD,hoD,hdD,hcD⟩:=hn2.count (PySem.Within.cons name v hw);refine wpAny_bind (wpAny_lookBehind hoD (by rw [hdD];exact pastItsLine_dict (Nat.le_trans hcD (by rw [List.length_cons];omega))) ?_);exact wpAny_pure (h _ ⟨(hs2.2 _ (Ne.symm I.ne)).trans I.obj,hn2,I.ne⟩ hs2)
theorem zjb {R:Result→Shared→Prop} {vs:List Value} {kw:List (Str×Value)} (X:K.In s.heap) (hm:PySem.W.makesIn K C=true)
  (hi:PySem.W.findIn K (.ref C) "__init__" = some (some (.ref f))) (hf:PySem.W.typeIn K (.ref f)=some (.type "function"))
  (h:codeAny (model prog w) (A.under (.builtin "type.__call__" ⟨.ref C::vs,kw⟩)) (.call (.ref f) ⟨.ref (s.heap.objs.size+1)::vs,kw⟩) (PySem.W.InitBack (s.heap.objs.size+1) R)
   { s with heap:=(s.heap.push PySem.W.emptyDict).push (PySem.W.instObj C s.heap.objs.size) }) :
  codeAny (model prog w) A (.call (.ref C) ⟨vs,kw⟩) R s:=by
 obtain ⟨hh,g,d,t,os⟩:=s;exact PySem.W.make_core (PySem.W.makes_of X hm) (PySem.W.looks_findIn X hi) (fun self=>PySem.W.bind_fn X self hf) (.inl rfl) h
end
def putF (f:Str) (v:V):List (Str×V)→List (Str×V)
 | []=>[(f,v)]
 | (g,x)::r=>if g=f then (g,v)::r else (g,x)::putF f v r
theorem zaz (f g:Str) (v:V):∀ fs:List (Str×V),(putF f v fs).lookup g=if g=f then some v else fs.lookup g
 | []=>by
   show List.lookup g [(f,v)]=_
   by_cases h:g=f
   ·have hb:(g == f)=true:=beq_iff_eq.mpr h;simp only [List.lookup,hb,if_pos h]
   ·have hb:(g == f)=false:=beq_eq_false_iff_ne.mpr h;simp only [List.lookup,hb,if_neg h]
 | (k,x)::r=>by
  have ih:=zaz f g v r;rw [show putF f v ((k,x)::r)=(if k=f then (k,v)::r else (k,x)::putF f v r) from rfl]
  by_cases hk:k=f
  ·rw [if_pos hk]
   by_cases h:g=k
   ·have hb:(g == k)=true:=beq_iff_eq.mpr h;simp only [List.lookup,hb,if_pos (h.trans hk)]
   ·have hb:(g == k)=false:=beq_eq_false_iff_ne.mpr h;simp only [List.lookup,hb,if_neg (fun e:g=f=>h (e.trans hk.symm))]
  ·rw [if_neg hk]
   by_cases h:g=k
   ·have hb:(g == k)=true:=beq_iff_eq.mpr h;simp only [List.lookup,hb,if_neg (fun e:g=f=>hk (h.symm.trans e))]
   ·have hb:(g == k)=false:=beq_eq_false_iff_ne.mpr h;simp only [List.lookup,hb];exact ih
theorem zd5 (f:Str) (v:V):∀ fs:List (Str×V),f∈(putF f v fs).map (·.1)∧∀ g,g∈fs.map (·.1)→g∈(putF f v fs).map (·.1)
 | []=>⟨by simp [putF],fun g h=>by simp at h⟩
 | (k,x)::r=>by
  obtain ⟨i1,i2⟩:=zd5 f v r;rw [show putF f v ((k,x)::r)=(if k=f then (k,v)::r else (k,x)::putF f v r) from rfl]
  by_cases hk:k=f
  ·rw [if_pos hk];subst hk;exact ⟨by simp,fun g h=>by simpa using h⟩
  ·rw [if_neg hk];refine ⟨?_,fun g h=>?_⟩
   ·rw [List.map_cons];exact List.mem_cons_of_mem _ i1
   ·rw [List.map_cons] at h ⊢;rcases List.mem_cons.mp h with e | e
    ·exact List.mem_cons.mpr (.inl e)
    ·exact List.mem_cons_of_mem _ (i2 g e)
theorem zd6 (f:Str) (v:V):∀ fs:List (Str×V),(putF f v fs).length≤fs.length+1
 | []=>by simp [putF]
 | (k,x)::r=>by
  have ih:=zd6 f v r;rw [show putF f v ((k,x)::r)=(if k=f then (k,v)::r else (k,x)::putF f v r) from rfl]
  by_cases hk:k=f
  ·rw [if_pos hk,List.length_cons,List.length_cons];omega
  ·rw [if_neg hk,List.length_cons,List.length_cons];omega
theorem RelO.some_of {v:V} {o:Option Value} (r:RelO (some v) o):∃ u,o=some u∧RelV v u:=by
 cases o with
 | none=>exact (show False from r).elim
 | some u=>exact ⟨u,rfl,r⟩
theorem RelO.none_of {o:Option Value} (r:RelO none o):o=none:=by
 cases o with
 | none=>rfl
 | some u=>exact (show False from r).elim
theorem zhZ {v:V} {u:Value} (r:RelV v u):PySem.W.handedIn u=true:=by
 cases v with
 | non=>cases (show u=Value.none from r);rfl
 | bl b=>cases (show u=Value.bool b from r);rfl
 | int i=>obtain ⟨t,e⟩:=(show ∃ t,u=Value.int i t from r);cases e;rfl
 | str x=>obtain ⟨t,e⟩:=(show ∃ t,u=Value.str x t from r);cases e;rfl
 | byt b=>obtain ⟨t,e⟩:=(show ∃ t,u=Value.bytes b t from r);cases e;rfl
 | flt b=>obtain ⟨t,e⟩:=(show ∃ t,u=Value.float b t from r);cases e;rfl
 | ref a=>cases (show u=Value.ref a from r);rfl
 | ty n=>cases (show u=Value.type n from r);rfl
section
variable {P:Program} {w:World} {H H':Hp} {h h':Heap} {a C dx:Addr} {fs fs':List (Str×V)}
theorem zeS (hok:HOk P w H h) (e:H a=some (.ins C dx fs)):∃ mA,ObjM h a dx C mA∧(∀ f,RelO (fs.lookup f) (mA f))∧PySem.Within mA (fs.map (·.1))∧fs.length≤1000∧H dx=some (.own a):=by
 obtain ⟨d,z,ne,ob,mA,n,r,q⟩:=(show zbI P w H h a (.ins C dx fs) from hok a _ e)
 exact ⟨mA,⟨ob,n,ne⟩,r,q,z,d⟩
end
structure Cls (K:PySem.W.Frag) (C:Addr):Prop where
 pg:PySem.W.plainGet K C Str.empty=true
 hd:PySem.W.hasDictIn K C=true
 po:PySem.W.plainOver K C=true
 sa:PySem.W.findIn K (.ref C) "__setattr__" = some (some (.builtin "object.__setattr__"))
theorem Cls.get {K:PySem.W.Frag} {C:Addr} (c:Cls K C) (f:Str):PySem.W.plainGet K C f=true:=c.pg
def zbx (K:PySem.W.Frag) (C:Addr) (f:Str):Prop:=PySem.W.findIn K (.ref C) f=some none
theorem zbx.taker {K:PySem.W.Frag} {C:Addr} {f:Str} (n:zbx K C f):PySem.W.takerIn K C f=some none:=by
 unfold PySem.W.takerIn;rw [show PySem.W.findIn K (.ref C) f=some none from n];rfl
structure Meth (K:PySem.W.Frag) (C:Addr) (m:Str) (f:Addr):Prop where
 at_:PySem.W.findIn K (.ref C) m=some (some (.ref f))
 fn:PySem.W.isFn K (.ref f)=true
 kp:PySem.W.keepIn K (.ref f)=true
section
variable {X:Cx} {pins:List (Addr×Obj)} {σ:St} {H:Hp} {s:Shared} {a C dx:Addr} {fs:List (Str×V)} {f:Str} {v:V} {A:Around} {E:Value→Shared→Prop}
theorem zha {b:Bool} {Q:Value→Shared→Prop} (I:Inv X pins σ H s) (e:H a=some (.ins C dx fs)) (c:Cls X.K C) (n:zbx X.K C f) (l:fs.lookup f=some v)
  (h:∀ u s',Inv X pins σ H s'→RelV v u→Q u s'):wpAny (model X.prog X.w) A (getAttr (.ref a) f b) Q E s:=by
 obtain ⟨mA,O,r,_,_,_⟩:=zeS I.hok e;obtain ⟨u,hu,ru⟩:=RelO.some_of (v:=v) (o:=mA f) (by rw [← l];exact r f);exact zkj I.kIn O (c.get f) c.hd n hu (zhZ ru) (h u _ (I.tok _) ru)
theorem zey {m:Str} {g:Addr} {pl:Sem Bool} {Q:Value×List Value→Shared→Prop} (I:Inv X pins σ H s) (e:H a=some (.ins C dx fs)) (c:Cls X.K C) (k:Meth X.K C m g) (l:fs.lookup m=none)
  (h:Q (.ref g,[.ref a]) s):wpAny (model X.prog X.w) A (getMethod (.ref a) m pl) Q E s:=by
 obtain ⟨mA,O,r,_,_,_⟩:=zeS I.hok e;have hn:mA m=none:=RelO.none_of (by rw [← l];exact r m);exact zja I.kIn O (c.get m) k.at_ k.fn hn h
theorem zhb {y:V} {u:Value} {Q:Unit→Shared→Prop} (I:Inv X pins σ H s) (e:H a=some (.ins C dx fs)) (c:Cls X.K C) (n:zbx X.K C f) (hl:fs.length < 1000) (ry:RelV y u)
  (h:∀ s',Inv X pins σ (upd H a (.ins C dx (putF f y fs))) s'→Q () s'):wpAny (model X.prog X.w) A (setAttr (.ref a) f u) Q E s:=by
 obtain ⟨mA,O,r,wi,_,ho⟩:=zeS I.hok e;have hz:(fs.map (·.1)).length≤sizeLine:=by rw [List.length_map,sizeLine_eq];omega
 refine zkk I.kIn O c.sa c.po n.taker c.hd wi hz fun h' O' sb=>h _ ?_;have hd:∃ o,h'.get? dx=some o:=let ⟨o,_,_,e',_⟩:=O'.ns;⟨o,e'⟩;refine I.write (x:=a) (e:=dx) (by rw [e];exact True.intro) (.inr ho) (fun b q hb z=>(sb.2 b hb).trans z) hd ?_;refine ⟨by rw [zaJ O.ne];exact ho,?_,O.ne,O'.obj,_,O'.ns,fun g=>?_,fun g hg=>?_⟩
 ·have:=zd6 f y fs;omega
 ·show RelO ((putF f y fs).lookup g) (if g=f then some u else mA g);rw [zaz]
  by_cases q:g=f
  ·rw [if_pos q,if_pos q];exact ry
  ·rw [if_neg q,if_neg q];exact r g
 ·by_cases q:g=f
  ·rw [q];exact (zd5 f y fs).1
  ·refine (zd5 f y fs).2 g (wi g fun z=>hg ?_);show (if g=f then some u else mA g)=none;rw [if_neg q];exact z
theorem Inv.made (I:Inv X pins σ H s):Inv X pins σ (upd (upd H s.heap.objs.size (.own (s.heap.objs.size+1))) (s.heap.objs.size+1) (.ins C s.heap.objs.size []))
  { s with heap:=(s.heap.push PySem.W.emptyDict).push (PySem.W.instObj C s.heap.objs.size) }:=by
 have e1:(s.heap.push PySem.W.emptyDict).get? s.heap.objs.size=some PySem.W.emptyDict:=Heap.get?_push_size s.heap rfl;have e2:((s.heap.push PySem.W.emptyDict).push (PySem.W.instObj C s.heap.objs.size)).get? (s.heap.objs.size+1)=some (PySem.W.instObj C s.heap.objs.size):=by
  have:=Heap.get?_push_size (s.heap.push PySem.W.emptyDict) (o:=PySem.W.instObj C s.heap.objs.size) rfl
  rwa [Heap.size_push] at this
 have e3:(s.heap.push PySem.W.emptyDict).Ns s.heap.objs.size (fun _=>none):=⟨PySem.W.emptyDict,#[],_,e1,rfl,(fun e he=>absurd he (by simp)),fun _=>rfl⟩
 have I1:=I.laid (a:=s.heap.objs.size) (o:=.own (s.heap.objs.size+1)) (h':=s.heap.push PySem.W.emptyDict) (t':=s.toks) (fun b u q=>Heap.get?_push_of_some _ q) (Nat.le_refl _) ⟨_,e1⟩;refine I1.laid (a:=s.heap.objs.size+1) (o:=.ins C s.heap.objs.size []) (t':=s.toks) (fun b u q=>Heap.get?_push_of_some _ q) (Nat.le_of_eq (Heap.size_push _ _)) ?_;have ne:s.heap.objs.size≠s.heap.objs.size+1:=Nat.ne_of_lt (Nat.lt_succ_self _);refine ⟨by rw [zaJ ne,zas],Nat.zero_le _,ne,e2,fun _=>none,(Heap.Ns1.of_empty e3).at fun o q=>Heap.get?_push_of_some _ q,fun _=>True.intro,fun y hy=>absurd rfl hy⟩
theorem zkl {prog:Program} {w:World} {env:Env} {e:Expr} {f:Str} {pos:Pos} {s:Shared} {Q:Value→Shared→Prop} (hb:attributeBase e f env (eval e env)=eval e env)
  (h:wpAny (model prog w) A (eval e env) (fun o s₁=>wpAny (model prog w) A (getAttr o f true) Q E s₁) E s):wpAny (model prog w) A (eval (.Attribute e f pos) env) Q E s :=
 Attribute_any_ h (by rw [arm_eval_Attribute,hb])
end
def tFld (K:PySem.W.Frag) (ta:TE) (f:Str):TE:=fun σ H Q=>ta σ H fun x H1=>∃ a C dx fs v,x=.ref a∧H1 a=some (.ins C dx fs)∧Cls K C∧zbx K C f∧fs.lookup f=some v∧Q v H1
def sFld (K:PySem.W.Frag) (ta tv:TE) (f:Str):TS:=fun D σ H=>tv σ H fun y H1=>ta σ H1 fun x H2=>∃ a C dx fs,x=.ref a∧H2 a=some (.ins C dx fs)∧Cls K C∧zbx K C f∧fs.length < 1000 ∧
 D.nx σ (upd H2 a (.ins C dx (putF f y fs)))
section
variable {X:Cx} {o e value:Expr} {f:Str} {pos pos' tpos:Pos} {ta tv:TE}
theorem zlc (he:PE X e ta) (hb:attributeBase e f X.env (eval e X.env)=eval e X.env):PE X (.Attribute e f pos) (tFld X.K ta f):=by
 intro pins s σ H Q I h;refine zkl hb (thn (he pins s σ H _ I h) fun u s1 ⟨x,H1,I1,rx,a,C,dx,fs,v,ex,ea,c,n,l,q⟩=>?_);subst ex;obtain rfl:u=Value.ref a:=rx;exact zha I1 ea c n l fun u' s2 I2 ru=>⟨v,H1,I2,ru,q⟩
theorem zld (ha:PE X o ta) (hv:PE X value tv) (hs:swapsWith value (some (.Attribute o f pos')) pos.line X.env=pure false):PS X (.Assign [.Attribute o f pos'] value pos) (sFld X.K ta tv f):=by
 intro pins s σ H D I h;refine plainObj_wpAny_Assign_Attribute (thn (hv pins s σ H _ I h) fun u s1 ⟨y,H1,I1,ry,q⟩=>thn (ha pins s1 σ H1 _ I1 q) fun ov s2 ⟨x,H2,I2,rx,a,C,dx,fs,ex,ea,c,n,l,q2⟩=>?_) hs;subst ex;obtain rfl:ov=Value.ref a:=rx;exact zhb I2 ea c n l ry fun s3 I3=>⟨σ,_,I3,q2⟩
end
section
variable {X:Cx} {pins:List (Addr×Obj)} {σ:St} {H:Hp} {s:Shared} {A:Around} {E:Value→Shared→Prop} {Q:Value→Shared→Prop} {c:Value} {b:Bool}
inductive TyOf (K:PySem.W.Frag) (H:Hp):V→Value→Prop where
 | non:TyOf K H .non (.type "NoneType")
 | bl (x:Bool):TyOf K H (.bl x) (.type "bool")
 | int (i:Int):TyOf K H (.int i) (.type "int")
 | str (x:Str):TyOf K H (.str x) (.type "str")
 | flt (x:UInt64):TyOf K H (.flt x) (.type "float")
 | lst {a:Addr} {xs:List V} (e:H a=some (.lst xs)):TyOf K H (.ref a) (.type "list")
 | frz {a:Addr} {o:Obj} {xs:List V} (e:H a=some (.frz o (.lst xs))):TyOf K H (.ref a) (.type "list")
 | tup {a:Addr} {xs:List V} (e:H a=some (.tup xs)):TyOf K H (.ref a) (.type "tuple")
 | dK {a:Addr} {kvs:List (Key×V)} (e:H a=some (.dK kvs)):TyOf K H (.ref a) (.type "dict")
 | dT {a:Addr} {kvs:List (List Key×V)} (e:H a=some (.dT kvs)):TyOf K H (.ref a) (.type "dict")
 | ins {a C dx:Addr} {fs:List (Str×V)} (e:H a=some (.ins C dx fs)) (cl:Cls K C) (ha:PySem.W.findIn K (.ref C) "__class__" = some (some (.builtin "object.__class__")))
    (hn:PySem.W.specialIn K (.builtin "object.__class__") "__get__" = some (some (.builtin "getset_descriptor.__get__"))) (htk:PySem.W.takesIn K (.builtin "object.__class__")=some true)
    (hm:PySem.W.mroIn K C (.type "object")=some true):TyOf K H (.ref a) (.ref C)
theorem zh0 {x:V} {u t:Value} (I:Inv X pins σ H s) (rx:RelV x u) (ty:TyOf X.K H x t) (e:PySem.W.kitOne X.K t c=some b) (h:∀ tk,Q (.bool b) { s with toks:=tk }) :
  wpAny (model X.prog X.w) A (call (.builtin "isinstance") [u,c]) Q E s:=by
 cases ty with
 | non=>cases (show u=Value.none from rx);exact PySem.W.kia_one PySem.W.kitx_none I.kIn True.intro e (fun z=>nomatch z) h
 | bl y=>cases (show u=Value.bool y from rx);exact PySem.W.kia_one PySem.W.kitx_bool I.kIn True.intro e (fun z=>nomatch z) h
 | int i=>obtain ⟨t,q⟩:=(show ∃ t,u=Value.int i t from rx);cases q;exact PySem.W.kia_one PySem.W.kitx_int I.kIn True.intro e (fun z=>nomatch z) h
 | str y=>obtain ⟨t,q⟩:=(show ∃ t,u=Value.str y t from rx);cases q;exact PySem.W.kia_one PySem.W.kitx_str I.kIn True.intro e (fun z=>nomatch z) h
 | flt y=>obtain ⟨t,q⟩:=(show ∃ t,u=Value.float y t from rx);cases q;exact PySem.W.kia_one PySem.W.kitx_float I.kIn True.intro e (fun z=>nomatch z) h
 | @lst a xs ea =>
   cases (show u=Value.ref a from rx)
   obtain ⟨_,_,n,_,h1⟩:=(show zbI X.prog X.w H s.heap a (.lst xs) from I.hok a _ ea)
   exact PySem.W.kia_one PySem.W.kitx_list I.kIn ⟨_,h1,rfl⟩ e (fun z=>nomatch z) h
 | @frz a ob xs ea =>
   cases (show u=Value.ref a from rx)
   obtain ⟨_,_,_,n,_,h1⟩:=(show zbI X.prog X.w H s.heap a (.frz ob (.lst xs)) from I.hok a _ ea)
   exact PySem.W.kia_one PySem.W.kitx_list I.kIn ⟨_,h1,rfl⟩ e (fun z=>nomatch z) h
 | @tup a xs ea =>
   cases (show u=Value.ref a from rx)
   obtain ⟨_,_,_,p⟩:=(show zbI X.prog X.w H s.heap a (.tup xs) from I.hok a _ ea)
   obtain ⟨o,h1,h2,_⟩:=p;exact PySem.W.kia_one PySem.W.kitx_tuple I.kIn ⟨o,h1,h2⟩ e (fun z=>nomatch z) h
 | @dK a kvs ea =>
   cases (show u=Value.ref a from rx)
   obtain ⟨_,_,vs,_,p⟩:=(show zbI X.prog X.w H s.heap a (.dK kvs) from I.hok a _ ea)
   obtain ⟨o,es,ep,h1,h2,_⟩:=p;exact PySem.W.kia_one PySem.W.kitx_dict I.kIn ⟨o,h1,h2.1⟩ e (fun z=>nomatch z) h
 | @dT a kvs ea =>
   cases (show u=Value.ref a from rx)
   obtain ⟨_,_,xs,_,o,es,ep,h1,h2,_⟩:=(show zbI X.prog X.w H s.heap a (.dT kvs) from I.hok a _ ea)
   exact PySem.W.kia_one PySem.W.kitx_dict I.kIn ⟨o,h1,h2.1⟩ e (fun z=>nomatch z) h
 | @ins a C dx fs ea cl ha hn htk hm =>
   cases (show u=Value.ref a from rx)
   obtain ⟨mA,O,_⟩:=zeS I.hok ea;obtain ⟨od,J,_⟩:=O.look;exact PySem.W.kia_one (PySem.W.kitx_own (cl.get _) cl.hd ha hn htk hm) I.kIn J e (fun z=>nomatch z) h
end
end L2
namespace L2
open PySem PySem.Spec PyProof.Rows
structure Room (k:Nat) (A:Around):Prop where
 hd:A.handled=none
 dp:A.depth+3 * k+5 < recursionLimit
 un:A.units+16 * k+200 < cLine
theorem Room.mono {j k:Nat} {A:Around} (r:Room k A) (h:j≤k):Room j A:=⟨r.hd,by have:=r.dp;omega,by have:=r.un;omega⟩
theorem Room.deeper {k:Nat} {A:Around} (r:Room (k+1) A) (env:Env):Room k (A.deeper env) :=
 ⟨r.hd,by have:=r.dp;show A.depth+1+3 * k+5 < _;omega,by have:=r.un;show A.units+3+16 * k+200 < _;omega⟩
theorem zhc {A:Around} {C:Addr} {us:List Value} {kw:List (Str×Value)}:(A.under (.builtin "type.__call__" ⟨.ref C::us,kw⟩)).depth=A.depth+1:=by
 first | rfl | simp [Around.under,Code.weight,Code.isCreation,Code.isGuard,Code.isCaller,Code.frames,Code.isFrame,guardIds]
theorem zhd {A:Around} {C:Addr} {us:List Value} {kw:List (Str×Value)}:(A.under (.builtin "type.__call__" ⟨.ref C::us,kw⟩)).units=A.units+1:=by
 first | rfl | simp [Around.under,Code.cUnits,Code.frames,Code.isFrame]
theorem Room.make {k:Nat} {A:Around} (r:Room (k+1) A) (C:Addr) (us:List Value) (kw:List (Str×Value)):Room k (A.under (.builtin "type.__call__" ⟨.ref C::us,kw⟩)) :=
 ⟨r.hd,by have:=r.dp;rw [zhc];omega,by have:=r.un;rw [zhd];omega⟩
theorem Room.depth {k:Nat} {A:Around} (r:Room k A):A.depth < recursionLimit:=by have:=r.dp;omega
theorem Room.units {k:Nat} {A:Around} (r:Room k A):A.units+64 < cLine:=by have:=r.un;omega
theorem Room.units0 {k:Nat} {A:Around} (r:Room k A):A.units < cLine:=by have:=r.un;omega
def tNil:TA:=fun _ H Q=>Q [] H
def zf0 (ta:TE) (tr:TA):TA:=fun σ H Q=>ta σ H fun x H1=>tr σ H1 fun xs H2=>Q (x::xs) H2
section
variable {X:Cx} {e:Expr} {es:List Expr} {te:TE} {t:TA} {pos:Pos}
theorem pa_nil:PA X [] tNil:=fun _ _ _ _ H Q I h=>Calls.spliced_nil ⟨[],H,I,.nil,h⟩
theorem zaa (ha:PE X e te) (hr:PA X es t) (hs:starEach (e::es) X.env=(false,eval e X.env)::starEach es X.env:=by rfl):PA X (e::es) (zf0 te t):=by
 intro pos pins s σ H Q I h;rw [hs];show wpAny _ _ (spliced ((false,eval e X.env)::backTo pos (starEach es X.env))) _ _ s;refine Calls.spliced_cons (thn (ha pins s σ H _ I h) fun u s1 ⟨x,H1,I1,r1,q1⟩=>?_);exact thn (hr pos pins s1 σ H1 _ I1 q1) fun us s2 ⟨xs,H2,I2,r2,q2⟩=>⟨x::xs,H2,I2,.cons r1 r2,q2⟩
def tLst (t:TA):TE:=fun σ H Q=>t σ H fun xs H1=>xs.length≤sizeLine∧∀ p,H1 p=none→Q (.ref p) (upd H1 p (.lst xs))
theorem zaV (h:PA X es t):PE X (.List es pos) (tLst t):=by
 intro pins s σ H Q I hq;refine wpAny_List_spliced (thn (h pos pins s σ H _ I hq) fun us s1 ⟨xs,H1,I1,r,z,q⟩=>⟨by rw [← r.length];exact z,?_⟩);have hf:H1 s1.heap.objs.size=none:=I1.hok.fresh (Nat.le_refl _);refine ⟨.ref s1.heap.objs.size,upd H1 s1.heap.objs.size (.lst xs),I1.laid (t':=s1.toks) (fun b u e=>Heap.get?_push_of_some _ e) (Nat.le_refl _) ?_,rfl,q _ hf⟩;exact ⟨z,us,0,r,Heap.get?_push_size _ rfl⟩
end
abbrev Sp:=List V→Hp→VK→XK→Prop
abbrev CXT:=List Env→Hp→Shared→XK→Value→Shared→Prop
structure Env0 (P:Program) (w:World) (K:PySem.W.Frag) (mg:Str→Option Value) (base:Heap) (A:Around) (outer:List Env) (s:Shared) (H:Hp):Prop where
 frames:A.frames=some outer
 mod:Mod K mg base
 bs:∀ b o,base.get? b=some o→s.heap.get? b=some o∧H b=none
 bsz:base.objs.size≤s.heap.objs.size
 funs:s.heap.FunFrames base outer
 frf:∀ b∈frs outer,H b=none
 hok:HOk P w H s.heap
 bare:AllBare s.gens
def CE (outer:List Env) (P:Program) (w:World) (H:Hp) (s:Shared) (Q:VK) (u:Value) (s':Shared):Prop :=
 ∃ v H',s'.os=s.os∧AllBare s'.gens∧Un (frs outer) [] H H' s.heap s'.heap∧HOk P w H' s'.heap∧RelV v u∧Q v H'
def CR (CX:CXT) (outer:List Env) (P:Program) (w:World) (H:Hp) (s:Shared) (Q:VK) (E:XK) (r:Result) (s':Shared):Prop :=
 match r with
 | .ok (.ret u)=>CE outer P w H s Q u s'
 | .ok _=>False
 | .error e=>CX outer H s E e s'
structure FnOk (P:Program) (w:World) (K:PySem.W.Frag) (mg:Str→Option Value) (base:Heap) (CX:CXT) (k:Nat) (f:Addr) (fd:FuncData) (ps:List Str) (sp:Sp):Prop where
 len:∀ vs H Q E,sp vs H Q E→vs.length=ps.length
 run:∀ (A:Around) (outer:List Env) (s:Shared) (H:Hp) (args:Args) (us:List Value) (vs:List V) (Q:VK) (E:XK),Room k A→Env0 P w K mg base A outer s H→BindsTo s fd args (ps.zip us)→Vals vs us→sp vs H Q E →
  codeAny (model P w) A (.call (.ref f) args) (CR CX outer P w H s Q E) s
theorem Env0.make {P:Program} {w:World} {K:PySem.W.Frag} {mg:Str→Option Value} {base:Heap} {A:Around} {outer:List Env} {s:Shared} {H:Hp} (e:Env0 P w K mg base A outer s H) (C:Addr) (us:List Value) (kw:List (Str×Value)) :
  Env0 P w K mg base (A.under (.builtin "type.__call__" ⟨.ref C::us,kw⟩)) outer s H:=⟨by first | exact e.frames | (simpa [Around.under,Code.envs,Code.isFrame,pushEnvs] using e.frames),e.mod,e.bs,e.bsz,e.funs,e.frf,e.hok,e.bare⟩
section
variable {X:Cx} {pins:List (Addr×Obj)} {σ:St} {H:Hp} {s s':Shared}
theorem Inv.env0 (I:Inv X pins σ H s):Env0 X.prog X.w X.K X.mg X.base X.A X.stack s H :=
 ⟨I.ok.frames,I.ok.mod,I.bs,Nat.le_trans I.ok.bsz I.sz,I.stack,I.stkFree,I.hok,I.bare⟩
theorem Inv.after {Q:VK} {u:Value} (I:Inv X pins σ H s) (h:CE X.stack X.prog X.w H s Q u s'):EP X pins σ Q u s':=by
 obtain ⟨v,H',os,bare,un,hok,r,q⟩:=h;obtain ⟨hh,g,d,t,os'⟩:=s';obtain rfl:os'=s.os:=os;exact ⟨v,H',I.call (h':=hh) (g':=g) (d':=d) (t':=t) (ch:=[]) un hok bare (fun b z=>absurd z (by simp)),r,q⟩
end
def zkm (sp:Sp) (dvs:List V) (E:XK) (t:TA):TE:=fun σ H Q=>t σ H fun vs H1=>sp (vs++dvs) H1 Q E
def zkn (C:Addr) (m:Str) (sp:Sp) (dvs:List V) (E:XK) (ta:TE) (t:TA):TE:=fun σ H Q=>ta σ H fun x H1=>∃ a dx fs,x=.ref a∧H1 a=some (.ins C dx fs)∧fs.lookup m=none ∧
 t σ H1 fun vs H2=>sp (x::(vs++dvs)) H2 Q E
def zko (C:Addr) (sp:Sp) (dvs:List V) (E:XK) (t:TA):TE:=fun σ H Q=>t σ H fun vs H1=>∀ x dx,H1 x=none→H1 dx=none→dx≠x →
 sp (.ref x::(vs++dvs)) (upd (upd H1 dx (.own x)) x (.ins C dx [])) (fun v H2=>v=.non∧Q (.ref x) H2) E
def Binds (K:PySem.W.Frag) (fd:FuncData) (ps:List Str) (ds:List Value):Prop :=
 ∀ (s:Shared) (us:List Value),K.In s.heap→(us++ds).length=ps.length→BindsTo s fd ⟨us,[]⟩ (ps.zip (us++ds))
theorem Binds.all {K:PySem.W.Frag} {fd:FuncData} {ps:List Str} (h:∀ us:List Value,us.length=ps.length→bindArgs fd ⟨us,[]⟩=pure (ps.zip us)):Binds K fd ps []:=fun s us _ hl=>by
 rw [List.append_nil] at hl ⊢;exact .of_eq (h us hl)
def zdL (CX:CXT) (X:Cx) (E:XK):Prop:=∀ (pins:List (Addr×Obj)) (σ:St) (H:Hp) (s:Shared) (e:Value) (s':Shared),Inv X pins σ H s→CX X.stack H s E e s'→X.xe e s'
section
variable {X:Cx} {CX:CXT} {k:Nat} {f C:Addr} {fd:FuncData} {ps:List Str} {sp:Sp} {dvs:List V} {ds:List Value} {E:XK} {x m:Str} {p pos apos:Pos} {e o:Expr} {es:List Expr} {ta:TE} {t:TA}
theorem zh1 {pins:List (Addr×Obj)} {σ:St} {H:Hp} {s:Shared} {Q:VK} {us:List Value} {vs:List V} (F:FnOk X.prog X.w X.K X.mg X.base CX k f fd ps sp) (hr:Room k X.A) (hb:Binds X.K fd ps ds) (hd:Vals dvs ds) (hx:zdL CX X E)
  (I:Inv X pins σ H s) (r:Vals vs us) (h:sp (vs++dvs) H Q E):wpAny (model X.prog X.w) X.A (call (.ref f) us) (EP X pins σ Q) X.xe s:=by
 have r2:Vals (vs++dvs) (us++ds):=r.append hd;have hl:(us++ds).length=ps.length:=by rw [← r2.length];exact F.len _ _ _ _ h
 refine wpAny_call (codeAny_mono (F.run X.A X.stack s H ⟨us,[]⟩ (us++ds) (vs++dvs) Q E hr I.env0 (hb s us I.kIn hl) r2 h) fun r s' hq=>?_)
 cases r with
 | error e=>exact hx pins σ H s e s' I hq
 | ok fl =>
   cases fl with
   | ret u=>exact I.after hq
   | next=>exact False.elim hq
   | brk=>exact False.elim hq
   | cont=>exact False.elim hq
theorem zan (F:FnOk X.prog X.w X.K X.mg X.base CX k f fd ps sp) (hr:Room k X.A) (hg:Gl X x) (hm:X.mg x=some (.ref f)) (hk:PySem.W.keepIn X.K (.ref f)=true) (hb:Binds X.K fd ps ds) (hd:Vals dvs ds) (hx:zdL CX X E)
  (ha:PA X (e::es) t) (hdb:(x == ("__debug__" : Str))=false:=by decide) (he:starEach (e::es) X.env=(false,eval e X.env)::starEach es X.env:=by rfl) (hpl:(backTo pos (starEach es X.env)).any (·.1)=false:=by rfl) :
  PE X (.Call (.Name x p) (e::es) [] pos) (zkm sp dvs E t):=by
 intro pins s σ H Q I h;refine wpAny_Call_Name_kw (zeQ I hg hm ?_ hdb);refine PySem.W.callWith_K (h₀:=X.base) I.ok.mod.kin hk (thn (ha pos pins s σ H _ I h) fun us s1 ⟨vs,H1,I1,r,q⟩=>⟨I1.kIn,?_⟩) he hpl;exact zh1 F hr hb hd hx I1 r q
theorem zbq {pl:Sem Bool} (he:PE X o ta) (c:Cls X.K C) (hm:Meth X.K C m f) (F:FnOk X.prog X.w X.K X.mg X.base CX k f fd ps sp) (hr:Room k X.A) (hb:Binds X.K fd ps ds) (hd:Vals dvs ds) (hx:zdL CX X E) (ha:PA X (e::es) t)
  (hst:starEach (e::es) X.env=(false,eval e X.env)::starEach es X.env:=by rfl) (hpl:(backTo pos (starEach es X.env)).any (·.1)=false:=by rfl)
  (ht:eval (.Call (.Attribute o m apos) (e::es) [] pos) X.env=(do
   let ov ← eval o X.env
   standAt apos.atName
   let (f,first) ← holding [ov] (getMethod ov m pl)
   callWith pos f first (backTo pos (starEach (e::es) X.env)) (backToKw pos (keywordEach [] X.env))):=by rfl) :
  PE X (.Call (.Attribute o m apos) (e::es) [] pos) (zkn C m sp dvs E ta t):=by
 intro pins s σ H Q I h;refine PySem.W.methodCall_KW (pl:=pl) (thn (he pins s σ H _ I h) fun u s1 ⟨x,H1,I1,rx,a,dx,fs,ex,ea,l,q⟩=>?_) ht;subst ex;obtain rfl:u=Value.ref a:=rx;refine zey I1 ea c hm l ?_;refine PySem.W.callWith_K (first:=[.ref a]) (h₀:=X.base) I.ok.mod.kin hm.kp (thn (ha pos pins s1 σ H1 _ I1 q) fun us s2 ⟨vs,H2,I2,r,q2⟩=>⟨I2.kIn,?_⟩) hst hpl;exact zh1 (us:=.ref a::us) (vs:=.ref a::vs) F hr hb hd hx I2 (.cons rfl r) q2
theorem zbm {pl:Sem Bool} (he:PE X o ta) (c:Cls X.K C) (hm:Meth X.K C m f) (F:FnOk X.prog X.w X.K X.mg X.base CX k f fd ps sp) (hr:Room k X.A) (hb:Binds X.K fd ps ds) (hd:Vals dvs ds) (hx:zdL CX X E)
  (ht:eval (.Call (.Attribute o m apos) [] [] pos) X.env=(do
   let ov ← eval o X.env
   standAt apos.atName
   let (f,first) ← holding [ov] (getMethod ov m pl)
   callWith pos f first (backTo pos (starEach [] X.env)) (backToKw pos (keywordEach [] X.env))):=by rfl) :
  PE X (.Call (.Attribute o m apos) [] [] pos) (zkn C m sp dvs E ta tNil):=by
 intro pins s σ H Q I h;refine PySem.W.methodCall_KW (pl:=pl) (thn (he pins s σ H _ I h) fun u s1 ⟨x,H1,I1,rx,a,dx,fs,ex,ea,l,q⟩=>?_) ht;subst ex;obtain rfl:u=Value.ref a:=rx;refine zey I1 ea c hm l ?_;exact PySem.W.callWith_K0 (first:=[.ref a]) I1.kIn hm.kp (zh1 (us:=[.ref a]) (vs:=[.ref a]) F hr hb hd hx I1 (.cons rfl .nil) q)
structure Mk (K:PySem.W.Frag) (C f:Addr):Prop where
 makes:PySem.W.makesIn K C=true
 init:PySem.W.findIn K (.ref C) "__init__" = some (some (.ref f))
 fn:PySem.W.isFn K (.ref f)=true
 kp:PySem.W.keepIn K (.ref C)=true
theorem zgG {pins:List (Addr×Obj)} {σ:St} {H:Hp} {s:Shared} {Q:VK} {us:List Value} {vs:List V} (M:Mk X.K C f) (F:FnOk X.prog X.w X.K X.mg X.base CX k f fd ps sp) (hr:Room (k+1) X.A) (hb:Binds X.K fd ps ds) (hd:Vals dvs ds)
  (hx:zdL CX X E) (I:Inv X pins σ H s) (r:Vals vs us)
  (h:∀ x dx,H x=none→H dx=none→dx≠x→sp (.ref x::(vs++dvs)) (upd (upd H dx (.own x)) x (.ins C dx [])) (fun v H2=>v=.non∧Q (.ref x) H2) E) :
  wpAny (model X.prog X.w) X.A (call (.ref C) us) (EP X pins σ Q) X.xe s:=by
 have hq:=h (s.heap.objs.size+1) s.heap.objs.size (I.hok.fresh (Nat.le_succ _)) (I.hok.fresh (Nat.le_refl _)) (Nat.ne_of_lt (Nat.lt_succ_self _));have I2:=Inv.made (C:=C) I;have r2:Vals (V.ref (s.heap.objs.size+1)::(vs++dvs)) (Value.ref (s.heap.objs.size+1)::(us++ds)):=.cons rfl (r.append hd);have hl:(Value.ref (s.heap.objs.size+1)::us++ds).length=ps.length:=by
  have e:=r2.length;rw [F.len _ _ _ _ hq] at e;exact e.symm
 refine wpAny_call (zjb (f:=f) I.kIn M.makes M.init (beq_iff_eq.mp M.fn) (codeAny_mono (F.run _ X.stack _ _ ⟨Value.ref (s.heap.objs.size+1)::us,[]⟩ (Value.ref (s.heap.objs.size+1)::(us++ds)) _ _ E (hr.make C us [])
  (I2.env0.make C us []) (hb _ (Value.ref (s.heap.objs.size+1)::us) I2.kIn hl) r2 hq) fun r s' hq'=>?_))
 cases r with
 | error e=>exact hx pins σ _ _ e s' I2 hq'
 | ok fl =>
   cases fl with
   | ret u =>
     obtain ⟨v,H',I3,rv,ev,q3⟩:=I2.after hq';subst ev;exact ⟨rv,⟨V.ref (s.heap.objs.size+1),H',I3,rfl,q3⟩⟩
   | next=>exact False.elim hq'
   | brk=>exact False.elim hq'
   | cont=>exact False.elim hq'
theorem zkp (M:Mk X.K C f) (F:FnOk X.prog X.w X.K X.mg X.base CX k f fd ps sp) (hr:Room (k+1) X.A) (hg:Gl X x) (hm:X.mg x=some (.ref C)) (hb:Binds X.K fd ps ds) (hd:Vals dvs ds) (hx:zdL CX X E)
  (ha:PA X (e::es) t) (hdb:(x == ("__debug__" : Str))=false:=by decide) (he:starEach (e::es) X.env=(false,eval e X.env)::starEach es X.env:=by rfl) (hpl:(backTo pos (starEach es X.env)).any (·.1)=false:=by rfl) :
  PE X (.Call (.Name x p) (e::es) [] pos) (zko C sp dvs E t):=by
 intro pins s σ H Q I h;refine wpAny_Call_Name_kw (zeQ I hg hm ?_ hdb);refine PySem.W.callWith_K (h₀:=X.base) I.ok.mod.kin M.kp (thn (ha pos pins s σ H _ I h) fun us s1 ⟨vs,H1,I1,r,q⟩=>⟨I1.kIn,?_⟩) he hpl;exact zgG M F hr hb hd hx I1 r q
theorem zjc (M:Mk X.K C f) (F:FnOk X.prog X.w X.K X.mg X.base CX k f fd ps sp) (hr:Room (k+1) X.A) (hg:Gl X x) (hm:X.mg x=some (.ref C)) (hb:Binds X.K fd ps ds) (hd:Vals dvs ds) (hx:zdL CX X E)
  (hdb:(x == ("__debug__" : Str))=false:=by decide):PE X (.Call (.Name x p) [] [] pos) (zko C sp dvs E tNil):=by
 intro pins s σ H Q I h;refine wpAny_Call_Name_kw (zeQ I hg hm ?_ hdb);exact PySem.W.callWith_K0 I.kIn M.kp (zgG (us:=[]) M F hr hb hd hx I .nil h)
end
def PK (X:Cx) (kws:List Keyword) (t:TA):Prop :=
 ∀ (pos:Pos) (pins:List (Addr×Obj)) (s:Shared) (σ:St) (H:Hp) (Q:List V→Hp→Prop),Inv X pins σ H s→t σ H Q→wpAny (model X.prog X.w) X.A (evalAll ((backToKw pos (keywordEach kws X.env)).map (·.2))) (AP X pins σ Q) X.xe s
section
variable {X:Cx} {CX:CXT} {k:Nat} {f C:Addr} {fd:FuncData} {ps ks:List Str} {sp:Sp} {E:XK} {x m:Str} {p pos apos kpos:Pos} {e o:Expr} {es:List Expr} {kws:List Keyword} {te ta:TE} {t tk:TA} {nm:Option Str}
theorem pk_nil:PK X [] tNil:=fun _ _ _ _ H Q I h=>wpAny_evalAll_nil ⟨[],H,I,.nil,h⟩
theorem zkq (ha:PE X e te) (hr:PK X kws t):PK X (⟨nm,e,kpos⟩::kws) (zf0 te t):=by
 intro pos pins s σ H Q I h;show wpAny _ _ (evalAll ((do let v ← eval e X.env;standAt pos;pure v)::(backToKw pos (keywordEach kws X.env)).map (·.2))) _ _ s;refine wpAny_evalAll_cons (wpAny_bind (thn (ha pins s σ H _ I h) fun u s1 ⟨x,H1,I1,r1,q1⟩=>wpAny_bind (wpAny_standAt (wpAny_pure ?_))));exact thn (hr pos pins s1 σ H1 _ I1 q1) fun us s2 ⟨xs,H2,I2,r2,q2⟩=>⟨x::xs,H2,I2,.cons r1 r2,q2⟩
variable {g:List Value→List Value→List Value} {gV:List V→List V→List V}
end
structure zao (N P:List Str) (sc:Scope):Prop where
 kind:sc.kind=.function
 co:sc.isCoroutine=false
 gen:sc.isGenerator=false
 nd:N.Nodup
 pre:N.take P.length=P
 par:∀ x∈P,sc.names.lookup x=some .local∨sc.names.lookup x=some .cell
 nofree:∀ y∈sc.names,y.2≠.free
theorem zff {kindOf:Str→Option NameKind} {x:Str}:∀ {binds:List (Str×Value)} {m:Str→Option Value},(∀ v,(x,v)∉binds)→bindL kindOf binds m x=m x
 | [],_,_=>rfl
 | (n,v)::r,m,h=>by
  unfold bindL;rw [zff fun w hw=>h w (List.mem_cons_of_mem _ hw)];split
  ·have:x≠n:=by rintro rfl;exact h v List.mem_cons_self
   simp [this]
  ·rfl
theorem zfg {kindOf:Str→Option NameKind} {x:Str}:∀ {binds:List (Str×Value)} {m:Str→Option Value},(∀ v,(x,v)∉binds)→bindC kindOf binds m x=m x
 | [],_,_=>rfl
 | (n,v)::r,m,h=>by
  unfold bindC;rw [zfg fun w hw=>h w (List.mem_cons_of_mem _ hw)];split
  ·rfl
  ·have:x≠n:=by rintro rfl;exact h v List.mem_cons_self
   simp [this]
theorem zfh {kindOf:Str→Option NameKind} {x:Str} {v:Value}:∀ {P:List Str} {vs:List Value} {i:Nat} {m:Str→Option Value},P.Nodup→P[i]? = some x→vs[i]? = some v→kindOf x=some .local →
  bindL kindOf (P.zip vs) m x=some v
 | [],_,_,_,_,h,_,_=>by simp at h
 | _::_,[],_,_,_,_,h,_=>by simp at h
 | p::P,w::vs,0,m,nd,h1,h2,hk=>by
   simp at h1 h2;subst h1;subst h2;show bindL kindOf ((p,w)::P.zip vs) m p=_;unfold bindL;rw [zff fun v hv=>(List.nodup_cons.mp nd).1 (List.of_mem_zip hv).1,if_pos hk];simp
 | p::P,w::vs,i+1,m,nd,h1,h2,hk=>by
   show bindL kindOf ((p,w)::P.zip vs) m x=_;unfold bindL;exact zfh (i:=i) (List.nodup_cons.mp nd).2 (by simpa using h1) (by simpa using h2) hk
theorem zfi {kindOf:Str→Option NameKind} {x:Str} {v:Value}:∀ {P:List Str} {vs:List Value} {i:Nat} {m:Str→Option Value},P.Nodup→P[i]? = some x→vs[i]? = some v→kindOf x≠some .local →
  bindC kindOf (P.zip vs) m x=some v
 | [],_,_,_,_,h,_,_=>by simp at h
 | _::_,[],_,_,_,_,h,_=>by simp at h
 | p::P,w::vs,0,m,nd,h1,h2,hk=>by
   simp at h1 h2;subst h1;subst h2;show bindC kindOf ((p,w)::P.zip vs) m p=_;unfold bindC;rw [zfg fun v hv=>(List.nodup_cons.mp nd).1 (List.of_mem_zip hv).1,if_neg hk];simp
 | p::P,w::vs,i+1,m,nd,h1,h2,hk=>by
   show bindC kindOf ((p,w)::P.zip vs) m x=_;unfold bindC;exact zfi (i:=i) (List.nodup_cons.mp nd).2 (by simpa using h1) (by simpa using h2) hk
def start (N:List Str) (vs:List V):St:=vs.map some++List.replicate (N.length-vs.length) none
def cxOf (CX:CXT) (P:Program) (w:World) (K:PySem.W.Frag) (mg:Str→Option Value) (base:Heap) (N:List Str) (qual:Str) (scope:Scope) (f:Addr) (cd:Value) (A:Around) (outer:List Env) (s:Shared) (H:Hp) (E:XK):Cx where
 prog:=P
 w:=w
 K:=K
 mg:=mg
 base:=base
 A:=A.deeper (envOfC qual scope s.heap.objs.size f cd)
 N:=N
 s₀:=s
 H₀:=H
 env:=envOfC qual scope s.heap.objs.size f cd
 outer:=outer
 stack:=envOfC qual scope s.heap.objs.size f cd::outer
 ex:=[]
 calm:=true
 fn:=fun _=>true
 pn:=[]
 xe:=fun e s'=>wpAny (model P w) (A.deeper (envOfC qual scope s.heap.objs.size f cd)) (leaving (envOfC qual scope s.heap.objs.size f cd) e) (fun _ s''=>CX outer H s E e s'') (fun e' s''=>CX outer H s E e' s'') s'
theorem zgH {sc:Scope} {n:Nat} {x:Str} (h:sc.names.lookup x=some .cell):∃ c,(cellsFrom n sc.names []).lookup x=some c:=by
 have q:=PySem.W.cellsFrom_some sc.names n [] (.inl h);exact Option.isSome_iff_exists.mp q
theorem zh2 {CX:CXT} {P:Program} {w:World} {K:PySem.W.Frag} {mg:Str→Option Value} {base:Heap} {N ps:List Str} {qual:Str} {scope:Scope} {f:Addr} {cd:Value} {A:Around} {outer:List Env} {s s1:Shared} {H:Hp} {E:XK} {us:List Value} {vs:List V}
  (S:zao N ps scope) (hd:A.handled=none) (e0:Env0 P w K mg base A outer s H) (hl:vs.length=ps.length) (r:Vals vs us)
  (x:InCallC s s.heap.objs.size (bindL (envOfC qual scope s.heap.objs.size f cd).kindOf (ps.zip us) fun _=>none) (cellsFrom (s.heap.objs.size+1) scope.names []) (bindC (envOfC qual scope s.heap.objs.size f cd).kindOf (ps.zip us) fun _=>none) s1) :
  Inv (cxOf CX P w K mg base N qual scope f cd A outer s H E) [] (start N vs) H s1:=by
 have hpl:ps.length≤N.length:=by have:=congrArg List.length S.pre;rw [List.length_take] at this;omega
 obtain ⟨h1,tk,rfl,hk⟩:=x.done;have noA:∀ b:Addr,b∉(cxOf CX P w K mg base N qual scope f cd A outer s H E).ex:=fun b z=>absurd (show b∈([]:List Addr) from z) (by simp);refine ⟨⟨e0.mod,S.kind,rfl,rfl,Nat.le_refl _,fun y z c h1 h2=>?_,fun y hy=>?_,fun y c _ h=>?_,fun _=>hd,Around.frames_deeper e0.frames,.inr ⟨rfl,rfl⟩,fun b z=>absurd z (noA b),e0.bs,e0.bsz,fun b _ _=>noA b,fun b z=>absurd z (noA b),e0.funs,e0.frf⟩,
  rfl,e0.bare,Un.kept hk,⟨_,x.toInCall.ns,fun i y v h1 h2 h3=>?_⟩,fun y c h=>⟨_,x.cell y c h⟩,e0.hok.fresh (Nat.le_refl _),fun y c h=>?_,fun p hp=>absurd (show p∈([]:List (Addr×Obj)) from hp) (by simp),e0.hok.kept hk,?_⟩
 ·exact name_of_addr x.apart (PySem.mem_of_lookup h1) (PySem.mem_of_lookup h2)
 ·have hy:scope.names.lookup y=some .cell∨scope.names.lookup y=some .free:=hy;rcases hy with hy | hy
  ·exact zgH hy
  ·exact absurd rfl (S.nofree _ (PySem.mem_of_lookup hy))
 ·exact Nat.le_of_lt (x.above y c (PySem.mem_of_lookup h))
 ·have hi:i < vs.length:=by
   unfold start at h2
   by_cases hi:i < vs.length
   ·exact hi
   ·rw [List.getElem?_append_right (by simpa using hi)] at h2;rw [List.getElem?_replicate] at h2;split at h2 <;> cases h2
  have ha:vs[i]? = some v:=by
   unfold start at h2;rw [List.getElem?_append_left (by simpa using hi),List.getElem?_map] at h2
   cases e:vs[i]? with
   | none=>rw [e] at h2;cases h2
   | some a=>rw [e] at h2;cases h2;rfl
  obtain ⟨u,hu,rv⟩:=r.get ha;have hp:ps[i]? = some y:=by
   rw [← S.pre,List.getElem?_take_of_lt (by omega)];exact h1
  have ndP:ps.Nodup:=by rw [← S.pre];exact S.nd.sublist (List.take_sublist _ _)
  refine ⟨u,rv,?_⟩;rcases S.par y (List.mem_of_getElem? hp) with k | k
  ·exact .inl ⟨k,zfh ndP hp hu k⟩
  ·obtain ⟨c,e⟩:=zgH (n:=s.heap.objs.size+1) k;refine .inr ⟨.inl k,c,e,?_⟩;have q:=x.cell y c e;rw [zfi ndP hp hu (by show scope.names.lookup y≠_;rw [k];decide)] at q;exact q
 ·exact e0.hok.fresh (Nat.le_of_lt (x.above y c (PySem.mem_of_lookup h)))
 ·unfold start;show _=N.length;rw [List.length_append,List.length_map,List.length_replicate];omega
theorem zmo {CX:CXT} {P:Program} {w:World} {K:PySem.W.Frag} {mg:Str→Option Value} {base:Heap} {k:Nat} {f:Addr} {name qual:Str} {params:Arguments} {body:List Stmt} {scope:Scope} {dV kV doc pm cdv ct oc:Value} {an od:Option Addr}
  {osl:Array (Option Value)} {N ps:List Str} {sp:Sp} (lk:K.lookup f=some ⟨oc,od,.func (PySem.W.fnOf name qual params body scope dV kV doc pm an cdv ct),osl⟩) (hcd:PySem.W.codeIn K cdv qual=true) (S:zao N ps scope)
  (len:∀ vs H Q E,sp vs H Q E→vs.length=ps.length)
  (hbody:∀ (A:Around) (outer:List Env) (s:Shared) (H:Hp) (vs:List V) (Q:VK) (E:XK),Room k (A.deeper (envOfC qual scope s.heap.objs.size f cdv))→sp vs H Q E →
   ∃ t,PSs (cxOf CX P w K mg base N qual scope f cdv A outer s H E) body t∧t { nx:=fun _ H'=>Q .non H',rt:=Q } (start N vs) H) :
  FnOk P w K mg base CX (k+1) f (PySem.W.fnOf name qual params body scope dV kV doc pm an cdv ct) ps sp:=by
 refine ⟨len,fun A outer s H args us vs Q E hr e0 hb r hsp=>?_⟩;have hl:=len _ _ _ _ hsp;have KX:K.In s.heap:=e0.mod.kin.keeps fun b o e=>(e0.bs b o e).1;have lim:s.heap.NoLimit:=e0.mod.nolimit.keeps fun b o e=>(e0.bs b o e).1;have hkind:∀ y∈ps.zip us,scope.names.lookup y.1=some .local∨(scope.names.lookup y.1=some .cell∧((cellsFrom (s.heap.objs.size+1) scope.names []).lookup y.1).isSome=true):=fun ⟨n,v⟩ hy=>by
  rcases S.par n (List.of_mem_zip hy).1 with q | q
  ·exact .inl q
  ·exact .inr ⟨q,PySem.W.cellsFrom_some _ _ _ (.inl q)⟩
 refine codeAny_call_function hr.depth (KX _ _ lk) rfl S.co S.gen rfl (PySem.W.codeRec_of KX hcd) (hb _ _ _ _ ?_);refine wpAny_newFunctionEnv_cells S.kind hkind fun env he s1 x=>?_;subst he;refine ⟨lim.keeps x.toInCall.keep,codeAny_func ?_⟩;obtain ⟨t,ht,hq⟩:=hbody A outer s H vs Q E (hr.deeper _) hsp;have I:Inv (cxOf CX P w K mg base N qual scope f cdv A outer s H E) [] (start N vs) H s1:=zh2 S hr.hd e0 hl r x;refine wpAny_mono (ht [] s1 (start N vs) H _ I hq) (fun fl s' hs=>?_) fun e s' hs=>hs;have fin:∀ {σ':St} {H':Hp} {v:V} {u:Value},Inv (cxOf CX P w K mg base N qual scope f cdv A outer s H E) [] σ' H' s'→RelV v u→Q v H'→CE outer P w H s Q u s' :=
  fun {σ' H' v u} J rv q=>⟨v,H',J.os,J.bare,J.base,J.hok,rv,q⟩
 cases fl with
 | ret u =>
   obtain ⟨v,σ',H',J,rv,q⟩:=hs;exact fin J rv q
 | next =>
   obtain ⟨σ',H',J,q⟩:=hs;exact fin (v:=V.non) (u:=Value.none) J rfl q
 | brk =>
   obtain ⟨_,_,_,q⟩:=hs;exact False.elim q
 | cont =>
   obtain ⟨_,_,_,q⟩:=hs;exact False.elim q
end L2
namespace L2
open PySem PySem.Spec PyProof.Rows
section
variable {X:Cx} {x:Str} {p pos:Pos} {e:Expr} {es:List Expr} {t:TA} {id T:String} {r:List V→Hp→VK→Prop}
def tCB (r:List V→Hp→VK→Prop) (t:TA):TE:=fun σ H Q=>t σ H fun vs H1=>r vs H1 Q
theorem zah (hc:zdd X (.builtin id) r) (hg:Gl X x) (hm:X.mg x=none) (hv:bootBuiltins x=some (.builtin id)) (ha:PA X (e::es) t) (hn:x≠"__name__":=by decide) (hdb:(x == ("__debug__" : Str))=false:=by decide)
  (he:starEach (e::es) X.env=(false,eval e X.env)::starEach es X.env:=by rfl) (hpl:(backTo pos (starEach es X.env)).any (·.1)=false:=by rfl):PE X (.Call (.Name x p) (e::es) [] pos) (tCB r t):=by
 intro pins s σ H Q I h;refine wpAny_Call_Name_kw (zd4 I hg hm hv ?_ hn hdb);exact PyProof.Rows.callWith_builtin1 (thn (ha pos pins s σ H _ I h) fun us s1 ⟨vs,H1,I1,r1,q1⟩=>hc pins s1 σ H1 vs us Q I1 r1 q1) he hpl
end
end L2
namespace HT
open PySem PyProof.Rows
section
open PySem.SeqAt
open PySem.AutoSeq1 (wpAny_loadPart')
open PySem.MeetsSeq PySem.MeetsSeq2 PySem.MeetsSeq3
end
section
variable {prog:Program} {w:World} {A:Around} {E:Value→Shared→Prop} {s:Shared}
def sIx (n d:Nat):Option Int→Nat
 | none=>d
 | some v=>if v < 0 then (v+(n:Int)).toNat else min v.toNat n
theorem sIx_none (n d:Nat):sIx n d none=d:=rfl
theorem sIx_nat (n d k:Nat):sIx n d (some (k:Int))=min k n:=by
 show (if (k:Int) < 0 then ((k:Int)+(n:Int)).toNat else min (k:Int).toNat n)=min k n;rw [if_neg (by omega),Int.toNat_natCast]
end
end HT
namespace L2
open PySem PySem.Spec PyProof.Rows
abbrev TO:=St→Hp→(Option Int→Hp→Prop)→Prop
def PO (X:Cx) (e:Option Expr) (t:TO):Prop :=
 ∀ (pins:List (Addr×Obj)) (s:Shared) (σ:St) (H:Hp) (Q:Option Int→Hp→Prop),Inv X pins σ H s→t σ H Q →
  wpAny (model X.prog X.w) X.A (evalPart e X.env) (fun u s'=>∃ o H',Inv X pins σ H' s'∧IsPart u o∧Q o H') X.xe s
def tNoPart:TO:=fun _ H Q=>Q none H
def zle (t:TE):TO:=fun σ H Q=>t σ H fun x H1=>∃ i,x=.int i∧Q (some i) H1
theorem intsAre_of {ns:List Int}:∀ {us:List Value},Vals (ns.map V.int) us→IntsAre us ns:=by
 induction ns with
 | nil=>intro us r;rw [List.map_nil] at r;cases r;exact .nil
 | cons n ns ih =>
   intro us r;rw [List.map_cons] at r
   cases r with
   | cons r1 r2 =>
     obtain ⟨t,e⟩:=r1;subst e;exact .cons n t (ih r2)
section
variable {X:Cx} {e:Expr} {te:TE} {lo hi:Option Expr} {tl th:TO} {pos p2:Pos}
theorem po_none:PO X none tNoPart:=by
 intro pins s σ H Q I h;rw [evalPart_none];exact wpAny_pure ⟨none,H,I,.none,h⟩
theorem zd7 (h:PE X e te):PO X (some e) (zle te):=by
 intro pins s σ H Q I hw;rw [evalPart_some];refine thn (h pins s σ H _ I hw) fun u s1 ⟨x,H1,I1,r1,q1⟩=>?_;obtain ⟨i,rfl,q⟩:=q1;obtain ⟨t,rfl⟩:=r1;exact ⟨some i,H1,I1,.int i t,q⟩
def SlR (X:Cx) (r:V→Option Int→Option Int→Hp→VK→Prop):Prop :=
 ∀ (pins:List (Addr×Obj)) (s:Shared) (σ:St) (H:Hp) (x:V) (v vl vu:Value) (lo hi:Option Int) (sl:Addr) (Q:VK),Inv X pins σ H s→RelV x v→s.heap.IsSliceOf sl vl vu .none→IsPart vl lo→IsPart vu hi→r x lo hi H Q →
  ∃ T id,typeLookup (.type T) "__getitem__" = pure (some (.builtin id))∧s.TypeIs v T∧wpAny (model X.prog X.w) X.A (getItem v (.ref sl)) (EP X pins σ Q) X.xe s
def tSl (r:V→Option Int→Option Int→Hp→VK→Prop) (te:TE) (tl th:TO):TE:=fun σ H Q=>te σ H fun x H1=>tl σ H1 fun l H2=>th σ H2 fun u H3=>r x l u H3 Q
theorem zde {r:V→Option Int→Option Int→Hp→VK→Prop} (hr:SlR X r) (he:PE X e te) (hl:PO X lo tl) (hu:PO X hi th):PE X (.Subscript e (.Slice lo hi none p2) pos) (tSl r te tl th):=by
 intro pins s σ H Q I h;refine Subscript_ (thn (he pins s σ H _ I h) fun v s1 ⟨x,H1,I1,r1,q1⟩=>?_);refine wpAny_Slice (thn (hl pins s1 σ H1 _ I1 q1) fun vl s2 ⟨l,H2,I2,pl,q2⟩=>thn (hu pins s2 σ H2 _ I2 q2) fun vu s3 ⟨u,H3,I3,pu,q3⟩=>?_);rw [evalPart_none];refine wpAny_pure ?_;have I4:Inv X pins σ H3 { s3 with heap:=s3.heap.push { cls:=.type "slice",data:=.fields #[vl,vu,.none] } }:=I3.kept (t':=s3.toks) fun b ob q=>Heap.get?_push_of_some _ q;obtain ⟨T,id,hT,ht,hg⟩:=hr pins { s3 with heap:=s3.heap.push { cls:=.type "slice",data:=.fields #[vl,vu,.none] } } σ H3 x v vl vu l u s3.heap.objs.size Q I4 r1 (Heap.IsSliceOf.new ..) pl pu q3;show wpAny (model X.prog X.w) X.A (subscriptTail e (.Slice lo hi none p2) v (.ref s3.heap.objs.size)) (EP X pins σ Q) X.xe { s3 with heap:=s3.heap.push { cls:=.type "slice",data:=.fields #[vl,vu,.none] } };exact tail_any (ops:=[.ref s3.heap.objs.size,v]) ht hT hg (by with_unfolding_all rfl)
def cutV (xs:List V) (lo hi:Option Int):List V:=(xs.drop (HT.sIx xs.length 0 lo)).take (HT.sIx xs.length xs.length hi-HT.sIx xs.length 0 lo)
theorem zf1 (xs:List V) (lo hi:Option Int):(cutV xs lo hi).length≤xs.length:=by
 unfold cutV;rw [List.length_take,List.length_drop];omega
end
end L2
namespace L2
open PySem PySem.Spec PyProof.Rows
def ixN (n:Nat) (i:Int):Option Nat:=if 0≤i then (if i < n then some i.toNat else none) else if -(n:Int)≤i then some (i+n).toNat else none
def atI {α:Type} (xs:List α) (i:Int):Option α:=(ixN xs.length i).bind fun j=>xs[j]?
theorem zh3 {n:Nat} {i:Int} {j:Nat} (h:ixN n i=some j):seqIndex? i n=some j∧j < n∧-(n:Int)≤i∧i < n:=by
 unfold ixN at h
 by_cases h0:0≤i
 ·rw [if_pos h0] at h
  by_cases h1:i < n
  ·rw [if_pos h1] at h;have e:i.toNat=j:=Option.some.inj h;exact ⟨by rw [seqIndex_of h0 h1,e],by omega,by omega,h1⟩
  ·rw [if_neg h1] at h;cases h
 ·rw [if_neg h0] at h
  by_cases h1 : -(n:Int)≤i
  ·rw [if_pos h1] at h;have e:(i+n).toNat=j:=Option.some.inj h;exact ⟨by rw [seqIndex_neg (by omega) h1,e],by omega,h1,by omega⟩
  ·rw [if_neg h1] at h;cases h
theorem zkr {α:Type} {xs:List α} {i:Int} {v:α} (h:atI xs i=some v):∃ j,seqIndex? i xs.length=some j∧xs[j]? = some v∧j < xs.length∧-(xs.length:Int)≤i∧i < xs.length:=by
 unfold atI at h
 cases e:ixN xs.length i with
 | none=>rw [e] at h;cases h
 | some j =>
   rw [e] at h;obtain ⟨h1,h2,h3,h4⟩:=zh3 e;exact ⟨j,h1,h,h2,h3,h4⟩
theorem zh4 {α:Type} {xs:List α} {j:Nat} {v:α} (h:xs[j]? = some v):atI xs (j:Int)=some v:=by
 have hj:j < xs.length:=(List.getElem?_eq_some_iff.mp h).1;have e:ixN xs.length (j:Int)=some j:=by
  unfold ixN;rw [if_pos (by omega),if_pos (by omega)];simp
 unfold atI;rw [e];exact h
def zks (b:Expr):Prop:=∀ o i,subscripted b false o i=operate [o,i] (getItem o i)
def IxR (X:Cx) (r:R2):Prop :=
 ∀ (value slice:Expr) (pins:List (Addr×Obj)) (s:Shared) (σ:St) (H:Hp) (x y:V) (v u:Value) (Q:VK),Inv X pins σ H s→RelV x v→RelV y u→r x y H Q →
  subscripted slice false v u=operate [v,u] (getItem v u)→wpAny (model X.prog X.w) X.A (subscriptTail value slice v u) (EP X pins σ Q) X.xe s
def MtR (X:Cx) (id:String) (r:V→List V→Hp→VK→Prop):Prop :=
 ∀ (pins:List (Addr×Obj)) (s:Shared) (σ:St) (H:Hp) (x:V) (xs:List V) (v:Value) (us:List Value) (Q:VK),Inv X pins σ H s→RelV x v→Vals xs us→r x xs H Q →
  wpAny (model X.prog X.w) X.A (call (.builtin id) (v::us)) (EP X pins σ Q) X.xe s
section
variable {X:Cx} {a b:Expr} {ta tb:TE} {pos:Pos}
theorem zax {r:R2} (hr:IxR X r) (ha:PE X a ta) (hb:PE X b tb) (hs:zks b):PE X (.Subscript a b pos) (tOp r ta tb):=by
 intro pins s σ H Q I h;exact Subscript_ (binT ha hb I h fun v u s2 x y H2 I2 rx ry q=>hr a b pins s2 σ H2 x y v u Q I2 rx ry q (hs _ _))
def rIxL (K:PySem.W.Frag):R2:=fun x y H Q=>∃ p xs i v,x=.ref p∧y=.int i∧SqL K H p xs∧atI xs i=some v∧Q v H
theorem ix_list:IxR X (rIxL X.K):=by
 intro value slice pins s σ H x y v u Q I rx ry h hs;obtain ⟨p,xs,i,z,rfl,rfl,hq,he,q⟩:=h
 cases rx
 obtain ⟨t,rfl⟩:=ry;obtain ⟨its,r,pl,hz⟩:=I.list hq;obtain ⟨j,h1,h2,h3,h4,h5⟩:=zkr he;obtain ⟨w,ew,rw'⟩:=r.get h2;have hl:=r.length;have hn:=line63;have fin:EP X pins σ Q w s:=⟨z,H,I,rw',q⟩
 by_cases h0:0≤i
 ·have hj:i.toNat=j:=by
   rw [seqIndex_of h0 h5] at h1;exact Option.some.inj h1
  exact item_listR pl.isList h0 (by omega) (by rw [hj];simpa using ew) fin hs
 ·have hj:(i+(its.toArray.size:Int)).toNat=j:=by
   rw [seqIndex_neg (by omega) h4] at h1;rw [List.size_toArray,← hl];exact Option.some.inj h1
  exact subscriptTail_builtinR (x:=w) pl.isList.typeIs slot_list_getitem.lookup
   (wpAny_getItem_list_neg (Q:=fun r s'=>r=w∧EP X pins σ Q r s') pl.isList (by omega) (by rw [List.size_toArray] <;> omega) (by omega) (by rw [hj];simpa using ew) ⟨rfl,fin⟩) hs
theorem zhe (its:List Value) (n j:Nat) (u:Value):Obj.mapSeq (·.setIfInBounds j u) { cls:=.type "list",data:=.seq its.toArray n }={ cls:=.type "list",data:=.seq (its.set j u).toArray n }:=by
 simp [Obj.mapSeq]
theorem Inv.lst {pins:List (Addr×Obj)} {σ:St} {H:Hp} {s:Shared} {p:Addr} {xs:List V} (I:Inv X pins σ H s) (h:H p=some (.lst xs)) :
  ∃ (its:List Value) (n:Nat),Vals xs its∧s.heap.get? p=some { cls:=.type "list",data:=.seq its.toArray n }∧xs.length≤sizeLine:=by
 obtain ⟨z,its,n,r,e⟩:=I.hok p _ h;exact ⟨its,n,r,e,z⟩
theorem Inv.lstUpd {pins:List (Addr×Obj)} {σ:St} {H:Hp} {s:Shared} {p:Addr} {xs ys:List V} {its its':List Value} {n n':Nat} {f:Obj→Obj} (I:Inv X pins σ H s) (h:H p=some (.lst xs))
  (ho:s.heap.get? p=some { cls:=.type "list",data:=.seq its.toArray n }) (hf:f { cls:=.type "list",data:=.seq its.toArray n }={ cls:=.type "list",data:=.seq its'.toArray n' }) (r:Vals ys its') (hz:ys.length≤sizeLine) (t:Nat) :
  Inv X pins σ (upd H p (.lst ys)) { s with heap:=s.heap.update p f,toks:=t }:=by
 have e:(s.heap.update p f).get? p=some { cls:=.type "list",data:=.seq its'.toArray n' }:=by
  rw [Heap.get?_update_self f ho (by rw [hf] <;> rfl),hf]
 refine I.write (x:=p) (e:=p) (by rw [h];trivial) (.inl rfl) (fun b u hb q=>(Heap.get?_update_other _ _ (Ne.symm hb)).trans q) ⟨_,e⟩ ?_;exact ⟨hz,its',n',r,e⟩
def rSetL:V→V→V→Hp→(Hp→Prop)→Prop:=fun o i v H Q=>∃ p xs k j,o=.ref p∧i=.int k∧H p=some (.lst xs)∧ixN xs.length k=some j∧Q (upd H p (.lst (xs.set j v)))
theorem set_list:PSet X rSetL:=by
 intro pins s σ H o i v ov iv u Q I ro ri rv h;obtain ⟨p,xs,k,j,rfl,rfl,hp,hj,q⟩:=h
 cases ro
 obtain ⟨t,rfl⟩:=ri;obtain ⟨its,n,r,ho,hz⟩:=I.lst hp;obtain ⟨h1,h2,h3,h4⟩:=zh3 hj;have hl:=r.length;have hn:=line63;have I':Inv X pins σ (upd H p (.lst (xs.set j v))) { s with heap:=s.heap.update p (Obj.mapSeq (·.setIfInBounds j u)) } :=
  I.lstUpd hp ho (zhe its n j u) (r.set rv j) (by rw [List.length_set];exact hz) s.toks
 by_cases h0:0≤k
 ·have hk:k.toNat=j:=by
   rw [seqIndex_of h0 h4] at h1;exact Option.some.inj h1
  exact PySem.W.ki_setAt ho h0 (by omega) (by rw [List.size_toArray,← hl];exact h4) (by rw [hk];exact ⟨_,I',q⟩)
 ·have hk:(k+(its.toArray.size:Int)).toNat=j:=by
   rw [seqIndex_neg (by omega) h3] at h1;rw [List.size_toArray,← hl];exact Option.some.inj h1
  exact PySem.W.ki_setBack ho (by omega) (by rw [List.size_toArray,← hl];exact h3) (by omega) (by rw [hk];exact ⟨_,I',q⟩)
theorem zfj (lo hi:Option Int) (n:Nat):(sliceBounds lo hi none n).1=((HT.sIx n 0 lo:Nat):Int)∧(sliceBounds lo hi none n).2.1=((HT.sIx n n hi:Nat):Int)∧(sliceBounds lo hi none n).2.2=1:=by
 refine ⟨?_,?_,rfl⟩
 ·cases lo with
  | none=>simp [sliceBounds,HT.sIx]
  | some i =>
    simp only [sliceBounds,HT.sIx,Option.getD_none,show (1:Int) > 0 by decide,if_true]
    by_cases h:i < 0
    ·simp only [h,if_true] <;> omega
    ·simp only [h,if_false] <;> omega
 ·cases hi with
  | none=>simp [sliceBounds,HT.sIx]
  | some i =>
    simp only [sliceBounds,HT.sIx,Option.getD_none,show (1:Int) > 0 by decide,if_true]
    by_cases h:i < 0
    ·simp only [h,if_true] <;> omega
    ·simp only [h,if_false] <;> omega
theorem zeT (its:List Value) (lo hi:Option Int):slicePick its.toArray lo hi none=((its.drop (HT.sIx its.length 0 lo)).take (HT.sIx its.length its.length hi-HT.sIx its.length 0 lo)).toArray:=by
 obtain ⟨h1,h2,h3⟩:=zfj lo hi its.toArray.size;unfold slicePick;rw [h1,h2,h3];simp only [sliceRange_one,pick_run,List.size_toArray] <;> rfl
def rSlL (K:PySem.W.Frag):V→Option Int→Option Int→Hp→VK→Prop:=fun x lo hi H Q=>∃ a xs,x=.ref a∧SqL K H a xs∧∀ p,H p=none→Q (.ref p) (upd H p (.lst (cutV xs lo hi)))
theorem sl_list:SlR X (rSlL X.K):=by
 intro pins s σ H x v vl vu lo hi sl Q I rx hs pl pu h;obtain ⟨a,xs,rfl,hx,q⟩:=h
 cases rx
 obtain ⟨its,r,ht,hz⟩:=I.list hx;have hlen:=r.length;refine ⟨"list",_,slot_list_getitem.lookup,ht.isList.typeIs,?_⟩;refine wpAny_getItem_list_slice ht.isList hs pl pu .none (by simp) ?_ (by rw [List.size_toArray] <;> omega);rw [zeT,← hlen];refine ⟨.ref s.heap.objs.size,_,I.laid (t':=s.toks) (o:=.lst (cutV xs lo hi)) (fun b ob q=>Heap.get?_push_of_some _ q) (Nat.le_refl _) ?_,rfl,q _ (I.hok.fresh (Nat.le_refl _))⟩;exact ⟨Nat.le_trans (zf1 xs lo hi) hz,_,0,(r.drop (HT.sIx xs.length 0 lo)).take (HT.sIx xs.length xs.length hi-HT.sIx xs.length 0 lo),Heap.get?_push_size _ rfl⟩
def flatV:V→Bool
 | .non=>true
 | .bl _=>true
 | .int _=>true
 | .str _=>true
 | _=>false
def eqV:V→V→Bool
 | .non,.non=>true
 | .bl a,.bl b=>a == b
 | .bl a,.int b=>(if a then 1 else 0) == b
 | .int a,.bl b=>a == (if b then 1 else 0)
 | .int a,.int b=>a == b
 | .str a,.str b=>a == b
 | _,_=>false
theorem zh5 {A:Around} {s:Shared} {y x:V} {u v:Value} (ry:RelV y u) (rx:RelV x v) (fy:flatV y=true) (fx:flatV x=true):SeqAt.EqAt A s u v (eqV y x):=by
 cases y with
 | non =>
   cases ry
   cases x with
   | non=>cases rx;exact SeqAt.EqAt.same _
   | bl b=>cases rx;exact SeqAt.EqAt.none_bool b
   | int b=>obtain ⟨t,rfl⟩:=rx;exact SeqAt.EqAt.none_int b t
   | str b=>obtain ⟨t,rfl⟩:=rx;exact SeqAt.EqAt.none_str b t
   | _=>exact absurd (show false=true from fx) Bool.false_ne_true
 | bl a =>
   cases ry
   cases x with
   | non=>cases rx;exact SeqAt.EqAt.bool_none a
   | bl b=>cases rx;exact SeqAt.EqAt.bool_bool a b
   | int b=>obtain ⟨t,rfl⟩:=rx;exact SeqAt.EqAt.bool_int a b t
   | str b=>obtain ⟨t,rfl⟩:=rx;exact SeqAt.EqAt.bool_str a b t
   | _=>exact absurd (show false=true from fx) Bool.false_ne_true
 | int a =>
   obtain ⟨t',rfl⟩:=ry
   cases x with
   | non=>cases rx;exact SeqAt.EqAt.int_none a t'
   | bl b=>cases rx;exact SeqAt.EqAt.int_bool a t' b
   | int b=>obtain ⟨t,rfl⟩:=rx;exact SeqAt.EqAt.int_int a t' b t
   | str b=>obtain ⟨t,rfl⟩:=rx;exact SeqAt.EqAt.int_str a t' b t
   | _=>exact absurd (show false=true from fx) Bool.false_ne_true
 | str a =>
   obtain ⟨t',rfl⟩:=ry
   cases x with
   | non=>cases rx;exact SeqAt.EqAt.str_none a t'
   | bl b=>cases rx;exact SeqAt.EqAt.str_bool a t' b
   | int b=>obtain ⟨t,rfl⟩:=rx;exact SeqAt.EqAt.str_int a t' b t
   | str b=>obtain ⟨t,rfl⟩:=rx;exact SeqAt.EqAt.str_str a t' b t
   | _=>exact absurd (show false=true from fx) Bool.false_ne_true
 | _=>exact absurd (show false=true from fy) Bool.false_ne_true
def eqU (x:V) (u:Value):Bool:=match u with
 | .none=>eqV .non x
 | .bool b=>eqV (.bl b) x
 | .int i _=>eqV (.int i) x
 | .str z _=>eqV (.str z) x
 | _=>false
theorem zj2 {x y:V} {u:Value} (r:RelV y u) (f:flatV y=true):eqU x u=eqV y x:=by
 cases y with
 | non=>cases r;rfl
 | bl b=>cases r;rfl
 | int i=>obtain ⟨t,rfl⟩:=r;rfl
 | str z=>obtain ⟨t,rfl⟩:=r;rfl
 | _=>exact absurd (show false=true from f) Bool.false_ne_true
theorem zd8 {x:V}:∀ {xs:List V} {us:List Value},Vals xs us→xs.all flatV=true→us.any (eqU x)=xs.any fun y=>eqV y x
 | _,_,.nil,_=>rfl
 | y::xs,u::us,.cons r t,f=>by
   rw [List.all_cons,Bool.and_eq_true] at f;rw [List.any_cons,List.any_cons,zj2 r f.1,zd8 t f.2]
theorem zdf {A:Around} {s:Shared} {x:V} {v:Value} (rx:RelV x v) (fx:flatV x=true):∀ {xs:List V} {us:List Value},Vals xs us→xs.all flatV=true→∀ u∈us,SeqAt.EqAt A s u v (eqU x u)
 | _,_,.nil,_=>fun u hu=>by cases hu
 | y::xs,u::us,.cons r t,f=>fun u' hu=>by
   rw [List.all_cons,Bool.and_eq_true] at f;rcases List.mem_cons.mp hu with rfl | hu
   ·rw [zj2 r f.1];exact zh5 r rx f.1 fx
   ·exact zdf rx fx t f.2 u' hu
def inV (x:V) (xs:List V):Bool:=xs.any fun y=>eqV y x
def rIn (K:PySem.W.Frag) (neg:Bool):R2:=fun x y H Q=>∃ p xs,y=.ref p∧(SqL K H p xs∨SqT K H p xs)∧flatV x=true∧xs.all flatV=true∧Q (.bl (if neg then !inV x xs else inV x xs)) H
theorem op_in_seq:OpR X (compareOp .In) (rIn X.K false):=by
 intro pins s σ H x y v u Q I rx ry h;obtain ⟨p,xs,rfl,hq,fx,fs,q⟩:=h
 cases ry
 rcases hq with hq | hq
 ·obtain ⟨its,r,pl,hz⟩:=I.list hq;refine SeqAt.in_listAt (eqU x) pl.isList (fun w hw=>zdf rx fx r fs w (by simpa using hw)) ⟨.bl _,H,I,rfl,?_⟩;rw [show its.toArray.any (eqU x)=its.any (eqU x) by simp,zd8 r fs];exact q
 ·obtain ⟨its,r,pl,hz⟩:=I.tuple hq;refine SeqAt.in_tupleAt (eqU x) pl (fun w hw=>zdf rx fx r fs w (by simpa using hw)) ⟨.bl _,H,I,rfl,?_⟩;rw [show its.toArray.any (eqU x)=its.any (eqU x) by simp,zd8 r fs];exact q
theorem op_notIn_seq:OpR X (compareOp .NotIn) (rIn X.K true):=by
 intro pins s σ H x y v u Q I rx ry h;obtain ⟨p,xs,rfl,hq,fx,fs,q⟩:=h
 cases ry
 rcases hq with hq | hq
 ·obtain ⟨its,r,pl,hz⟩:=I.list hq;refine SeqAt.notIn_listAt (eqU x) pl.isList (fun w hw=>zdf rx fx r fs w (by simpa using hw)) ⟨.bl _,H,I,rfl,?_⟩;rw [show its.toArray.any (eqU x)=its.any (eqU x) by simp,zd8 r fs];exact q
 ·obtain ⟨its,r,pl,hz⟩:=I.tuple hq;refine SeqAt.notIn_tupleAt (eqU x) pl (fun w hw=>zdf rx fx r fs w (by simpa using hw)) ⟨.bl _,H,I,rfl,?_⟩;rw [show its.toArray.any (eqU x)=its.any (eqU x) by simp,zd8 r fs];exact q
theorem call_len_seq:zdd X (.builtin "len") (fun xs H Q=>∃ p ys,xs=[.ref p]∧(SqL X.K H p ys∨SqT X.K H p ys)∧Q (.int ys.length) H):=by
 intro pins s σ H xs us Q I r h;obtain ⟨p,ys,rfl,hq,q⟩:=h;obtain ⟨u,rfl,rx⟩:=vals1 r
 cases rx
 have hn:=line63;rcases hq with hq | hq
 ·obtain ⟨its,r',pl,hz⟩:=I.list hq;have hlen:=r'.length;exact Calls.call_len_list pl.isList (by simp only [List.size_toArray] <;> omega) ⟨.int ys.length,H,I.tok _,⟨s.toks+1,by rw [List.size_toArray,hlen]⟩,q⟩
 ·obtain ⟨its,r',pl,hz⟩:=I.tuple hq;have hlen:=r'.length;exact len_tuple pl (by simp only [List.size_toArray] <;> omega) ⟨.int ys.length,H,I.tok _,⟨s.toks+1,by rw [List.size_toArray,hlen]⟩,q⟩
def tyV (K:PySem.W.Frag) (T:String) (x:V) (H:Hp):Prop:=match x with
 | .str _=>T = "str"
 | .int _=>T = "int"
 | .ref p=>(T = "list"∧∃ xs,SqL K H p xs)∨(T = "tuple"∧∃ o,K.lookup p=some o∧o.cls=.type "tuple"∧o.dict=none) ∨
    (T = "dict"∧((∃ kvs,H p=some (.dK kvs))∨∃ kvs,H p=some (.dT kvs)))∨(T = "set"∧∃ S n,H p=some (.set S n))
 | _=>False
theorem zlf {pins:List (Addr×Obj)} {σ:St} {H:Hp} {s:Shared} {T:String} {x:V} {v:Value} (I:Inv X pins σ H s) (r:RelV x v) (ty:tyV X.K T x H) :
  s.TypeIs v T∧∀ a,v=.ref a→∃ ob,s.heap.get? a=some ob∧ob.dict=none:=by
 cases x with
 | str z =>
   obtain ⟨t,rfl⟩:=r
   cases (show T = "str" from ty)
   exact ⟨typeIs_str s z t,fun _ e=>nomatch e⟩
 | int i =>
   obtain ⟨t,rfl⟩:=r
   cases (show T = "int" from ty)
   exact ⟨typeIs_int s i t,fun _ e=>nomatch e⟩
 | ref p =>
   cases r
   rcases ty with ⟨rfl,xs,hq⟩ | ⟨rfl,o,hk,hc,hd⟩ | ⟨rfl,hk⟩ | ⟨rfl,S,n,hk⟩
   ·obtain ⟨its,_,pl,_⟩:=I.list hq;refine ⟨pl.isList.typeIs,fun a e=>?_⟩
    cases e
    obtain ⟨o,n,e,c,hd,_⟩:=pl;exact ⟨o,e,hd⟩
   ·refine ⟨⟨o,I.kIn p o hk,hc⟩,fun a e=>?_⟩
    cases e
    exact ⟨o,I.kIn _ o hk,hd⟩
   ·have z:∃ o,s.heap.get? p=some o∧o.ExactDict:=by
     rcases hk with ⟨kvs,hk⟩ | ⟨kvs,hk⟩
     ·obtain ⟨_,_,_,_,o,_,_,e,ex,_⟩:=I.hok p _ hk;exact ⟨o,e,ex⟩
     ·obtain ⟨_,_,_,_,o,_,_,e,ex,_⟩:=I.hok p _ hk;exact ⟨o,e,ex⟩
    obtain ⟨o,e,ex⟩:=z;refine ⟨⟨o,e,ex.1⟩,fun a e2=>?_⟩
    cases e2
    exact ⟨o,e,ex.2.1⟩
   ·obtain ⟨o,_,_,_,e,ex,_⟩:=I.hok p _ hk;refine ⟨⟨o,e,ex.1⟩,fun a e2=>?_⟩
    cases e2
    exact ⟨o,e,ex.2.1⟩
 | _=>exact False.elim ty
def tBM (K:PySem.W.Frag) (T:String) (r:V→List V→Hp→VK→Prop) (to:TE) (t:TA):TE:=fun σ H Q=>to σ H fun x H1=>tyV K T x H1∧t σ H1 fun xs H2=>r x xs H2 Q
variable {o e:Expr} {es:List Expr} {to:TE} {t:TA} {name:Str} {apos cpos:Pos} {T id:String} {r:V→List V→Hp→VK→Prop}
theorem zmp (pa:PlainAttrs T) (slot:Slot T name id) (hty:typeOf (.builtin id)=pure (.type "method_descriptor")) (hm:MtR X id r) (ho:PE X o to) (ha:PA X (e::es) t)
  (hbase:attributeBase o name X.env (eval o X.env)=eval o X.env:=by rfl)
  (hfew:((backTo cpos (starEach (e::es) X.env)).all (fun x=>!x.1) && (backToKw cpos (keywordEach [] X.env)).all (fun x=>x.1.isSome)
   && decide ((e::es).length+([]:List Keyword).length+(if ([]:List Keyword).isEmpty then 0 else 1) < 30))=true:=by rfl)
  (hline:(apos.endLine == cpos.line)=true:=by rfl) (hs:starEach (e::es) X.env=(false,eval e X.env)::starEach es X.env:=by rfl) (hplain:(backTo cpos (starEach es X.env)).any (·.1)=false:=by rfl) :
  PE X (.Call (.Attribute o name apos) (e::es) [] cpos) (tBM X.K T r to t):=by
 intro pins s σ H Q I h;refine wpAny_Call_method_late hbase hfew hline rfl (thn (ho pins s σ H _ I h) fun v s1 ⟨x,H1,I1,r1,ty,q1⟩=>?_);obtain ⟨h1,h2⟩:=zlf I1 r1 ty;refine ⟨T,id,pa,slot,hty,h1,h2,?_⟩;have hA:=ha cpos pins s1 σ H1 _ I1 q1;rw [hs] at hA ⊢;refine Calls.callWith_builtin (by show (false || (backTo cpos (starEach es X.env)).any (·.1))=false;rw [hplain] <;> rfl) (Calls.evalArgs_plain ?_);exact thn hA fun us s2 ⟨vs,H2,I2,r2,q2⟩=>hm pins s2 σ H2 x vs v us Q I2 r1 r2 q2
end
end L2
namespace L2
open PySem PySem.Spec PyProof.Rows
def MtM (X:Cx) (id:String) (r:V→List V→Hp→VK→Prop):Prop :=
 ∀ (pins:List (Addr×Obj)) (s:Shared) (σ:St) (H:Hp) (x:V) (xs:List V) (v:Value) (us:List Value) (Q:VK),Inv X pins σ H s→RelV x v→Vals xs us→r x xs H Q →
  wpAny (model X.prog X.w) X.A (call (.builtin id) (v::us)) (EP X pins σ Q) X.xe s
theorem Vals.one:∀ {x:V} {us:List Value},Vals [x] us→∃ u,us=[u]∧RelV x u
 | _,_,.cons r .nil=>⟨_,rfl,r⟩
theorem Vals.two:∀ {x y:V} {us:List Value},Vals [x,y] us→∃ u v,us=[u,v]∧RelV x u∧RelV y v
 | _,_,_,.cons r (.cons q .nil)=>⟨_,_,rfl,r,q⟩
section
variable {X:Cx} {pins:List (Addr×Obj)} {σ:St} {H:Hp} {s:Shared} {l b:Addr} {xs ys zs:List V}
theorem Inv.lset {its its':List Value} {n:Nat} {f:Array Value→Array Value} {t':Nat} (I:Inv X pins σ H s) (hH:H l=some (.lst xs))
  (e:s.heap.get? l=some { cls:=.type "list",data:=.seq its.toArray n }) (hf:f its.toArray=its'.toArray) (hv:Vals ys its') (hz:ys.length≤sizeLine) :
  Inv X pins σ (upd H l (.lst ys)) { s with heap:=s.heap.update l (Obj.mapSeq f),toks:=t' }:=by
 have q:=PySem.IsL.update e f;rw [hf] at q;refine I.write (x:=l) (e:=l) (by rw [hH];exact trivial) (.inl rfl) (fun b' u hb hu=>(Heap.get?_update_other s.heap (Obj.mapSeq f) (Ne.symm hb)).trans hu) ⟨_,q⟩ ?_;exact ⟨hz,its',_,hv,q⟩
theorem Inv.lnew {its:List Value} {t':Nat} (I:Inv X pins σ H s) (hv:Vals ys its) (hz:ys.length≤sizeLine) :
  Inv X pins σ (upd H s.heap.objs.size (.lst ys)) { s with heap:=s.heap.push { cls:=.type "list",data:=.seq its.toArray },toks:=t' } :=
 I.laid (fun _ _ q=>Heap.get?_push_of_some _ q) (Nat.le_refl _) ⟨hz,its,0,hv,Heap.get?_push_size _ rfl⟩
theorem Inv.fresh (I:Inv X pins σ H s):H s.heap.objs.size=none:=I.hok.fresh (Nat.le_refl _)
theorem Inv.lstM (I:Inv X pins σ H s) (hH:H l=some (.lst xs)):xs.length≤sizeLine∧∃ (its:List Value) (n:Nat),Vals xs its∧xs.length=its.length∧s.heap.get? l=some { cls:=.type "list",data:=.seq its.toArray n }:=by
 obtain ⟨z,its,n,r,e⟩:=I.hok l _ hH;exact ⟨z,its,n,r,r.length,e⟩
theorem zeU {n:Nat} (h:n≤sizeLine):Builtin.List.listTooLong n=false:=by
 unfold Builtin.List.listTooLong;exact decide_eq_false (by omega)
end
section
variable {X:Cx}
def rAppend:V→List V→Hp→VK→Prop:=fun x vs H Q=>∃ l xs y,x=.ref l∧vs=[y]∧H l=some (.lst xs)∧xs.length < sizeLine∧Q .non (upd H l (.lst (xs++[y])))
theorem mt_append:MtM X "list.append" rAppend:=by
 intro pins s σ H x vs v us Q I rx rv h;obtain ⟨l,xs,y,rfl,rfl,hH,hz,q⟩:=h
 cases rx
 obtain ⟨u,rfl,ru⟩:=rv.one;obtain ⟨z,its,n,r,hl,e⟩:=I.lstM hH;refine call_meets F.slot_list_append ⟨_,e,rfl⟩ F.entry_list_append (F.args_list_append_2 _ _) (PySem.list_append l its.toArray n u (by rw [List.size_toArray];omega)) ⟨e,?_⟩;refine ⟨.non,_,I.lset (its':=its++[u]) hH e (by simp) (r.append (.cons ru .nil)) ?_,rfl,q⟩;rw [List.length_append,List.length_singleton];omega
def rExtend:V→List V→Hp→VK→Prop:=fun x vs H Q=>∃ l b xs zs,x=.ref l∧vs=[.ref b]∧H l=some (.lst xs)∧H b=some (.lst zs)∧xs.length+zs.length≤sizeLine∧Q .non (upd H l (.lst (xs++zs)))
theorem mt_extend:MtM X "list.extend" rExtend:=by
 intro pins s σ H x vs v us Q I rx rv h;obtain ⟨l,b,xs,zs,rfl,rfl,hH,hB,hz,q⟩:=h
 cases rx
 obtain ⟨u,rfl,ru⟩:=rv.one
 cases ru
 obtain ⟨z,its,n,r,hl,e⟩:=I.lstM hH;obtain ⟨z2,its2,n2,r2,hl2,e2⟩:=I.lstM hB;have hsz:its.toArray.size+its2.toArray.size≤sizeLine:=by rw [List.size_toArray,List.size_toArray];omega
 have hlong:¬(!its.toArray.isEmpty && Builtin.List.listTooLong (its.toArray.size+its2.toArray.size))=true:=by
  rw [zeU hsz,Bool.and_false];exact Bool.false_ne_true
 refine call_meets F.slot_list_extend ⟨_,e,rfl⟩ F.entry_list_extend (F.args_list_extend_2 _ _)
  (AutoSeq1.list_extend_list_list_0 l its.toArray n b its2.toArray n2 hlong (by rw [List.size_toArray];omega) (by omega)) ⟨e,e2,?_⟩
 refine ⟨.non,_,I.lset (its':=its++its2) hH e (by simp) (r.append r2) ?_,rfl,q⟩;rw [List.length_append];omega
def rCat:R2:=fun x y H Q=>∃ l b xs zs,x=.ref l∧y=.ref b∧H l=some (.lst xs)∧H b=some (.lst zs)∧xs.length+zs.length≤sizeLine∧∀ p,H p=none→Q (.ref p) (upd H p (.lst (xs++zs)))
theorem op_cat:OpR X (binaryOp .Add) rCat:=by
 intro pins s σ H x y v u Q I rx ry h;obtain ⟨l,b,xs,zs,rfl,rfl,hH,hB,hz,q⟩:=h
 cases rx
 cases ry
 obtain ⟨z,its,n,r,hl,e⟩:=I.lstM hH;obtain ⟨z2,its2,n2,r2,hl2,e2⟩:=I.lstM hB;refine PySem.P.add_list e e2 ?_ (by rw [List.size_toArray,List.size_toArray];omega);have ea:its.toArray++its2.toArray=(its++its2).toArray:=by simp
 rw [ea];exact ⟨.ref _,_,I.lnew (t':=s.toks) (r.append r2) (by rw [List.length_append];omega),rfl,q _ I.fresh⟩
end
section
variable {prog:Program} {w:World} {A:Around} {E:Value→Shared→Prop} {s:Shared}
theorem zhf {a c n:Nat} (hac:a≤c) (hc:c≤n):sliceBounds (some (a:Int)) (some (c:Int)) none n=((a:Int),(c:Int),1):=by
 simp only [sliceBounds,Option.getD_none];have h1:¬((a:Int) < 0):=by omega
 have h2:¬((c:Int) < 0):=by omega
 simp only [h1,h2,if_false,show (1:Int) > 0 by decide,if_true]
 congr 1
 ·omega
 ·congr 1;omega
set_option maxRecDepth 100000 in
theorem zjd {l b sl:Addr} {items new:Array Value} {n n2:Nat} {vl vu:Value} {a c:Nat} {Q:Unit→Shared→Prop}
  (e:s.heap.get? l=some { cls:=.type "list",data:=.seq items n }) (e2:s.heap.get? b=some { cls:=.type "list",data:=.seq new n2 }) (hne:l≠b)
  (hs:s.heap.IsSliceOf sl vl vu .none) (pl:IsPart vl (some (a:Int))) (pu:IsPart vu (some (c:Int))) (hac:a≤c) (hc:c≤items.size)
  (hsz:items.size+new.size≤sizeLine) (h:Q () { s with heap:=s.heap.update l (Obj.mapSeq fun xs=>xs.extract 0 a++new++xs.extract c xs.size) }) :
  wpAny (model prog w) A (setItem (.ref l) (.ref sl) (.ref b)) Q E s:=by
 have hl:s.heap.IsList l items:=PySem.IsL.isList e;have hb:s.heap.IsList b new:=PySem.IsL.isList e2;obtain ⟨os,hos,hcs,hds⟩:=id hs;have hTs:s.TypeIs (.ref sl) "slice":=⟨os,hos,hcs⟩
 have hstep:¬((rawPart none == rawInt 0)=true):=Bool.false_ne_true;have hsame:Builtin.List.listSameRef (.ref l) (.ref b)=false:=by
  unfold Builtin.List.listSameRef;exact beq_eq_false_iff_ne.mpr hne
 have hmax:(max (a:Int) (c:Int)).toNat=c:=by omega
 have hz':((fun xs:Array Value=>xs.extract 0 a++new++xs.extract c xs.size) items).size≤sizeLine+1:=by
  simp only [Array.size_append,Array.size_extract];omega
 unfold setItem
 try with_reducible refine wpAny_holding ?_
 first | refine wpAny_bind (wpAny_pure ?_) | skip
 refine wpAny_bind (wpAny_sequenceKey hl.typeIs (by decide) ?_);refine wpAny_bind (wpAny_callSpecial?_slot (name:=Str.ofString "__setitem__") hl.typeIs slot_list_setitem
  (wpAny_call_entry slot_list_setitem hl.typeIs entry_list_setitem ?_ (args_list_setitem _ _ _)))
 show wpAny _ _ (Builtin.List.listSubscript? (.ref sl) >>= _) _ _ s;refine wpAny_bind ?_;unfold Builtin.List.listSubscript?;refine wpAny_bind (wpAny_specialOf hTs slice_no_index ?_);simp only [Option.isNone_none,if_true];refine wpAny_pure ?_;show wpAny _ _ (typeOf (.ref sl) >>= _) _ _ s;refine wpAny_bind (wpAny_typeOf hTs ?_)
 first
  | rw [if_neg (by decide)]
  | refine PySem.W.KFB.if_not (by decide) ?_
 rw [listSliceParts_eq];refine wpAny_bind (wpAny_bind (wpAny_field hos hds (x:=.none) rfl (wpAny_bind (wpAny_listPart .none ?_))));rw [if_neg hstep];refine wpAny_bind (wpAny_field hos hds (x:=vl) rfl (wpAny_bind (wpAny_listPart pl ?_)));refine wpAny_bind (wpAny_field hos hds (x:=vu) rfl (wpAny_bind (wpAny_listPart pu (wpAny_pure ?_))))
 first
  | simp only [hsame,Bool.false_eq_true,if_false]
  | refine PySem.W.KFB.if_not hsame ?_
  | (dsimp only
     rw [if_neg (by rw [hsame];exact Bool.false_ne_true)])
 refine wpAny_bind (m:=Builtin.List.listAllItems (.ref b) "must assign iterable to extended slice") ?_;unfold Builtin.List.listAllItems;refine wpAny_bind (wpAny_typeOf hb.typeIs ?_)
 first
  | refine PySem.W.KFB.if_so (by decide) ?_
  | rw [if_pos (by decide)]
  | simp only [beq_self_eq_true,Bool.true_or,if_true]
 unfold Builtin.List.listItems;refine wpAny_bind (wpAny_seqItems e2 rfl (wpAny_pure ?_));refine wpAny_bind (wpAny_bind (wpAny_seqItems e rfl (wpAny_pure ?_)));refine wpAny_bind (wpAny_of_eq ((sliceIndices_raw (some (a:Int)) (some (c:Int)) none items.size (by simp)).trans (congrArg (pure:Int×Int×Int→Sem (Int×Int×Int)) (zhf hac hc))) ?_);show wpAny _ _ (if ((1:Int) == 1)=true then _ else _) _ _ s;rw [if_pos (by decide)];refine wpAny_bind (wpAny_rule ?_)
 first
  | simp only [zeU hsz,Bool.false_eq_true,if_false]
  | refine PySem.W.KFB.if_not (zeU hsz) ?_
 first | refine wpAny_bind (wpAny_pure ?_) | skip
 show wpAny _ _ (updateSeq l (fun xs=>xs.extract 0 ((a:Int)).toNat++new++xs.extract (max (a:Int) (c:Int)).toNat xs.size) >>= _) _ _ s;rw [hmax,Int.toNat_natCast];refine wpAny_bind (wpAny_updateSeq (hz:=Nat.le_trans (Nat.le_add_right _ _) hsz) (_hz':=hz') e rfl ?_);refine wpAny_bind (wpAny_letGo ?_)
 first
  | exact wpAny_bind (wpAny_pure (wpAny_pure ⟨.none,rfl,wpAny_pure h⟩))
  | exact wpAny_pure ⟨.none,rfl,wpAny_pure h⟩
end
section
variable {X:Cx}
end
end L2
namespace Att
open PySem PySem.W PySem.Calls PyProof.Rows
theorem zd9 {P:Params} {h:Heap}:∀ (ns:List Int) (vs:List Value),WellAll P h vs (ns.map WData.int)→IntsAre vs ns:=by
 intro ns
 induction ns with
 | nil =>
   intro vs w;rw [List.map_nil] at w
   cases w
   exact .nil
 | cons n ns ih =>
   intro vs w;rw [List.map_cons] at w
   cases w with
   | cons a b =>
     cases a
     exact .cons _ _ (ih _ b)
theorem zh6 {l:OpenLaw} {n:Nat} (hn:l.most=some n) {P:Params} {h:Heap} {args:List WData} {vals:List Value}
  (hpre:l.row.toRowW.claim.pre args=true) (hwl:WellAll P h vals args) :
  ∃ a vs ns,vals=[Value.ref a]∧args=[WData.list (ns.map WData.int)]∧h.get? a=some { cls:=.type "list",data:=.seq vs.toArray }∧IntsAre vs ns∧ns.length≤n:=by
 have hsh:WShape.hasAll [] args [.list .int]=true:=(pre_splitW hpre).1;have hc:l.pre.holds [] { args:=args }=true:=(pre_splitW hpre).2;obtain ⟨d,r,rfl,h1,h2⟩:=hasAllW_cons hsh;obtain rfl:=hasAllW_nil h2;obtain ⟨xs,rfl,h3⟩:=hasW_list h1;obtain ⟨ns,rfl⟩:=items_int h3;have hlen:ns.length≤n:=by
  unfold OpenLaw.pre at hc;have h4:(WTm.not (.lt (.lit (.int (n:Int))) (.len (.arg 0)))).holds [] { args:=[.list (ns.map .int)] }=true:=by
   have h4:=(holds_andW hc).1;rw [hn] at h4;exact h4
  have h5:=condW_of h4 (w_not (w_lt w_lit (w_len_list (w_arg rfl))));rw [List.length_map] at h5;refine Nat.le_of_not_lt fun q=>?_;have q':(n:Int) < ((ns.length:Nat):Int):=by omega
  first
   | (rw [decide_eq_true q'] at h5;exact absurd h5 (by decide))
   | (simp at h5;omega)
 cases hwl with
 | cons w1 w2 =>
   cases w2
   cases w1 with
   | list ho hall=>exact ⟨_,_,ns,rfl,rfl,ho,zd9 ns _ hall,hlen⟩
theorem zh7 (l:OpenLaw) (args:List WData):l.row.toRowW.claim.post args (.bool true) args=true :=
 postW_of (r:=l.row.toRowW) (X:=(true == true))
  (show WShape.has [] (.bool true) .bool=true by first | rfl | decide | simp [WShape.has,WShape.arms,WShape.armsAll])
  (show (WTm.eq .res (.lit (.bool true))).value [] { args:=args,res:=some (.bool true),after:=args }=some (.bool (true == true)) from w_eq_bool (w_res rfl) w_lit) rfl
theorem attach_call {l:OpenLaw} {n:Nat} {q:Program} {loose:List Str} {XP:(Str→Option Value)→Heap→Prop} {YP:World→Heap→Prop} {d:DefRec}
  (hn:l.most=some n) (hdf:d.params.defaults=[])
  (call:∀ (w:World) (s₀ s₁:Shared) (mg mb:Str→Option Value) (fa:Addr) (o:Obj) (pm cd doc:Value) (a:Addr) (vs:List Value) (ns:List Int),
   Ground q loose [] XP w s₀ mg mb s₁.heap→YP w s₁.heap →
   s₁.heap.get? fa=some o→o.data=.func (docDef d.name d.params d.body d.scope pm cd doc)→s₁.heap.CodeRec cd d.name→mg d.name=some (.ref fa) →
   s₁.heap.get? a=some { cls:=.type "list",data:=.seq vs.toArray }→IntsAre vs ns→ns.length≤n→s₁.gens=#[] →
   codeAny (model l.prog w) callerA (.call (.ref fa) ⟨[.ref a],[]⟩) (fun r s'=>r=.ok (.ret (.bool true))∧OldK s₁.heap s'.heap∧s'.os=s₁.os∧AllBare s'.gens) s₁) :
  WalkO q loose XP YP l.row.toRowW d [] (fun f vs=>PySem.call f vs):=by
 intro w s₀ s₁ mg mb G Y fa o pm cd doc dV kV ho hd hcd hD hmg hg args vals as hpre hlay hrd hwl hlo;obtain rfl:dV=.none:=Dflts.none hD hdf;obtain rfl:kV=.none:=Dflts.noKw hD;obtain ⟨a,vs,ns,rfl,rfl,hobj,hints,hlen⟩:=zh6 hn hpre hwl;refine enter_call (codeAny_mono (call w s₀ s₁ mg mb fa o pm cd doc a vs ns G Y ho (fd_plain hd) hcd hmg hobj hints hlen hg) fun r s' hq=>?_);obtain ⟨rfl,h2,h3,h4⟩:=hq;exact ⟨.inl ⟨.bool true,.bool true,[],rfl,fun _=>rfl,.bool true,zh7 l _,fun _=>⟨List.Pairwise.nil,fun _ hm=>(nomatch hm)⟩⟩,h2,h3,h4⟩
section
variable {prog:Program} {w:World} {A:Around} {E:Value→Shared→Prop} {s:Shared} {K:Frag}
end
end Att
namespace L2
open PySem PySem.Spec PyProof.Rows
theorem vals_ints:∀ {vs:List Value} {ns:List Int},IntsAre vs ns→Vals (ns.map V.int) vs
 | _,_,.nil=>.nil
 | _,_,.cons n t h=>.cons ⟨t,rfl⟩ (vals_ints h)
def Only (H:Hp):Prop:=∀ b,H b=none∨∃ o xs,H b=some (.frz o (.lst xs))
theorem zje {P:Program} {w:World} {K:PySem.W.Frag} {mg mb:Str→Option Value} {CX:CXT} {k:Nat} {fa a:Addr} {fd:FuncData} {x:Str} {sp:Sp} {s₁:Shared} {vs:List Value} {ns:List Int}
  (KX:K.In s₁.heap) (hns:s₁.heap.Ns mainGlobals mg) (hb:s₁.heap.Ns builtinsNs mb) (hbb:∀ x:Str,x≠"__name__"→mb x=bootBuiltins x) (hlim:s₁.heap.NoLimit) (hg:s₁.gens=#[])
  (ha:s₁.heap.get? a=some { cls:=.type "list",data:=.seq vs.toArray }) (hi:IntsAre vs ns) (hl:ns.length≤sizeLine) (hr:Room k callerA)
  (F:∀ base:Heap,K.In base→base.Ns mainGlobals mg→FnOk P w K mg base CX k fa fd [x] sp) (hbind:∀ (s:Shared) (u:Value),BindsTo s fd ⟨[u],[]⟩ [(x,u)])
  (hsp:∀ H:Hp,Only H→SqL K H a (ns.map V.int)→sp [.ref a] H (fun v _=>v=.bl true) fun _ _ _=>False)
  (hCX:∀ H e s',CX [] H s₁ (fun _ _ _=>False) e s'→False) :
  codeAny (model P w) callerA (.call (.ref fa) ⟨[.ref a],[]⟩) (fun r s'=>r=.ok (.ret (.bool true))∧OldK s₁.heap s'.heap∧s'.os=s₁.os∧AllBare s'.gens) s₁:=by
 have rv:=vals_ints hi;have lenV:=hi.length;have core:∀ H:Hp,Only H→SqL K H a (ns.map V.int)→HOk P w H s₁.heap→(∀ b,H b≠none→b=a)→(H a≠none→K.lookup a=none) →
   codeAny (model P w) callerA (.call (.ref fa) ⟨[.ref a],[]⟩) (fun r s'=>r=.ok (.ret (.bool true))∧OldK s₁.heap s'.heap∧s'.os=s₁.os∧AllBare s'.gens) s₁:=by
  intro H hO hS hok hA hK;have base_of:∀ {b:Addr} {o:Obj},s₁.heap.get? b=some o→H b=none→(hidT s₁.heap H).get? b=some o:=fun e n=>zi4 e n;have noA:∀ {b:Addr} {o:Obj} {es:Array DictEntry} {ep:Nat},s₁.heap.get? b=some o→o.data=.dict es ep→H b=none:=fun {b o es ep} e d=>by
   cases q:H b with
   | none=>rfl
   | some u =>
     have e':b=a:=hA b (by rw [q];simp);subst e';rw [ha] at e;cases e
     have d':Data.seq vs.toArray _=Data.dict es ep:=d
     cases d'
  have nsK:∀ {b:Addr} {m:Str→Option Value},s₁.heap.Ns b m→(hidT s₁.heap H).Ns b m:=fun {b m} ⟨o,es,ep,e,d,r⟩=>⟨o,es,ep,base_of e (noA e d),d,r⟩
  have hKb:K.In (hidT s₁.heap H):=fun b o e=>base_of (KX b o e) (by
   cases q:H b with
   | none=>rfl
   | some u =>
     have e':b=a:=hA b (by rw [q];simp);subst e';rw [hK (by rw [q];simp)] at e;cases e)
  have hM:Mod K mg (hidT s₁.heap H):=⟨hKb,nsK hns,⟨mb,nsK hb,hbb⟩,let ⟨mc,h1,h2⟩:=hlim;⟨mc,nsK h1,h2⟩⟩
  have e0:Env0 P w K mg (hidT s₁.heap H) callerA [] s₁ H:=⟨rfl,hM,fun b o e=>zke e,Nat.le_of_eq (zhP _ _),trivial,fun b hb=>absurd (show b∈([]:List Addr) from hb) (by simp),hok,.of_eq hg⟩
  refine codeAny_mono ((F _ hKb (nsK hns)).run callerA [] s₁ H ⟨[.ref a],[]⟩ [.ref a] [.ref a] _ _ hr e0 (hbind s₁ (.ref a)) (.cons rfl .nil) (hsp H hO hS)) fun r s' h=>?_
  cases r with
  | error e=>exact (hCX H e s' h).elim
  | ok fl =>
    cases fl with
    | next=>exact False.elim h
    | brk=>exact False.elim h
    | cont=>exact False.elim h
    | ret u =>
      obtain ⟨v,H',os,bare,un,hok',r',q⟩:=h;have q':v=.bl true:=q;subst q';obtain rfl:u=Value.bool true:=r';refine ⟨rfl,OldK.of_keep fun b o e=>?_,os,bare⟩
      cases q:H b with
      | none=>exact un.keep b o e q (by intro z;exact absurd (show b∈([]:List Addr) from z) (by simp)) (by simp)
      | some u =>
        rcases hO b with z | ⟨ob,xs,z⟩
        ·rw [q] at z;cases z
        ·have z2:=un.frzs b ob _ z;obtain ⟨e1,_⟩:=hok b _ z;obtain ⟨e2,_⟩:=hok' b _ z2;rw [e] at e1;cases e1
         exact e2
 cases hk:K.lookup a with
 | some o =>
   have e:=KX a o hk;rw [ha] at e
   cases e
   refine core (fun _=>none) (fun _=>.inl rfl) (.inr ⟨_,vs.toArray,_,hk,rfl,rfl,rfl,by rw [List.size_toArray,lenV];exact hl,by simpa using rv⟩) (fun b u z=>by have z':(none:Option HO)=some u:=z;cases z') (fun b z=>absurd rfl z) fun z=>absurd rfl z
 | none =>
   refine core (fun b=>if b=a then some (.frz { cls:=.type "list",data:=.seq vs.toArray } (.lst (ns.map V.int))) else none) (fun b=>?_) (.inl (.inr ⟨{ cls:=.type "list",data:=.seq vs.toArray },if_pos rfl⟩)) (fun b u z=>?_) (fun b z=>?_) fun _=>hk
   ·by_cases hb:b=a
    ·exact .inr ⟨_,_,if_pos hb⟩
    ·exact .inl (if_neg hb)
   ·by_cases hb:b=a
    ·have z':=(if_pos hb).symm.trans z
     cases z'
     subst hb;exact ⟨ha,by rw [List.length_map];exact hl,vs,_,rv,ha⟩
    ·have z':=(if_neg hb).symm.trans z
     cases z'
   ·by_cases hb:b=a
    ·exact hb
    ·exact absurd (if_neg hb) z
end L2
namespace L2
open PySem PySem.Spec PyProof.Rows
theorem zkt {l:PySem.W.OpenLaw} {n k:Nat} {q:Program} {loose:List Str} {XP:(Str→Option Value)→Heap→Prop} {YP:World→Heap→Prop} {d:DefRec} {K:Params→PySem.W.Frag} {CX:World→CXT} {sp:World→Sp} {x:Str}
  (hn:l.most=some n) (hn2:n≤sizeLine) (hdf:d.params.defaults=[]) (hr:Room k callerA)
  (hY:∀ (w:World) (h:Heap),YP w h→(K w.params).In h)
  (F:∀ (w:World) (mg:Str→Option Value) (fa:Addr) (h:Heap),(K w.params).In h→h.Ns mainGlobals mg→mg d.name=some (.ref fa) →
   ∃ fd:FuncData,(∀ (s:Shared) (u:Value),BindsTo s fd ⟨[u],[]⟩ [(x,u)]) ∧
    ∀ base:Heap,(K w.params).In base→base.Ns mainGlobals mg→FnOk l.prog w (K w.params) mg base (CX w) k fa fd [x] (sp w))
  (hsp:∀ (w:World) (H:Hp) (a:Addr) (ns:List Int),ns.length≤n→Only H→SqL (K w.params) H a (ns.map V.int)→sp w [.ref a] H (fun v _=>v=.bl true) fun _ _ _=>False)
  (hCX:∀ (w:World) (H:Hp) (s:Shared) (e:Value) (s':Shared),CX w [] H s (fun _ _ _=>False) e s'→False) :
  PySem.W.WalkO q loose XP YP l.row.toRowW d [] (fun f vs=>PySem.call f vs):=by
 refine Att.attach_call hn hdf fun w s₀ s₁ mg mb fa o pm cd doc a vs ns G Y ho hd hcd hmg hobj hints hlen hg=>?_;have KX:=hY w _ Y;obtain ⟨fd,hb,hF⟩:=F w mg fa _ KX G.T.g hmg;exact zje KX G.T.g G.T.b G.T.builtins G.T.nolimit hg hobj hints (Nat.le_trans hlen hn2) hr hF hb (fun H hO hS=>hsp w H a ns hlen hO hS) fun H e s'=>hCX w H s₁ e s'
end L2
namespace L2
open PySem PySem.Spec PyProof.Rows
def za6 (s:Stmt) (j:Nat):Stmt:=match s with
 | .ClassDef _ _ _ body _ _ _ _ _ _ _=>body.getD j (.Pass ⟨0,0,0,0⟩)
 | _=>.Pass ⟨0,0,0,0⟩
def zam (s:Stmt):Arguments:=match s with
 | .FunctionDef _ a _ _ _ _ _ _ _ _=>a
 | _=>{ posonlyargs:=[],args:=[],vararg:=none,kwonlyargs:=[],kw_defaults:=[],kwarg:=none,defaults:=[] }
def zak (s:Stmt):List Stmt:=match s with
 | .FunctionDef _ _ b _ _ _ _ _ _ _=>b
 | _=>[]
def zab (s:Stmt):Scope:=match s with
 | .FunctionDef _ _ _ _ _ _ sc _ _ _=>sc
 | _=>{ kind:=.function,names:=[],isGenerator:=false,isCoroutine:=false }
abbrev CX0:CXT:=fun _ _ _ _ _ _=>False
abbrev E0:XK:=fun _ _ _=>False
theorem zav {X:Cx}:zdL CX0 X E0:=fun _ _ _ _ _ _ _ h=>h.elim
structure Fun (K:PySem.W.Frag) (x qual:Str) (st:Stmt) (f:Addr) (fd:FuncData):Prop where
 ex:∃ (oc:Value) (od:Option Addr) (kV doc pm:Value) (an:Option Addr) (cdv ct:Value) (osl:Array (Option Value)),
  fd=PySem.W.fnOf x qual (zam st) (zak st) (zab st) .none kV doc pm an cdv ct∧K.lookup f=some ⟨oc,od,.func fd,osl⟩∧PySem.W.codeIn K cdv qual=true
 kp:PySem.W.keepIn K (.ref f)=true
section
variable {P:Program} {w:World} {K:PySem.W.Frag} {mg:Str→Option Value} {base:Heap}
theorem Fun.ok {x qual:Str} {st:Stmt} {f:Addr} {fd:FuncData} {N ps:List Str} {k:Nat} {sp:Sp} (F:Fun K x qual st f fd) (S:zao N ps (zab st)) (len:∀ vs H Q E,sp vs H Q E→vs.length=ps.length)
  (hbody:∀ (cdv:Value) (A:Around) (outer:List Env) (s:Shared) (H:Hp) (vs:List V) (Q:VK) (E:XK),Room k (A.deeper (envOfC qual (zab st) s.heap.objs.size f cdv))→sp vs H Q E →
   ∃ t,PSs (cxOf CX0 P w K mg base N qual (zab st) f cdv A outer s H E).nox (zak st) t∧t { nx:=fun _ H'=>Q .non H',rt:=Q } (start N vs) H):FnOk P w K mg base CX0 (k+1) f fd ps sp:=by
 obtain ⟨oc,od,kV,doc,pm,an,cdv,ct,osl,rfl,lk,hcd⟩:=F.ex;refine zmo lk hcd S len fun A outer s H vs Q E hr hsp=>?_;obtain ⟨t,h,q⟩:=hbody cdv A outer s H vs Q E hr hsp;exact ⟨t,h.nox,q⟩
theorem Fun.binds {x qual:Str} {st:Stmt} {f:Addr} {fd:FuncData} {ps:List Str} (F:Fun K x qual st f fd)
  (h:∀ (kV doc pm:Value) (an:Option Addr) (cdv ct:Value) (us:List Value),us.length=ps.length→bindArgs (PySem.W.fnOf x qual (zam st) (zak st) (zab st) .none kV doc pm an cdv ct) ⟨us,[]⟩=pure (ps.zip us)):Binds K fd ps []:=by
 obtain ⟨oc,od,kV,doc,pm,an,cdv,ct,osl,rfl,lk,hcd⟩:=F.ex;exact .all (h kV doc pm an cdv ct)
theorem zay {x qual:Str} {st:Stmt} {f:Addr} {oc:Value} {od an:Option Addr} {osl:Array (Option Value)} {kV doc pm cdv ct:Value} (l:K.lookup f=some ⟨oc,od,.func (PySem.W.fnOf x qual (zam st) (zak st) (zab st) .none kV doc pm an cdv ct),osl⟩)
  (c:PySem.W.codeIn K cdv qual=true) (k:PySem.W.keepIn K (.ref f)=true):Fun K x qual st f (PySem.W.fnOf x qual (zam st) (zak st) (zab st) .none kV doc pm an cdv ct):=⟨⟨oc,od,kV,doc,pm,an,cdv,ct,osl,rfl,l,c⟩,k⟩
end
theorem zc0 {A:Around} {k:Nat} (hr:Room k A):A.units+1 < cLine:=Nat.lt_of_le_of_lt (Nat.add_le_add_left (by decide:1≤64) _) hr.units
theorem za2 {n:Nat} (h:n≤1000):n < sizeLine:=Nat.lt_of_le_of_lt h (by decide)
section
variable {X:Cx}
theorem pv (i:Nat) {x:Str} {pos:Pos} (hN:X.N[i]? = some x:=by rfl) (hv:Vis X.env.scope x:=by first | exact Or.inl rfl | exact Or.inr (Or.inl rfl) | exact Or.inr (Or.inr rfl)) (hd:(x == ("__debug__" : Str))=false:=by decide)
  (hcd:(x == ("__classdict__" : Str))=false:=by decide):PE X (.Name x pos) (tVar i):=zk3 hN hv hd hcd
end
theorem iteF {A B:Prop} (h:B):if false=true then A else B:=by
 rw [if_neg Bool.false_ne_true];exact h
theorem iteT {A B:Prop} (h:A):if true=true then A else B:=by
 rw [if_pos rfl];exact h
def Same (H H':Hp):Prop:=∀ b o,H b=some o→H' b=some o
theorem Same.refl (H:Hp):Same H H:=fun _ _ h=>h
theorem Same.trans {H H1 H2:Hp} (a:Same H H1) (b:Same H1 H2):Same H H2:=fun c o h=>b c o (a c o h)
theorem Same.free {H H':Hp} (e:Same H H') {l:Addr} (h:H' l=Option.none):H l=Option.none:=by
 cases q:H l with
 | none=>rfl
 | some o =>
   rw [e l o q] at h
   cases h
theorem Same.seq {K:PySem.W.Frag} {H H':Hp} {a:Addr} {xs:List V} (e:Same H H') (h:SqL K H a xs):SqL K H' a xs:=by
 rcases h with (h | ⟨o,h⟩) | h
 ·exact .inl (.inl (e _ _ h))
 ·exact .inl (.inr ⟨o,e _ _ h⟩)
 ·exact .inr h
end L2
namespace L2
open PySem PySem.Spec PyProof.Rows
section
variable {κ:Type} [DecidableEq κ]
def valV (kvs:List (κ×V)) (k:κ):Option V:=(kvs.find? fun kv=>decide (kv.1=k)).map (·.2)
def putK (kvs:List (κ×V)) (k:κ) (v:V):List (κ×V) :=
 if (kvs.any fun kv=>decide (kv.1=k))=true then kvs.map (fun kv=>if kv.1=k then (kv.1,v) else kv) else kvs++[(k,v)]
theorem zbn {p:κ×V} {r:List (κ×V)} {k:κ} (e:p.1=k):valV (p::r) k=some p.2:=by simp [valV,List.find?_cons,e]
theorem zbo {p:κ×V} {r:List (κ×V)} {k:κ} (e:¬p.1=k):valV (p::r) k=valV r k:=by simp [valV,List.find?_cons,e]
theorem zdg (k:κ):∀ kvs:List (κ×V),(kvs.any fun kv=>decide (kv.1=k))=(valV kvs k).isSome
 | []=>rfl
 | p::r=>by
   rw [List.any_cons]
   by_cases e:p.1=k
   ·simp only [zbn e,decide_eq_true e,Bool.true_or,Option.isSome_some]
   ·rw [zbo e,decide_eq_false e,Bool.false_or];exact zdg k r
theorem zgI (k j:κ) (y:V):∀ kvs:List (κ×V),valV (kvs.map fun kv=>if kv.1=k then (kv.1,y) else kv) j=(valV kvs j).map fun x=>if j=k then y else x
 | []=>rfl
 | p::r=>by
   have ih:=zgI k j y r;rw [List.map_cons]
   by_cases h:p.1=k
   ·rw [if_pos h]
    by_cases e:p.1=j
    ·rw [zbn (p:=(p.1,y)) e,zbn e,Option.map_some,if_pos (e.symm.trans h)]
    ·rw [zbo (p:=(p.1,y)) e,zbo e,ih]
   ·rw [if_neg h]
    by_cases e:p.1=j
    ·rw [zbn (p:=p) e,zbn e,Option.map_some,if_neg (fun z=>h (e.trans z))]
    ·rw [zbo (p:=p) e,zbo e,ih]
theorem zfk (k j:κ) (y:V):∀ kvs:List (κ×V),valV kvs k=none→valV (kvs++[(k,y)]) j=if j=k then some y else valV kvs j
 | [],_=>by
   by_cases e:k=j
   ·rw [if_pos e.symm];exact zbn (p:=(k,y)) e
   ·rw [if_neg (fun z=>e z.symm)];exact zbo (p:=(k,y)) e
 | p::r,hn=>by
   rw [List.cons_append];have hk:¬p.1=k:=fun z=>by rw [zbn z] at hn;cases hn
   rw [zbo hk] at hn;have ih:=zfk k j y r hn
   by_cases e:p.1=j
   ·rw [zbn e,zbn e,if_neg (fun z=>hk (e.trans z))]
   ·rw [zbo e,zbo e,ih]
theorem zjf (kvs:List (κ×V)) (k j:κ) (y:V):valV (putK kvs k y) j=if j=k then some y else valV kvs j:=by
 unfold putK
 by_cases a:(kvs.any fun kv=>decide (kv.1=k))=true
 ·rw [if_pos a,zgI];rw [zdg] at a
  by_cases e:j=k
  ·obtain ⟨x,hx⟩:=Option.isSome_iff_exists.mp a;rw [if_pos e,e,hx,Option.map_some,if_pos rfl]
  ·rw [if_neg e]
   cases valV kvs j with
   | none=>rfl
   | some x=>rw [Option.map_some,if_neg e]
 ·rw [if_neg a];refine zfk k j y kvs ?_;rw [zdg] at a
  cases q:valV kvs k with
  | none=>rfl
  | some x=>rw [q] at a;exact (a rfl).elim
theorem zc1 (kvs:List (κ×V)) (k:κ) (v:V):(putK kvs k v).length≤kvs.length+1:=by
 unfold putK;split
 ·rw [List.length_map];omega
 ·rw [List.length_append,List.length_cons,List.length_nil];omega
theorem zjg {kvs:List (κ×V)} {k:κ} (v:V) (h:valV kvs k=none):putK kvs k v=kvs++[(k,v)]:=by
 unfold putK;rw [zdg,h];exact if_neg (by decide)
theorem RelO.isSome_eq {o:Option V} {u:Option Value} (r:RelO o u):o.isSome=u.isSome:=by
 cases o with
 | none=>cases u with
   | none=>rfl
   | some _=>exact (show False from r).elim
 | some _=>cases u with
   | none=>exact (show False from r).elim
   | some _=>rfl
theorem KV.val {kvs:List (κ×V)} {vs:List (κ×Value)} (r:KV kvs vs) (k:κ):RelO (valV kvs k) (valueAt vs k):=by
 unfold KV at r
 induction r with
 | nil=>exact True.intro
 | @cons p q ps qs h t ih =>
   obtain ⟨h1,h2⟩:=h
   by_cases e:p.1=k
   ·have e':q.1=k:=h1.symm.trans e;have b:valueAt (q::qs) k=some q.2:=by simp [valueAt,List.find?_cons,e']
    rw [zbn e,b];exact h2
   ·have e':¬q.1=k:=fun z=>e (h1.trans z);have b:valueAt (q::qs) k=valueAt qs k:=by simp [valueAt,List.find?_cons,e']
    rw [zbo e,b];exact ih
theorem KV.any {kvs:List (κ×V)} {vs:List (κ×Value)} (r:KV kvs vs) (k:κ):(kvs.any fun kv=>decide (kv.1=k))=vs.any fun kv=>decide (kv.1=k):=by
 unfold KV at r
 induction r with
 | nil=>rfl
 | cons h t ih=>rw [List.any_cons,List.any_cons,ih,h.1]
theorem KV.repl {kvs:List (κ×V)} {vs:List (κ×Value)} (r:KV kvs vs) (k:κ) {y:V} {u:Value} (ry:RelV y u) :
  KV (kvs.map fun kv=>if kv.1=k then (kv.1,y) else kv) (vs.map fun kv=>if kv.1=k then (kv.1,u) else kv):=by
 unfold KV at r ⊢
 induction r with
 | nil=>exact .nil
 | @cons p q ps qs h t ih =>
   rw [List.map_cons,List.map_cons];refine .cons ?_ ih;obtain ⟨h1,h2⟩:=h
   by_cases e:p.1=k
   ·rw [if_pos e,if_pos (h1.symm.trans e)];exact ⟨h1,ry⟩
   ·rw [if_neg e,if_neg (fun z=>e (h1.trans z))];exact ⟨h1,h2⟩
theorem KV.put {kvs:List (κ×V)} {vs:List (κ×Value)} (r:KV kvs vs) (k:κ) {y:V} {u:Value} (ry:RelV y u):KV (putK kvs k y) (stored vs k u):=by
 unfold putK stored;rw [r.any k]
 by_cases e:(vs.any fun kv=>decide (kv.1=k))=true
 ·rw [if_pos e,if_pos e];exact r.repl k ry
 ·rw [if_neg e,if_neg e];exact Paired.snoc r ⟨rfl,ry⟩
theorem KV.length {kvs:List (κ×V)} {vs:List (κ×Value)} (r:KV kvs vs):kvs.length=vs.length:=Paired.length r
end
theorem zh8 {P:Program} {w:World} {k:Key} {u:Value} (r:RelV (kV k) u):(zbw P w).is k u=true:=by
 cases k with
 | inl i=>obtain ⟨t,e⟩:=(show ∃ t,u=Value.int i t from r);subst e;exact zfX P w i t
 | inr x=>obtain ⟨t,e⟩:=(show ∃ t,u=Value.str x t from r);subst e;exact zfY P w x t
theorem zfl {P:Program} {w:World}:∀ {ks:List Key} {us:List Value},Vals (ks.map kV) us→ItemsAre (zbw P w) ks us
 | [],_,r=>by rw [List.map_nil] at r;cases r;exact .nil
 | k::ks,_,r=>by
   rw [List.map_cons] at r
   cases r with
   | cons h t=>exact .cons (zh8 h) (zfl t)
abbrev KT (H:Hp):List (List Key×V)→List (List Key×Addr×Value)→Prop:=Paired fun p q=>p.1=q.1∧H q.2.1=some (.tup (p.1.map kV))∧RelV p.2 q.2.2
theorem KT.val {H:Hp} {kvs:List (List Key×V)} {xs:List (List Key×Addr×Value)} (r:KT H kvs xs) (k:List Key):RelO (valV kvs k) ((atKey xs k).map (·.2)):=by
 induction r with
 | nil=>exact True.intro
 | @cons p q ps qs h t ih =>
   obtain ⟨h1,_,h2⟩:=h
   by_cases e:p.1=k
   ·have e':q.1=k:=h1.symm.trans e;have b:atKey (q::qs) k=some q.2:=by simp [atKey,List.find?_cons,e']
    rw [zbn e,b];exact h2
   ·have e':¬q.1=k:=fun z=>e (h1.trans z);have b:atKey (q::qs) k=atKey qs k:=by simp [atKey,List.find?_cons,e']
    rw [zbo e,b];exact ih
theorem KT.repl {H:Hp} {kvs:List (List Key×V)} {xs:List (List Key×Addr×Value)} (r:KT H kvs xs) (k:List Key) {y:V} {u:Value} (ry:RelV y u) :
  KT H (kvs.map fun kv=>if kv.1=k then (kv.1,y) else kv) (xs.map (putAt k u)):=by
 induction r with
 | nil=>exact .nil
 | @cons p q ps qs h t ih =>
   rw [List.map_cons,List.map_cons];refine .cons ?_ ih;obtain ⟨h1,h2,h3⟩:=h;unfold putAt
   by_cases e:p.1=k
   ·rw [if_pos e,if_pos (h1.symm.trans e)];exact ⟨h1,h2,ry⟩
   ·rw [if_neg e,if_neg (fun z=>e (h1.trans z))];exact ⟨h1,h2,h3⟩
theorem KT.put {H:Hp} {kvs:List (List Key×V)} {xs:List (List Key×Addr×Value)} (r:KT H kvs xs) (k:List Key) {b:Addr} {y:V} {u:Value} (hb:H b=some (.tup (k.map kV))) (ry:RelV y u) :
  KT H (putK kvs k y) (storedH xs k b u):=by
 have e:(kvs.any fun kv=>decide (kv.1=k))=(atKey xs k).isSome:=by
  rw [zdg,(r.val k).isSome_eq,Option.isSome_map]
 unfold putK storedH;rw [e]
 by_cases q:(atKey xs k).isSome=true
 ·rw [if_pos q,if_pos q];exact r.repl k ry
 ·rw [if_neg q,if_neg q];exact Paired.snoc r ⟨rfl,hb,ry⟩
theorem KT.keeps {H H':Hp} {kvs:List (List Key×V)} {xs:List (List Key×Addr×Value)} (r:KT H kvs xs) (ht:∀ b ys,H b=some (.tup ys)→H' b=some (.tup ys)):KT H' kvs xs :=
 Paired.mapP r fun _ _ z=>⟨z.1,ht _ _ z.2.1,z.2.2⟩
section
variable {P:Program} {w:World} {H:Hp} {h:Heap} {a:Addr}
theorem zlg {u:HO} (ok:HOk P w H h) (e:Rd H a u):zbI P w H h a u:=e.ok ok
theorem zh9 {kvs:List (Key×V)} (ok:HOk P w H h) (e:Rd H a (.dK kvs)):kvs.length≤sizeLine∧(a == sysModules)=false∧∃ vs,KV kvs vs∧h.DictOf (zbw P w) a vs :=
 show zbI P w H h a (.dK kvs) from zlg ok e
theorem zmq {kvs:List (Key×V)} (ok:HOk P w H h) (e:H a=some (.dK kvs)):kvs.length≤sizeLine∧(a == sysModules)=false∧∃ vs,KV kvs vs∧h.DictOf (zbw P w) a vs:=zh9 ok (.inl e)
theorem zfm {ks:List Key} (ok:HOk P w H h) (e:H a=some (.tup (ks.map kV))):(tupleKind (zbw P w)).is h ks a:=by
 obtain ⟨_,its,r,o,h1,h2,n,h3⟩:=(show zbI P w H h a (.tup (ks.map kV)) from ok a _ e)
 exact ⟨o,its.toArray,n,h1,h2,h3,by simpa using zfl r⟩
theorem zia {kvs:List (List Key×V)} (ok:HOk P w H h) (e:Rd H a (.dT kvs)):kvs.length≤sizeLine∧(a == sysModules)=false ∧
  ∃ xs,KT H kvs xs∧h.DictOfH (tupleKind (zbw P w)) a xs:=by
 obtain ⟨z,y,xs,r,o,es,ep,h1,h2,h3,h4,h5⟩:=(show zbI P w H h a (.dT kvs) from zlg ok e)
 refine ⟨z,y,xs,r,o,es,ep,h1,h2,h3,h4,fun x hx=>?_,h5⟩;have all:∀ {l:List (List Key×V)} {m:List (List Key×Addr×Value)},KT H l m→∀ x∈m,(tupleKind (zbw P w)).is h x.1 x.2.1:=by
  intro l m q
  induction q with
  | nil=>intro x hx;exact nomatch hx
  | @cons p q ps qs hq t ih =>
    intro x hx;rcases List.mem_cons.mp hx with e | hx
    ·subst e;exact zfm ok (by rw [← hq.1];exact hq.2.1)
    ·exact ih x hx
 exact all r x hx
theorem zmr {kvs:List (List Key×V)} (ok:HOk P w H h) (e:H a=some (.dT kvs)):kvs.length≤sizeLine∧(a == sysModules)=false ∧
  ∃ xs,KT H kvs xs∧h.DictOfH (tupleKind (zbw P w)) a xs:=zia ok (.inl e)
end
def DGet (H:Hp) (a:Addr) (y:V) (r:Option V):Prop :=
 (∃ kvs k,Rd H a (.dK kvs)∧y=kV k∧r=valV kvs k)∨∃ kvs k b,Rd H a (.dT kvs)∧y=.ref b∧H b=some (.tup (k.map kV))∧r=valV kvs k
def DPut (H:Hp) (a:Addr) (y v:V) (H':Hp):Prop :=
 (∃ kvs k,H a=some (.dK kvs)∧y=kV k∧kvs.length < sizeLine∧H'=upd H a (.dK (putK kvs k v))) ∨
 ∃ kvs k b,H a=some (.dT kvs)∧y=.ref b∧H b=some (.tup (k.map kV))∧kvs.length < sizeLine∧H'=upd H a (.dT (putK kvs k v))
theorem DGet.k {H:Hp} {a:Addr} {kvs:List (Key×V)} {k:Key} (e:H a=some (.dK kvs)):DGet H a (kV k) (valV kvs k):=.inl ⟨kvs,k,.inl e,rfl,rfl⟩
theorem DPut.k {H:Hp} {a:Addr} {kvs:List (Key×V)} {k:Key} {v:V} (e:H a=some (.dK kvs)) (hl:kvs.length < sizeLine):DPut H a (kV k) v (upd H a (.dK (putK kvs k v))):=.inl ⟨kvs,k,e,rfl,hl,rfl⟩
section
variable {X:Cx} {pins:List (Addr×Obj)} {σ:St} {H:Hp} {s:Shared} {a:Addr} {y v:V} {u r:Value} {o:Option V} {A:Around} {E:Value→Shared→Prop}
theorem Inv.big (I:Inv X pins σ H s):sysModules < s.heap.objs.size:=by
 have h:mainGlobals < s.heap.objs.size:=(I.mod.glob.keeps I.bk).lt;exact Nat.lt_trans (by decide) h
theorem zib {Q:Value→Shared→Prop} (hu:A.units+1 < cLine) (I:Inv X pins σ H s) (g:DGet H a y (some v)) (ry:RelV y u) (h:∀ w' s',Inv X pins σ H s'→RelV v w'→Q w' s') :
  wpAny (model X.prog X.w) A (getItem (.ref a) u) Q E s:=by
 rcases g with ⟨kvs,k,e,ey,l⟩ | ⟨kvs,k,b,e,ey,eb,l⟩
 ·subst ey;obtain ⟨z,hd,vs,rel,dd⟩:=zh9 I.hok e;obtain ⟨w',hw,rw'⟩:=RelO.some_of (v:=v) (o:=valueAt vs k) (by rw [l];exact rel.val k);exact wpAny_getItem_of (zh8 ry) dd.mapOf hw (h w' _ (I.tok _) rw')
 ·subst ey
  cases (show u=Value.ref b from ry)
  obtain ⟨z,hd,xs,rel,dd⟩:=zia I.hok e;obtain ⟨w',hw,rw'⟩:=RelO.some_of (v:=v) (o:=(atKey xs k).map (·.2)) (by rw [l];exact rel.val k);obtain ⟨p,hp,hp2⟩:=Option.map_eq_some_iff.mp hw;refine wpAny_getItem_heap (tupleKind_room_in1 hu) (zfm I.hok eb) dd hp ?_;rw [hp2];exact h w' _ (I.tok _) rw'
theorem d_in {Q:Value→Shared→Prop} (hu:A.units+1 < cLine) (I:Inv X pins σ H s) (g:DGet H a y o) (ry:RelV y u) (h:∀ s',Inv X pins σ H s'→Q (.bool o.isSome) s') :
  wpAny (model X.prog X.w) A (compareOp .In u (.ref a)) Q E s:=by
 rcases g with ⟨kvs,k,e,ey,l⟩ | ⟨kvs,k,b,e,ey,eb,l⟩
 ·subst ey;obtain ⟨z,hd,vs,rel,dd⟩:=zh9 I.hok e;refine wpAny_in_of (zh8 ry) hd dd.mapOf ?_;rw [← (rel.val k).isSome_eq,← l];exact h _ (I.tok _)
 ·subst ey
  cases (show u=Value.ref b from ry)
  obtain ⟨z,hd,xs,rel,dd⟩:=zia I.hok e;refine wpAny_in_heap (tupleKind_room_in1 hu) (zfm I.hok eb) hd dd ?_;have q:=(rel.val k).isSome_eq;rw [Option.isSome_map] at q;rw [← q,← l];exact h _ (I.tok _)
theorem zku {Q:Value→Shared→Prop} (hu:A.units+1 < cLine) (I:Inv X pins σ H s) (g:DGet H a y o) (ry:RelV y u) (h:∀ s',Inv X pins σ H s'→Q (.bool (!o.isSome)) s') :
  wpAny (model X.prog X.w) A (compareOp .NotIn u (.ref a)) Q E s:=by
 rcases g with ⟨kvs,k,e,ey,l⟩ | ⟨kvs,k,b,e,ey,eb,l⟩
 ·subst ey;obtain ⟨z,hd,vs,rel,dd⟩:=zh9 I.hok e;refine wpAny_notIn_of (zh8 ry) hd dd.mapOf ?_;rw [← (rel.val k).isSome_eq,← l];exact h _ (I.tok _)
 ·subst ey
  cases (show u=Value.ref b from ry)
  obtain ⟨z,hd,xs,rel,dd⟩:=zia I.hok e;refine wpAny_notIn_heap (tupleKind_room_in1 hu) (zfm I.hok eb) hd dd ?_;have q:=(rel.val k).isSome_eq;rw [Option.isSome_map] at q;rw [← q,← l];exact h _ (I.tok _)
theorem zic {h':Heap} {t':Nat} {ob:HO} (I:Inv X pins σ H s) (mu:Mut (H a)) (hs:Heap.SameBut a s.heap h') (he:∃ q,h'.get? a=some q) (new:zbI X.prog X.w (upd H a ob) h' a ob) :
  Inv X pins σ (upd H a ob) { s with heap:=h',toks:=t' } :=
 I.write (x:=a) (e:=a) mu (.inl rfl) (fun b q hb z=>(hs.2 b hb).trans z) he new
theorem zlh {P:Program} {w:World} {H':Hp} {h':Heap} {kvs:List (Key×V)} {vs:List (Key×Value)} (z:kvs.length≤sizeLine) (hd:(a == sysModules)=false) (rel:KV kvs vs) (dd:h'.DictOf (zbw P w) a vs) :
  zbI P w H' h' a (.dK kvs):=⟨z,hd,vs,rel,dd⟩
theorem zid {H':Hp} {Q:Unit→Shared→Prop} (hu:A.units+1 < cLine) (I:Inv X pins σ H s) (g:DPut H a y v H') (ry:RelV y u) (rv:RelV v r) (h:∀ s',Inv X pins σ H' s'→Q () s') :
  wpAny (model X.prog X.w) A (setItem (.ref a) u r) Q E s:=by
 rcases g with ⟨kvs,k,e,ey,l,eH⟩ | ⟨kvs,k,b,e,ey,eb,l,eH⟩
 ·subst ey eH;obtain ⟨z,hd,vs,rel,dd⟩:=zmq I.hok e;have hz:vs.length≤sizeLine:=by rw [← rel.length];exact z
  have hl:(putK kvs k v).length≤sizeLine:=by have:=zc1 kvs k v;omega
  refine wpAny_setItem_pairs (hsz:=hz) (zh8 ry) dd fun h' dd' hs=>h _ ?_;have he:∃ q,h'.get? a=some q:=let ⟨q,_,_,hq,_⟩:=dd';⟨q,hq⟩;exact zic I (by rw [e];exact True.intro) hs he (zlh hl hd (rel.put k rv) dd')
 ·subst ey eH
  cases (show u=Value.ref b from ry)
  obtain ⟨z,hd,xs,rel,dd⟩:=zmr I.hok e;have hz:xs.length≤sizeLine:=by rw [← Paired.length rel];exact z
  have hl:(putK kvs k v).length≤sizeLine:=by have:=zc1 kvs k v;omega
  refine wpAny_setItem_heap (hsz:=hz) (tupleKind_room_in1 hu) (zfm I.hok eb) dd fun h' dd' hs=>h _ ?_;obtain ⟨q,es,ep,hq,h2,h3,h4,_,h5⟩:=dd';refine zic I (by rw [e];exact True.intro) hs ⟨q,hq⟩ ⟨hl,hd,_,(rel.put k eb rv).keeps fun c ys ec=>?_,q,es,ep,hq,h2,h3,h4,h5⟩;rw [zaJ (zmm ec e (fun z=>nomatch z))];exact ec
end
section
variable {X:Cx} {pins:List (Addr×Obj)} {σ:St} {H:Hp} {s:Shared} {a:Addr} {kvs:List (Key×V)} {k:Key} {u:Value} {A:Around} {E:Value→Shared→Prop}
end
def NoSl (i:Expr):Prop:=∀ ov iv,subscripted i false ov iv=operate [ov,iv] (getItem ov iv)
theorem zkv {prog:Program} {w:World} {A:Around} {E:Value→Shared→Prop} {s:Shared} {env:Env} {value slice:Expr} {pos:Pos} {T id:String} {Q:Value→Shared→Prop}
  (hl:typeLookup (.type T) "__getitem__" = pure (some (.builtin id))) (hs:NoSl slice)
  (h:wpAny (model prog w) A (eval value env) (fun o s₁=>wpAny (model prog w) A (eval slice env) (fun i s₂=>s₂.TypeIs o T∧wpAny (model prog w) A (getItem o i) Q E s₂) E s₁) E s) :
  wpAny (model prog w) A (eval (.Subscript value slice pos) env) Q E s:=by
 refine Subscript_ (wpAny_mono h (fun o s₁ h₁=>wpAny_mono h₁ (fun i s₂ h₂=>?_) fun _ _ x=>x) fun _ _ x=>x);obtain ⟨hT,h₂⟩:=h₂;unfold subscriptTail;refine wpAny_bind ?_;rw [getitemInPython_of_ne hT.not_modules];refine wpAny_bind (wpAny_specialOf hT hl ?_);have fin:wpAny (model prog w) A (subscripted slice false o i) (fun r s₃=>wpAny (model prog w) A (letTemporaryGo value o r >>= fun _=>pure r) Q E s₃) E s₂:=by
  rw [hs o i];exact wpAny_operating (wpAny_mono h₂ (fun r s₃ h₃=>wpAny_bind (wpAny_letTemporaryGo (wpAny_pure h₃))) fun _ _ x=>x)
 first
  | exact wpAny_pure (wpAny_bind fin)
  | exact wpAny_bind (wpAny_pure (wpAny_bind fin))
  | exact wpAny_bind fin
theorem zf2 {X:Cx} {pins:List (Addr×Obj)} {σ:St} {H:Hp} {s:Shared} {a:Addr} {y:V} {o:Option V} (I:Inv X pins σ H s) (g:DGet H a y o):s.TypeIs (.ref a) "dict":=by
 rcases g with ⟨kvs,k,e,_,_⟩ | ⟨kvs,k,b,e,_,_,_⟩
 ·obtain ⟨_,_,vs,_,dd⟩:=zh9 I.hok e;exact dd.typeIs
 ·obtain ⟨_,_,xs,_,dd⟩:=zia I.hok e;exact dd.typeIs
def zli (td ty:TE):TE:=fun σ H Q=>td σ H fun x H1=>ty σ H1 fun y H2=>∃ a v,x=.ref a∧DGet H2 a y (some v)∧Q v H2
def tDIn (ty td:TE):TE:=fun σ H Q=>ty σ H fun y H1=>td σ H1 fun x H2=>∃ a o,x=.ref a∧DGet H2 a y o∧Q (.bl o.isSome) H2
def zie (ty td:TE):TE:=fun σ H Q=>ty σ H fun y H1=>td σ H1 fun x H2=>∃ a o,x=.ref a∧DGet H2 a y o∧Q (.bl (!o.isSome)) H2
def zlj (td ty tv:TE):TS:=fun D σ H=>tv σ H fun v H1=>td σ H1 fun x H2=>ty σ H2 fun y H3=>∃ a H4,x=.ref a∧DPut H3 a y v H4∧D.nx σ H4
section
variable {X:Cx} {o i e value:Expr} {pos pos' tpos:Pos} {td ty tv:TE}
theorem zkw (hu:X.A.units+1 < cLine) (ho:PE X o td) (hi:PE X i ty) (hs:NoSl i):PE X (.Subscript o i pos) (zli td ty):=by
 intro pins s σ H Q I h;refine zkv PySem.F.slot_dict_getitem.lookup hs (thn (ho pins s σ H _ I h) fun u s1 ⟨x,H1,I1,rx,q1⟩=>thn (hi pins s1 σ H1 _ I1 q1) fun iv s2 ⟨y,H2,I2,ry,a,v,ex,g,q2⟩=>?_);subst ex;obtain rfl:u=Value.ref a:=rx;exact ⟨zf2 I2 g,zib hu I2 g ry fun w' s3 I3 rw'=>⟨v,H2,I3,rw',q2⟩⟩
theorem zlk (hu:X.A.units+1 < cLine) (hi:PE X i ty) (ho:PE X o td):PC X .In i o (tDIn ty td):=by
 intro pins s σ H Q I h;refine thn (hi pins s σ H _ I h) fun iv s1 ⟨y,H1,I1,ry,q1⟩=>thn (ho pins s1 σ H1 _ I1 q1) fun u s2 ⟨x,H2,I2,rx,a,ov,ex,g,q2⟩=>?_;subst ex;obtain rfl:u=Value.ref a:=rx;exact d_in hu I2 g ry fun s3 I3=>⟨.bl ov.isSome,H2,I3,rfl,q2⟩
theorem zif (hu:X.A.units+1 < cLine) (hi:PE X i ty) (ho:PE X o td):PC X .NotIn i o (zie ty td):=by
 intro pins s σ H Q I h;refine thn (hi pins s σ H _ I h) fun iv s1 ⟨y,H1,I1,ry,q1⟩=>thn (ho pins s1 σ H1 _ I1 q1) fun u s2 ⟨x,H2,I2,rx,a,ov,ex,g,q2⟩=>?_;subst ex;obtain rfl:u=Value.ref a:=rx;exact zku hu I2 g ry fun s3 I3=>⟨.bl (!ov.isSome),H2,I3,rfl,q2⟩
theorem zig (hu:X.A.units+1 < cLine) (ho:PE X o td) (hi:PE X i ty) (hv:PE X value tv) (hs:swapsWith value (some (.Subscript o i pos')) pos.line X.env=pure false) :
  PS X (.Assign [.Subscript o i pos'] value pos) (zlj td ty tv):=by
 intro pins s σ H D I h;refine wpAny_Assign_Subscript (thn (hv pins s σ H _ I h) fun r s1 ⟨v,H1,I1,rv,q1⟩=>thn (ho pins s1 σ H1 _ I1 q1) fun u s2 ⟨x,H2,I2,rx,q2⟩=>thn (hi pins s2 σ H2 _ I2 q2) fun iv s3 ⟨y,H3,I3,ry,a,H4,ex,g,q3⟩=>?_) hs;subst ex;obtain rfl:u=Value.ref a:=rx;exact zid hu I3 g ry rv fun s4 I4=>⟨σ,H4,I4,q3⟩
end
theorem zjh {P:Program} {w:World} {H:Hp} (h:Heap) (hb:sysModules < h.objs.size):zbI P w H (h.push { cls:=.type "dict",data:=.dict #[] }) h.objs.size (.dK []) :=
 ⟨Nat.zero_le _,beq_eq_false_iff_ne.mpr (Ne.symm (Nat.ne_of_lt hb)),[],.nil,Heap.DictOf.new h⟩
def tDNewK:TE:=fun _ H Q=>∀ p,H p=none→Q (.ref p) (upd H p (.dK []))
section
variable {X:Cx} {pos:Pos}
theorem pe_dnewK:PE X (.Dict [] [] pos) tDNewK:=fun pins s σ H Q I h =>
 wpAny_Dict_empty ⟨.ref s.heap.objs.size,_,I.laid (a:=s.heap.objs.size) (o:=.dK []) (t':=s.toks) (fun _ _ q=>Heap.get?_push_of_some _ q) (Nat.le_refl _) (zjh s.heap I.big),rfl,h _ (I.hok.fresh (Nat.le_refl _))⟩
end
end L2
namespace L2
open PySem PySem.Spec PyProof.Rows
section
variable {prog:Program} {w:World} {A:Around} {R:Result -> Shared -> Prop} {s:Shared}
theorem zfn {elt target iter:Expr} {ifs:List Expr} {scope:Scope} {pos:Pos} {it acc:Value} {env:Env} (I:Nat→Shared→Prop)
  (turn:∀ n s,I n s→wpAny (model prog w) A (pyNext it) (fun r s1=>match r with
   | none=>R (.ok .next) s1
   | some v=>wpAny (model prog w) A (letOwnedTupleGo target it v) (fun _ s1'=>wpAny (model prog w) A (assign target env v) (fun _ s2 =>
      wpAny (model prog w) A (forIn ifs true fun c r=>if r=true then do let ok ← isTrue c env (eval c env);pure (ForInStep.yield ok) else pure (ForInStep.yield r)) (fun ok s3 =>
       if ok=true then wpAny (model prog w) A (eval elt env) (fun x s4 =>
        wpAny (model prog w) A (call (.builtin "list.append") [acc,x]) (fun _ s5=>∃ m,m < n∧I m s5) (fun _ _=>False) s4) (fun _ _=>False) s3
       else ∃ m,m < n∧I m s3) (fun _ _=>False) s2) (fun _ _=>False) s1') (fun _ _=>False) s1) (fun _ _=>False) s)
  (n:Nat) (h:I n s) :
  codeAny (model prog w) A (.compLoop (.ListComp elt [⟨target,iter,ifs,0⟩] scope pos) 0 it acc env) R s:=by
 refine codeAny_loop rfl I (fun n s hI=>?_) n h;show wpAny _ A ((compTurn (.ListComp elt [⟨target,iter,ifs,0⟩] scope pos) 0 it acc env).onRaise (fun x=>do noteFrame x env;theTreesLotGoes x)) _ _ s;refine wpAny_noted ?_;rw [compTurn_list];refine wpAny_bind (wpAny_standAt (wpAny_bind (wpAny_mono (turn n s hI) (fun r s1 h1=>?_) fun _ _ z=>z.elim)))
 cases r with
 | none=>exact wpAny_pure h1
 | some v =>
   refine wpAny_bind (wpAny_mono h1 (fun _ s1' h1'=>?_) fun _ _ z=>z.elim);refine wpAny_bind (wpAny_mono h1' (fun _ s2 h2=>wpAny_bind (wpAny_mono h2 (fun ok s3 h3=>?_) fun _ _ z=>z.elim)) fun _ _ z=>z.elim)
   cases ok with
   | false=>exact wpAny_pure ⟨rfl,h3⟩
   | true =>
     exact wpAny_bind (wpAny_bind (wpAny_mono h3 (fun x s4 h4=>wpAny_bind (wpAny_mono h4 (fun _ s5 h5=>wpAny_pure (wpAny_pure ⟨rfl,h5⟩)) fun _ _ z=>z.elim)) fun _ _ z=>z.elim))
end
def PTs (X:Cx) (ifs:List Expr) (t:TT):Prop :=
 ∀ (pins:List (Addr×Obj)) (s:Shared) (σ:St) (H:Hp) (Q:Bool→Hp→Prop),Inv X pins σ H s→t σ H Q →
  wpAny (model X.prog X.w) X.A (forIn ifs true fun c r=>if r=true then do let ok ← isTrue c X.env (eval c X.env);pure (ForInStep.yield ok) else pure (ForInStep.yield r)) (TP X pins σ Q) X.xe s
def tTT:TT:=fun _ H Q=>Q true H
theorem zbM {X:Cx}:PTs X [] tTT:=fun pins s σ H Q I h=>wpAny_tests_nil ⟨H,I,h⟩
theorem zc2 {X:Cx} {c:Expr} {t:TT} (h:PT X c t):PTs X [c] t:=fun pins s σ H Q I q=>wpAny_tests_one (h pins s σ H Q I q)
def Cx.comp (X:Cx) (scope:Scope) (cl:List (Str×Addr)) (C:Addr) (N:List Str) (s:Shared) (H:Hp) (fp:List Addr):Cx where
 prog:=X.prog
 w:=X.w
 K:=X.K
 mg:=X.mg
 base:=X.base
 A:=X.A
 N:=N
 s₀:=s
 H₀:=H
 env:=compEnvC scope cl C X.env
 outer:=X.stack
 stack:=X.stack
 ex:=fp
 fn:=fun _=>false
 calm:=X.calm
 pn:=[]
 xe:=fun _ _=>False
def zbu (names:List (Str×NameKind)) (env:Env) (acc:List (Str×Addr)):List (Str×Addr) :=
 names.foldl (fun cs x=>if x.2 == .free then match env.cells.lookup x.1 with | some c=>(x.1,c)::cs | none=>cs else cs) acc
theorem zdh {scope:Scope} {env:Env} (h:∀ x∈scope.names,x.2=.free→∃ c,env.cells.lookup x.1=some c):closureFor scope env=pure (zbu scope.names env []):=by
 have go:∀ (names:List (Str×NameKind)) (acc:List (Str×Addr)),(∀ x∈names,x.2=.free→∃ c,env.cells.lookup x.1=some c) →
   (forIn (m:=Sem) names acc fun x r=>if (x.2 == NameKind.free)=true then do let y ← cellOf env x.1;pure (ForInStep.yield ((x.1,y)::r)) else pure (ForInStep.yield r))=pure (zbu names env acc):=by
  intro names
  induction names with
  | nil=>intro acc _;rfl
  | cons x r ih =>
    intro acc hx;obtain ⟨n,k⟩:=x;rw [List.forIn_cons];have ihr:=fun acc=>ih acc fun y hy=>hx y (List.mem_cons_of_mem _ hy)
    by_cases hk:k=.free
    ·subst hk;obtain ⟨c,hc⟩:=hx (n,.free) List.mem_cons_self rfl;have e:cellOf env n=pure c:=by unfold cellOf;rw [show env.cells.lookup n=some c from hc]
     have e2:zbu ((n,NameKind.free)::r) env acc=zbu r env ((n,c)::acc):=by
      unfold zbu;rw [List.foldl_cons];simp only [beq_self_eq_true,if_true];rw [show env.cells.lookup n=some c from hc]
     rw [e2,← ihr];simp only [beq_self_eq_true,if_true,e,pure_bind]
    ·have hb:(k == NameKind.free)=false:=by simpa using hk
     have e2:zbu ((n,k)::r) env acc=zbu r env acc:=by
      unfold zbu;rw [List.foldl_cons];simp only [hb,Bool.false_eq_true,if_false]
     rw [e2,← ihr];simp only [hb,Bool.false_eq_true,if_false,pure_bind]
 unfold closureFor;have:=go scope.names [] h;simp only [pure_bind,bind_pure] at this ⊢;exact this
theorem zez {env:Env}:∀ (names:List (Str×NameKind)) (acc:List (Str×Addr)),(∀ x c,acc.lookup x=some c→env.cells.lookup x=some c)→∀ x c,(zbu names env acc).lookup x=some c→env.cells.lookup x=some c:=by
 intro names
 induction names with
 | nil=>intro acc h x c e;exact h x c e
 | cons y r ih =>
   intro acc h x c e;unfold zbu at e;rw [List.foldl_cons] at e;refine ih _ ?_ x c e;intro z d hz
   by_cases hk:(y.2 == NameKind.free)=true
   ·rw [if_pos hk] at hz
    cases hc:env.cells.lookup y.1 with
    | none=>rw [hc] at hz;exact h z d hz
    | some a =>
      rw [hc] at hz;simp only [List.lookup_cons] at hz
      by_cases hzy:(z == y.1)=true
      ·rw [hzy] at hz;have:z=y.1:=by simpa using hzy
       rw [this,hc];exact hz
      ·have:(z == y.1)=false:=by simpa using hzy
       rw [this] at hz;exact h z d hz
   ·rw [if_neg hk] at hz;exact h z d hz
theorem zeA {env:Env}:∀ (names:List (Str×NameKind)) (acc:List (Str×Addr)) (x:Str),((∃ c,acc.lookup x=some c)∨((x,NameKind.free)∈names∧∃ c,env.cells.lookup x=some c))→∃ c,(zbu names env acc).lookup x=some c:=by
 intro names
 induction names with
 | nil=>intro acc x h;rcases h with h | h;exact h;exact absurd h.1 (by simp)
 | cons y r ih =>
   intro acc x h;unfold zbu;rw [List.foldl_cons];refine ih _ x ?_
   by_cases hk:(y.2 == NameKind.free)=true
   ·rw [if_pos hk]
    cases hc:env.cells.lookup y.1 with
    | none =>
      rcases h with h | ⟨h,h2⟩
      ·exact .inl h
      ·rcases List.mem_cons.mp h with e | e
       ·subst e;rw [hc] at h2;obtain ⟨_,h2⟩:=h2;cases h2
       ·exact .inr ⟨e,h2⟩
    | some a =>
      simp only [List.lookup_cons]
      by_cases hzy:(x == y.1)=true
      ·exact .inl ⟨a,by rw [hzy]⟩
      ·have hf:(x == y.1)=false:=by simpa using hzy
       rw [hf];rcases h with h | ⟨h,h2⟩
       ·exact .inl h
       ·rcases List.mem_cons.mp h with e | e
        ·subst e;simp at hf
        ·exact .inr ⟨e,h2⟩
   ·rw [if_neg hk];rcases h with h | ⟨h,h2⟩
    ·exact .inl h
    ·rcases List.mem_cons.mp h with e | e
     ·subst e;simp at hk
     ·exact .inr ⟨e,h2⟩
def capS (own:Nat) (js:List Nat) (σ:St):St:=List.replicate own none++js.map fun j=>(σ[j]?).getD none
def zf3 (wi:TI) (own:Nat) (js:List Nat) (g:TG) (tc:TT) (te:TE):TE:=fun σ H Q=>wi σ H fun J H1=>∀ p,H1 p=none →
 ∃ W:Nat→Nat→St→Hp→Prop,(∃ m,W 0 m (capS own js σ) (upd H1 p (.lst [])))∧∀ i m σc H,W i m σc H →
  (J.stop i H∧Q (.ref p) H)∨(J.go i H∧∃ N:St→Hp→Prop,(∀ σ' H',N σ' H'→∃ m',m' < m∧W (i+1) m' σ' H')∧∀ x H',J.yld i H x H' →
   g x σc H' fun σ2 H2=>tc σ2 H2 fun b H3=>if b=true then te σ2 H3 fun v H4=>∃ ys,H4 p=some (.lst ys)∧ys.length < sizeLine∧N σ2 (upd H4 p (.lst (ys++[v]))) else N σ2 H3)
structure zcw (X:Cx) (scope:Scope) (N:List Str) (own:Nat) (js:List Nat):Prop where
 kind:scope.kind=.function
 nocell:∀ y∈scope.names,y.2≠.cell
 nodup:∀ y∈scope.names,y.2=.local→scope.names.lookup y.1=some .local
 free:∀ y∈scope.names,y.2=.free→X.env.kindOf y.1=some .cell∨X.env.kindOf y.1=some .free
 len:N.length=own+js.length
 cap:∀ (i:Nat) (j:Nat),js[i]? = some j→N[own+i]? = X.N[j]?∧∀ x,X.N[j]? = some x→scope.names.lookup x=some .free∧Vis X.env.scope x∧X.env.kindOf x≠some .local
section
variable {X:Cx} {tg elt iter:Expr} {ifs:List Expr} {scope:Scope} {pos:Pos} {N:List Str} {own:Nat} {js:List Nat} {wi:TI} {g:TG} {tc:TT} {te:TE}
theorem zbV {env:Env} {names:List (Str×NameKind)} {x:Str} {k:NameKind} (hk:k=.cell∨k=.free) (hnc:∀ y∈names,y.2≠.cell)
  (h:(names.map fun (n,k)=>if (k == NameKind.free && env.scope.kind == .function && env.kindOf n == some .cell) then (n,NameKind.cell) else (n,k)).lookup x=some k):(x,NameKind.free)∈names:=by
 have:=PySem.mem_of_lookup h;obtain ⟨⟨n,k'⟩,hm,e⟩:=List.mem_map.mp this;dsimp only at e;split at e
 ·rename_i hc
  cases e
  have:k'=.free:=by
   simp only [Bool.and_eq_true,beq_iff_eq] at hc;exact hc.1.1
  rw [← this];exact hm
 ·cases e
  rcases hk with rfl | rfl
  ·exact absurd rfl (hnc _ hm)
  ·exact hm
theorem zbJ {env:Env}:∀ {names:List (Str×NameKind)} {x:Str},names.lookup x=some .free →
  (names.map fun (n,k)=>if (k == NameKind.free && env.scope.kind == .function && env.kindOf n == some .cell) then (n,NameKind.cell) else (n,k)).lookup x=some .local→False
 | [],_,h,_=>by simp at h
 | (n,k)::r,x,h,h'=>by
  have ih:=@zbJ env r x
  cases hx:x == n with
  | true =>
    simp only [List.lookup_cons,hx] at h
    cases h
    rw [List.map_cons] at h';dsimp only at h';split at h' <;> simp [List.lookup_cons,hx] at h'
  | false =>
    simp only [List.lookup_cons,hx] at h;rw [List.map_cons] at h';dsimp only at h';split at h' <;> simp only [List.lookup_cons,hx] at h' <;> exact ih h h'
theorem zji {pins:List (Addr×Obj)} {σ:St} {H:Hp} {s:Shared} {fp:List Addr} {h1:Heap} (S:zcw X scope N own js) (I:Inv X pins σ H s) (hf:∀ b∈fp,FpOk X pins H b) (hfo:∀ b∈fp,b < s.heap.objs.size)
  (C p:Addr) (hp:p=s.heap.objs.size) (hC:C=s.heap.objs.size+1) (hns:h1.Ns C fun _=>none) (hkeep:∀ b o,s.heap.get? b=some o→h1.get? b=some o)
  (hacc:h1.get? p=some { cls:=.type "list",data:=.seq #[] 0 }) (tk:Nat) :
  Inv (X.comp scope (zbu scope.names X.env []) C N s H fp) [] (capS own js σ) (upd H p (.lst [])) { s with heap:=h1,toks:=tk }:=by
 have sub:=zez (env:=X.env) scope.names [] (fun x c e=>by simp at e);have hHp:H p=none:=I.hok.fresh (by rw [hp];exact Nat.le_refl _);have hHC:H C=none:=I.hok.fresh (by rw [hC];exact Nat.le_succ _);have hpC:C≠p:=by rw [hp,hC];exact Nat.succ_ne_self _
 have cellLt:∀ x c,X.env.cells.lookup x=some c→c < s.heap.objs.size:=fun x c e=>by
  obtain ⟨v,q⟩:=I.cell x c e;exact q.lt
 have nop:∀ q:Addr×Obj,q∉(X.comp scope (zbu scope.names X.env []) C N s H fp).pn++([]:List (Addr×Obj)):=fun q z=>absurd (show q∈([]:List (Addr×Obj)) from z) (by simp);refine ⟨⟨I.ok.mod,S.kind,I.ok.glob,I.ok.blt,by rw [show (X.comp scope (zbu scope.names X.env []) C N s H fp).env.locals=C from rfl,hC];exact Nat.le_succ _,?_,?_,fun y c z=>absurd (show false=true from z) (by decide),I.ok.hd,I.ok.frames,.inl rfl,?_,fun b o e=>I.bs b o e,Nat.le_trans I.ok.bsz I.sz,?_,?_,I.stack,I.stkFree⟩,
  rfl,I.bare,Un.laid hkeep (by rw [hp];exact Nat.le_refl _) hHp,⟨_,hns,?_⟩,?_,?_,?_,fun q hq=>absurd hq (nop q),?_,?_⟩
 ·intro x y c e1 e2;exact I.ok.inj x y c (sub x c e1) (sub y c e2)
 ·intro x hx;have hm:(x,NameKind.free)∈scope.names:=by
   rcases hx with hx | hx
   ·exact zbV (.inl rfl) S.nocell hx
   ·exact zbV (.inr rfl) S.nocell hx
  exact zeA scope.names [] x (.inr ⟨hm,I.ok.has x (S.free _ hm rfl)⟩)
 ·intro b hb;obtain ⟨f0,f1,f2,f3,f4,f5⟩:=hf b hb;refine ⟨fun e=>?_,fun x c e=>f4 x c (sub x c e)⟩;have e':b=C:=e;have:=hfo b hb;rw [e',hC] at this;exact absurd this (Nat.not_lt.mpr (Nat.le_succ _))
 ·intro b o e hb;obtain ⟨f0,f1,f2,f3,f4,f5⟩:=hf b hb;rcases f3 with z | z
  ·exact I.ok.noex b o e z
  ·exact absurd (Nat.lt_of_lt_of_le (Heap.lt_size (I.ok.bs b o e).1) z) (Nat.lt_irrefl _)
 ·intro b hb z;obtain ⟨f0,f1,f2,f3,f4,f5⟩:=hf b hb;rcases List.mem_cons.mp (I.stkSub b z) with e | e
  ·exact f1 e
  ·exact f2 e
 ·intro i x v h1' h2 h3;have hlen:(capS own js σ).length=own+js.length:=by simp [capS]
  have hio:own≤i:=by
   by_cases hi:i < own
   ·unfold capS at h2;rw [List.getElem?_append_left (by simpa using hi),List.getElem?_replicate,if_pos hi] at h2
    cases h2
   ·omega
  obtain ⟨k,rfl⟩:∃ k,i=own+k:=⟨i-own,by omega⟩
  have e1:(js.map fun j=>(σ[j]?).getD none)[k]? = some (some v):=by
   unfold capS at h2;rw [List.getElem?_append_right (by simp)] at h2;simpa using h2
  rw [List.getElem?_map] at e1
  cases ej:js[k]? with
  | none=>rw [ej] at e1;cases e1
  | some j =>
    rw [ej] at e1;have e2:(σ[j]?).getD none=some v:=Option.some.inj e1;have e3:σ[j]? = some (some v):=by
     cases q:σ[j]? with
     | none=>rw [q] at e2;cases e2
     | some z=>rw [q] at e2;exact congrArg some e2
    obtain ⟨c1,c2⟩:=S.cap k j ej;have hN:X.N[j]? = some x:=by rw [← c1];exact h1'
    obtain ⟨d1,d2,d3⟩:=c2 x hN;obtain ⟨m,_,hl⟩:=I.loc;obtain ⟨u,r,l⟩:=hl j x v hN e3 d2;refine ⟨u,r,?_⟩;rcases l with ⟨l,_⟩ | ⟨_,c,ec,o,ho,hd⟩
    ·exact absurd l d3
    ·obtain ⟨c',hc'⟩:=zeA (env:=X.env) scope.names [] x (.inr ⟨PySem.mem_of_lookup d1,c,ec⟩);have e4:=sub x c' hc';rw [ec] at e4
     cases e4
     refine .inr ⟨?_,c,hc',o,hkeep c o ho,hd⟩;rcases h3 with z | z | z
     ·exact (zbJ d1 z).elim
     ·exact .inl z
     ·exact .inr z
 ·intro x c e;obtain ⟨v,o,ho,hd⟩:=I.cell x c (sub x c e);exact ⟨v,o,hkeep c o ho,hd⟩
 ·rw [show (X.comp scope (zbu scope.names X.env []) C N s H fp).env.locals=C from rfl,zaJ hpC];exact hHC
 ·intro x c e;rw [zaJ (by rw [hp];exact Nat.ne_of_lt (cellLt x c (sub x c e)))];exact I.freeC x c (sub x c e)
 ·exact I.hok.laid hkeep (by rw [hp];exact Nat.le_refl _) ⟨Nat.zero_le _,[],0,.nil,hacc⟩
 ·show (capS own js σ).length=N.length;rw [S.len];simp [capS]
theorem zeB {pins:List (Addr×Obj)} {σ:St} {H:Hp} {s:Shared} {E:Value→Shared→Prop} {it:Addr} {fp:List Addr} {tn:Nat→Heap→Prop} {J:It} {Q:VK} {RR:Value→Addr→Result→Shared→Prop}
  (S:zcw X scope N own js) (hc:X.calm=true) (I:Inv X pins σ H s) (T:Turn X.prog X.w X.K tg J fp it tn) (st:tn 0 s.heap) (hf:∀ b∈fp,FpOk X pins H b)
  (hg:∀ cl C s H fp,PG (X.comp scope cl C N s H fp) tg g) (hts:∀ cl C s H fp,PTs (X.comp scope cl C N s H fp) ifs tc) (he:∀ cl C s H fp,PE (X.comp scope cl C N s H fp) elt te)
  (hq:∀ p,H p=none→∃ W:Nat→Nat→St→Hp→Prop,(∃ m,W 0 m (capS own js σ) (upd H p (.lst [])))∧∀ i m σc H,W i m σc H →
   (J.stop i H∧Q (.ref p) H)∨(J.go i H∧∃ N:St→Hp→Prop,(∀ σ' H',N σ' H'→∃ m',m' < m∧W (i+1) m' σ' H')∧∀ x H',J.yld i H x H' →
    g x σc H' fun σ2 H2=>tc σ2 H2 fun b H3=>if b=true then te σ2 H3 fun v H4=>∃ ys,H4 p=some (.lst ys)∧ys.length < sizeLine∧N σ2 (upd H4 p (.lst (ys++[v]))) else N σ2 H3))
  (hRR:∀ p C s' H' m,C=s.heap.objs.size+1→s'.heap.Ns C m→Inv X pins σ H' s'→H' C=none→Q (.ref p) H'→RR (.ref p) C (.ok .next) s') :
  wpAny (model X.prog X.w) X.A (newList []) (fun acc s3=>wpAny (model X.prog X.w) X.A (newFunctionEnv scope X.env.globals (zbu scope.names X.env []) [] X.env.qual none .none (some X.env)) (fun cenv s4 =>
   codeAny (model X.prog X.w) X.A (.compStart (.ListComp elt [⟨tg,iter,ifs,0⟩] scope pos) 0 (.ref it) acc { cenv with scope:=relabel scope X.env }) (RR acc cenv.locals) s4) E s3) E s:=by
 refine wpAny_newObj_type (wpAny_newFunctionEnv S.nocell (by intro y hy;simp at hy) (fun h1 hns1 hsb1=>?_) S.kind);dsimp only at hns1 hsb1 ⊢;generalize hH2:s.heap.push { cls:=.type "list",dict:=none,data:=.seq ([]:List Value).toArray }=H2 at hns1 hsb1 ⊢;have hC:H2.objs.size=s.heap.objs.size+1:=by rw [← hH2,Heap.size_push]
 have old:∀ b o,s.heap.get? b=some o→h1.get? b=some o:=fun b o e=>hsb1.extBut b o (by rw [hC];exact Nat.ne_of_lt (Nat.lt_succ_of_lt (Heap.lt_size e))) (Heap.get?_push_of_some _ (hH2▸Heap.get?_push_of_some _ e));have hacc:h1.get? s.heap.objs.size=some { cls:=.type "list",data:=.seq #[] 0 }:=hsb1.extBut _ _ (by rw [hC];exact Nat.ne_of_lt (Nat.lt_succ_self _)) (Heap.get?_push_of_some _ (hH2▸Heap.get?_push_size _ rfl));have hfo:∀ b∈fp,b < s.heap.objs.size:=fun b hb=>by
  obtain ⟨o,e,_⟩:=T.obj 0 _ st b hb;exact Heap.lt_size e
 have st1:tn 0 h1:=T.keep _ _ _ st fun b _ o e=>old b o e;have I0:=zji (fp:=fp) S I hf hfo H2.objs.size s.heap.objs.size rfl hC hns1 old hacc (s.toks+([]:List (Str×Value)).length);have hHp:H s.heap.objs.size=none:=I.hok.fresh (Nat.le_refl _);obtain ⟨W,⟨m0,w0⟩,turn⟩:=hq _ hHp;generalize hX:X.comp scope (zbu scope.names X.env []) H2.objs.size N s H fp=Y at I0;have eY:(Y.prog=X.prog∧Y.w=X.w∧Y.K=X.K∧Y.calm=true∧Y.A=X.A)∧Y.env=compEnvC scope (zbu scope.names X.env []) H2.objs.size X.env∧Y.fs=frs X.stack∧Y.ex=fp∧Y.s₀=s∧Y.H₀=H∧Y.pn=[]:=by
  subst hX;exact ⟨⟨rfl,rfl,rfl,hc,rfl⟩,rfl,rfl,rfl,rfl,rfl,rfl⟩
 have hgY:PG Y tg g:=by subst hX;exact hg _ _ _ _ _
 have htY:PTs Y ifs tc:=by subst hX;exact hts _ _ _ _ _
 have heY:PE Y elt te:=by subst hX;exact he _ _ _ _ _
 have hxe:Y.xe=fun _ _=>False:=by subst hX;rfl
 obtain ⟨⟨e1,e2,e3,e4,e5⟩,e6,e7,e8,e9,e10,e11⟩:=eY;have sub:=zez (env:=X.env) scope.names [] (fun x c e=>by simp at e);have stat:∀ {H':Hp},(∀ b∈fp,H' b=none)→∀ b∈fp,FpOk Y [] H' b:=fun {H'} hn b hb=>by
  refine ⟨hn b hb,?_,?_,.inl (by rw [e8];exact hb),?_,?_⟩
  ·rw [e6];show b≠H2.objs.size;rw [hC];exact Nat.ne_of_lt (Nat.lt_succ_of_lt (hfo b hb))
  ·rw [e7];intro z;rcases List.mem_cons.mp (I.stkSub b z) with e | e
   ·exact (hf b hb).2.1 e
   ·exact (hf b hb).2.2.1 e
  ·intro x c e;rw [e6] at e;exact (hf b hb).2.2.2.2.1 x c (sub x c e)
  ·intro q hq;rw [e11] at hq;exact absurd hq (by simp)
 have noT:∀ b∈fp,b≠s.heap.objs.size:=fun b hb=>Nat.ne_of_lt (hfo b hb);have loop:∀ s3:Shared,s3={ s with heap:=h1,toks:=s.toks+([]:List (Str×Value)).length } →
   codeAny (model X.prog X.w) X.A (.compLoop (.ListComp elt [⟨tg,iter,ifs,0⟩] scope pos) 0 (.ref it) (.ref s.heap.objs.size) (compEnvC scope (zbu scope.names X.env []) H2.objs.size X.env))
    (RR (.ref s.heap.objs.size) H2.objs.size) s3:=by
  rintro s3 rfl;rw [← e1,← e2,← e5,← e6];refine zfn (fun n s'=>∃ i σ' H',Inv Y [] σ' H' s'∧tn i s'.heap∧(∀ b∈fp,H' b=none)∧W i n σ' H') ?_ m0 ⟨0,_,_,I0,st1,fun b hb=>by rw [zaJ (noT b hb)];exact (hf b hb).1,w0⟩;rintro n s3 ⟨i,σ3,H3,I3,st3,fr3,w3⟩;rcases turn i n σ3 H3 w3 with ⟨stop,qn⟩ | ⟨go,N',hN,step⟩
  ·have tt:=T.done Y e1 e2 e3 e4 i [] s3 σ3 H3 (fun _ _=>False) I3 (stat fr3) st3 stop;rw [← e1,← e2] at tt;refine thn tt fun r s4 ⟨hr,I4⟩=>?_;subst hr;obtain ⟨m,hn4,_⟩:=I4.loc;have hl:Y.env.locals=H2.objs.size:=by rw [e6];rfl
   have u:=I4.base;rw [e7,e8,e9,e10] at u;refine hRR _ _ s4 H3 m hC (by rw [← hl];exact hn4) ?_ (by rw [← hl];exact I4.free) qn;refine I.call' (by rw [I4.os,e9]) u (by rw [← e1,← e2];exact I4.hok) I4.bare fun b hb=>?_;obtain ⟨f0,f1,f2,f3,f4,f5⟩:=hf b hb;exact ⟨f3,f1,f4,f5⟩
  ·have tt:=T.item Y e1 e2 e3 e4 i [] s3 σ3 H3 (fun _ _=>False) I3 (stat fr3) st3 go;rw [← e1,← e2] at tt;refine thn tt fun r s4 ⟨u,hr,h4⟩=>?_;subst hr;refine thn h4 fun _ s5 ⟨x,H5,I5,r5,y5,st5,fr5⟩=>?_;have I5':=I5.pinned (stat fr5) (T.obj _ _ st5);have a6:=hgY _ s5 σ3 H5 x u _ I5' r5 (step x H5 y5);rw [hxe] at a6;refine thn a6 fun _ s6 ⟨σ6,H6,I6,q6⟩=>?_;have a7:=htY _ s6 σ6 H6 _ I6 q6;rw [hxe] at a7;refine thn a7 fun ok s7 ⟨H7,I7,q7⟩=>?_;have again:∀ {H8:Hp} {s8:Shared},Inv Y ([]++zfe fp s5.heap) σ6 H8 s8→N' σ6 H8→∃ m,m < n∧∃ i σ' H',Inv Y [] σ' H' s8∧tn i s8.heap∧(∀ b∈fp,H' b=none)∧W i m σ' H':=fun {H8 s8} I8 n8=>by
    obtain ⟨m',hm,w8⟩:=hN σ6 H8 n8;refine ⟨m',hm,i+1,σ6,H8,I8.unpinned,T.keep _ _ _ st5 fun b hb o e=>(I8.pin (b,o) (List.mem_append_right _ (List.mem_append_right _ (zcJ hb e)))).1,fun b hb=>?_,w8⟩;obtain ⟨o,e,d⟩:=T.obj _ _ st5 b hb;exact (I8.pin (b,o) (List.mem_append_right _ (List.mem_append_right _ (zcJ hb e)))).2.1
   cases ok with
   | false =>
     rw [if_neg Bool.false_ne_true] at q7 ⊢;exact again I7 q7
   | true =>
     rw [if_pos rfl] at q7 ⊢;have a8:=heY _ s7 σ6 H7 _ I7 q7;rw [hxe] at a8;refine thn a8 fun y s8 ⟨v,H8,I8,r8,ys,q8,hz8,n8⟩=>?_;have a9:=mt_append (X:=Y) _ s8 σ6 H8 (.ref s.heap.objs.size) [v] (.ref s.heap.objs.size) [y] (fun _ H'=>N' σ6 H') I8 rfl (.cons r8 .nil) ⟨_,ys,v,rfl,rfl,q8,hz8,n8⟩;rw [hxe] at a9;refine thn a9 fun _ s9 ⟨_,H9,I9,_,n9⟩=>?_;exact again I9 n9
 exact codeAny_compStart_list (loop _ rfl) (T.self _ 0 _ _ _ st1 (loop _ rfl))
theorem zhg {pins:List (Addr×Obj)} {σ:St} {H H':Hp} {s s':Shared} {h':Heap} {C:Addr} (I:Inv X pins σ H s) (hC:C=s.heap.objs.size+1) (I':Inv X pins σ H' s') (hn:H' C=none) (hs:Heap.SameBut C s'.heap h'):Inv X pins σ H' { s' with heap:=h' }:=by
 have hlt:∀ b:Addr,b < s.heap.objs.size→b≠C:=fun b hb=>by rw [hC];exact Nat.ne_of_lt (Nat.lt_succ_of_lt hb)
 refine I'.turned (it:=C) (t':=s'.toks) (fun b o hb e=>(hs.2 b hb).trans e) hn ?_ (.inr ?_) ?_ ?_
 ·exact (hlt _ I.lt).symm
 ·rw [hC];exact Nat.le_succ_of_le I.sz
 ·intro x c e;obtain ⟨v,q⟩:=I.cell x c e;exact hlt _ q.lt
 ·intro p hp;exact hlt _ (Heap.lt_size (I.pin p hp).1)
theorem zbd (S:zcw X scope N own js) (hc:X.calm=true) (hi:PI X tg iter wi)
  (hg:∀ cl C s H fp,PG (X.comp scope cl C N s H fp) tg g) (hts:∀ cl C s H fp,PTs (X.comp scope cl C N s H fp) ifs tc) (he:∀ cl C s H fp,PE (X.comp scope cl C N s H fp) elt te)
  (hs:∀ x,foldedSetIterable iter X.env x=pure x:=by intro _;rfl):PE X (.ListComp elt [⟨tg,iter,ifs,0⟩] scope pos) (zf3 wi own js g tc te):=by
 intro pins s σ H Q I h;rw [eval_ListComp];refine wpAny_comprehension_free (use:=none) rfl hs (zdh fun x hx hk=>I.ok.has x.1 (S.free x hx hk)) S.kind S.nodup (thn (hi pins s σ H _ I h) fun v s1 h1=>thn h1 fun itv s2 h2=>?_);obtain ⟨it,fp,tn,J,H2,e,I2,T,st2,f2,q⟩:=h2;subst e;refine zeB (RR:=fun acc C=>compPost (model X.prog X.w) X.A X.xe none (EP X pins σ Q) acc C) S hc I2 T st2 f2 hg hts he q ?_;intro p C s' H' m hC hn I' hH' q';exact ⟨m,hn,fun h' hs'=>⟨.ref p,H',zhg I2 hC I' hH' hs',rfl,q'⟩⟩
theorem zeC {i:Nat} {y:Str} {py spos:Pos} (hN:X.N.Nodup) (hi':X.N[i]? = some y) (hx:Loc X.env.scope y) (hsw:swapsWith (.ListComp elt [⟨tg,iter,ifs,0⟩] scope pos) (some (.Name y py)) spos.line X.env=pure true)
  (S:zcw X scope N own js) (hc:X.calm=true) (hi:PI X tg iter wi)
  (hg:∀ cl C s H fp,PG (X.comp scope cl C N s H fp) tg g) (hts:∀ cl C s H fp,PTs (X.comp scope cl C N s H fp) ifs tc) (he:∀ cl C s H fp,PE (X.comp scope cl C N s H fp) elt te)
  (hs:∀ x,foldedSetIterable iter X.env x=pure x:=by intro _;rfl) (hf:X.fn y=true∨X.env.scope.names.lookup y=some .local:=by first | exact .inl rfl | exact .inr rfl | assumption) :
  PS X (.Assign [.Name y py] (.ListComp elt [⟨tg,iter,ifs,0⟩] scope pos) spos) (tAsg (zf3 wi own js g tc te) (zcs i)):=by
 intro pins s σ H D I h;rw [exec_Assign_Name_used _ _ _ _ hsw];refine wpAny_bind (wpAny_standAt (wpAny_bind ?_));show wpAny _ X.A (do let _ ← comprehension (.ListComp elt [⟨tg,iter,ifs,0⟩] scope pos) scope X.env _ (newList []) false (eval iter X.env) (some (assign (.Name y py) X.env))) _ _ s;refine wpAny_bind (wpAny_mono (wpAny_comprehension_free (use:=some (assign (.Name y py) X.env)) (Q:=fun _ s'=>SP X pins D .next s') rfl hs (zdh fun x hx hk=>I.ok.has x.1 (S.free x hx hk)) S.kind S.nodup
  (thn (hi pins s σ H _ I h) fun v s1 h1=>thn h1 fun itv s2 h2=>?_)) (fun _ s' hq=>wpAny_pure (wpAny_pure hq)) fun _ _ e=>e)
 obtain ⟨it,fp,tn,J,H2,e,I2,T,st2,f2,q⟩:=h2;subst e;refine zeB (Q:=fun x H1=>zcs i x σ H1 D.nx) (RR:=fun acc C=>compPost (model X.prog X.w) X.A X.xe (some (assign (.Name y py) X.env)) (fun _ s'=>SP X pins D .next s') acc C) S hc I2 T st2 f2 hg hts he q ?_;intro p C s' H' m hC hn I' hH' q';show wpAny _ X.A (assign (.Name y py) X.env (.ref p)) _ _ _;refine wpAny_assign_Name (ze9 (v:=.ref p) I' hN hi' hx rfl (fun s'' I'' hsb=>?_) hf);obtain ⟨a,hsb,ha⟩:=hsb;have hlt:∀ b:Addr,b < s2.heap.objs.size→b≠C:=fun b hb=>by rw [hC];exact Nat.ne_of_lt (Nat.lt_succ_of_lt hb)
 have hne:C≠a:=by
  rcases ha with rfl | ha
  ·exact (hlt _ I2.lt).symm
  ·obtain ⟨v,q⟩:=I2.cell y a ha;exact (hlt _ q.lt).symm
 refine ⟨m,hn.sameBut hsb hne,fun h' hs'=>⟨σ.set i (some (.ref p)),H',?_,q'⟩⟩;refine I''.turned (it:=C) (t':=s''.toks) (fun b o hb e=>(hs'.2 b hb).trans e) hH' ?_ (.inr ?_) ?_ ?_
 ·exact (hlt _ I2.lt).symm
 ·rw [hC];exact Nat.le_succ_of_le I2.sz
 ·intro x c e;obtain ⟨v,q⟩:=I2.cell x c e;exact hlt _ q.lt
 ·intro p hp;exact hlt _ (Heap.lt_size (I2.pin p hp).1)
end
end L2
namespace L2
open PySem PySem.Spec PyProof.Rows
theorem zf4 {X:Cx}:zdd X (.builtin "isinstance") (fun xs H Q=>∃ x n t b,xs=[x,.ty n]∧TyOf X.K H x t∧PySem.W.kitOne X.K t (.type n)=some b∧Q (.bl b) H):=by
 intro pins s σ H xs us Q I r h;obtain ⟨x,n,t,b,rfl,ty,e,q⟩:=h;obtain ⟨u,v,rfl,r1,r2⟩:=Vals.two r;have e2:v=Value.type n:=r2;subst e2;exact zh0 I r1 ty e fun tk=>⟨.bl b,H,I.tok _,rfl,q⟩
section
variable {X:Cx} {K:PySem.W.Frag}
theorem zaf (h:X.K=K):IxR X (rIxL K):=h▸ix_list
theorem zdi (h:X.K=K):SlR X (rSlL K):=h▸sl_list
theorem zll (h:X.K=K):OpR X (compareOp .In) (rIn K false):=h▸op_in_seq
theorem zih (h:X.K=K):OpR X (compareOp .NotIn) (rIn K true):=h▸op_notIn_seq
def cLen (K:PySem.W.Frag):List V→Hp→VK→Prop:=fun xs H Q=>∃ p ys,xs=[.ref p]∧(SqL K H p ys∨SqT K H p ys)∧Q (.int ys.length) H
theorem zaj (h:X.K=K):zdd X (.builtin "len") (cLen K):=h▸call_len_seq
def cIsi (K:PySem.W.Frag):List V→Hp→VK→Prop:=fun xs H Q=>∃ x n t b,xs=[x,.ty n]∧TyOf K H x t∧PySem.W.kitOne K t (.type n)=some b∧Q (.bl b) H
theorem zaR (h:X.K=K):zdd X (.builtin "isinstance") (cIsi K):=h▸zf4
theorem zaO {tg l:Expr} {tl:TE} (h:X.K=K) (hl:PE X l tl):PI X tg l (zi7 K tl):=h▸zkg hl
def zj3 (K:PySem.W.Frag) (ta:TE):TT:=fun σ H Q=>ta σ H fun x H'=>∃ k,TruV K x H' k∧Q k H'
theorem zaC {a:Expr} {ta:TE} (h:X.K=K) (ha:PE X a ta) (he:∀ whole,isTrue a X.env whole=(do let v ← whole;standAt a.pos;holding [v] (truthy v))):PT X a (zj3 K ta):=h▸zi9 ha he
theorem zbW {o e:Expr} {es:List Expr} {to:TE} {t:TA} {name:Str} {apos cpos:Pos} {T id:String} {r:V→List V→Hp→VK→Prop} (h:X.K=K)
  (pa:PlainAttrs T) (slot:Slot T name id) (hty:typeOf (.builtin id)=pure (.type "method_descriptor")) (hm:MtR X id r) (ho:PE X o to) (ha:PA X (e::es) t)
  (hbase:attributeBase o name X.env (eval o X.env)=eval o X.env:=by rfl)
  (hfew:((backTo cpos (starEach (e::es) X.env)).all (fun x=>!x.1) && (backToKw cpos (keywordEach [] X.env)).all (fun x=>x.1.isSome)
   && decide ((e::es).length+([]:List Keyword).length+(if ([]:List Keyword).isEmpty then 0 else 1) < 30))=true:=by rfl)
  (hline:(apos.endLine == cpos.line)=true:=by rfl) (hs:starEach (e::es) X.env=(false,eval e X.env)::starEach es X.env:=by rfl) (hplain:(backTo cpos (starEach es X.env)).any (·.1)=false:=by rfl) :
  PE X (.Call (.Attribute o name apos) (e::es) [] cpos) (tBM K T r to t):=h▸zmp pa slot hty hm ho ha hbase hfew hline hs hplain
def rAddS:R2:=fun x y H Q=>∃ i j,x=.str i∧y=.str j∧i.length+j.length≤sizeLine∧Q (.str (i++j)) H
def rAddG:R2:=fun x y H Q=>rI0 (fun i j=>.int (i+j)) x y H Q∨rCat x y H Q∨rAddS x y H Q
theorem op_addG:OpR X (binaryOp .Add) rAddG:=op_add.or (op_cat.or op_add_str)
def rNeG (K:PySem.W.Frag):R2:=fun x y H Q=>rNe x y H Q
theorem zlm (h:X.K=K):OpR X (compareOp .NotEq) (rNeG K):=op_ne
end
def zj4 (scope:Scope) (xn:List (Str×NameKind)) (XN N:List Str) (own:Nat) (js:List Nat):Bool :=
 (scope.kind == .function) && scope.names.all (fun y=>y.2 != .cell) && scope.names.all (fun y=>y.2 != .local || scope.names.lookup y.1 == some .local) &&
 scope.names.all (fun y=>y.2 != .free || (xn.lookup y.1 == some .cell || xn.lookup y.1 == some .free)) && (N.length == own+js.length) &&
 (List.range js.length).all (fun i=>(N[own+i]? == XN[js.getD i 0]?) && match XN[js.getD i 0]? with
  | some x=>scope.names.lookup x == some .free && (xn.lookup x == some .cell || xn.lookup x == some .free)
  | none=>true)
theorem zat {X:Cx} {scope sc:Scope} {XN N:List Str} {own:Nat} {js:List Nat} (hs:X.env.scope=sc) (hN:X.N=XN) (h:zj4 scope sc.names XN N own js=true):zcw X scope N own js:=by
 subst hs hN;unfold zj4 at h;simp only [Bool.and_eq_true,List.all_eq_true,beq_iff_eq,bne_iff_ne,Bool.or_eq_true,List.mem_range] at h;obtain ⟨⟨⟨⟨⟨h1,h2⟩,h3⟩,h4⟩,h5⟩,h6⟩:=h;refine ⟨h1,h2,fun y hy hk=>?_,fun y hy hk=>?_,h5,fun i j hj=>?_⟩
 ·rcases h3 y hy with z | z
  ·exact absurd hk z
  ·exact z
 ·rcases h4 y hy with z | z
  ·exact absurd hk z
  ·exact z
 ·have hi:i < js.length:=(List.getElem?_eq_some_iff.mp hj).1;have e:js.getD i 0=j:=by rw [List.getD_eq_getElem?_getD,hj];rfl
  obtain ⟨a,b⟩:=h6 i hi;rw [e] at a b;refine ⟨a,fun x hx=>?_⟩;rw [hx] at b;simp only [Bool.and_eq_true,beq_iff_eq,Bool.or_eq_true] at b;obtain ⟨b1,b2⟩:=b;refine ⟨b1,?_,?_⟩
  ·rcases b2 with z | z
   ·exact .inr (.inl z)
   ·exact .inr (.inr z)
  ·intro z;have z':X.env.scope.names.lookup x=some .local:=z;rcases b2 with q | q <;> rw [z'] at q <;> cases q
section
variable {σ σ':St} {H:Hp} {Q:VK} {QT:Bool→Hp→Prop} {QA:List V→Hp→Prop} {i j:Int} {v x y:V} {te ta tb:TE} {tc tc':TT} {tl tr:TA} {t u:TS} {K:PySem.W.Frag} {p:Addr} {xs:List V}
 {nx bk ct:St→Hp→Prop} {rt:VK} {D:Ends} {r r':R2} {n:Nat}
theorem zeV {i:Nat} (h:σ[i]? = some (some v)) (q:Q v H):tVar i σ H Q:=⟨v,h,q⟩
theorem r_c (q:Q v H):tC v σ H Q:=q
theorem r_op (h:ta σ H fun x H1=>tb σ H1 fun y H2=>r x y H2 Q):tOp r ta tb σ H Q:=h
theorem r_I0 {g:Int→Int→V} (q:Q (g i j) H):rI0 g (.int i) (.int j) H Q:=⟨i,j,rfl,rfl,q⟩
theorem zms (q:Q (.bl (decide (i=j))) H):rEq (.int i) (.int j) H Q:=⟨rfl,by simpa using q⟩
theorem zmt (q:Q (.bl (!decide (i=j))) H):rNe (.int i) (.int j) H Q:=⟨rfl,by simpa using q⟩
theorem zmu {a b:Bool} (q:Q (.bl (decide (a=b))) H):rEq (.bl a) (.bl b) H Q:=⟨rfl,by simpa using q⟩
theorem zmv {a b:Bool} (q:Q (.bl (!decide (a=b))) H):rNe (.bl a) (.bl b) H Q:=⟨rfl,by simpa using q⟩
theorem zhh (h:SqL K H p xs) (e:atI xs i=some v) (q:Q v H):rIxL K (.ref p) (.int i) H Q:=⟨p,xs,i,v,rfl,rfl,h,e,q⟩
theorem r_cb {f:List V→Hp→VK→Prop} (h:tl σ H fun vs H1=>f vs H1 Q):tCB f tl σ H Q:=h
theorem zes (q:QA [] H):tNil σ H QA:=q
theorem zfo (h:ta σ H fun x H1=>tl σ H1 fun xs H2=>QA (x::xs) H2):zf0 ta tl σ H QA:=h
theorem zln {sp:Sp} {E:XK} (h:tl σ H fun vs H1=>sp vs H1 Q E):zkm sp [] E tl σ H Q:=by
 unfold zkm;simpa only [List.append_nil] using h
theorem zbN {c:Prop} {A B:Prop} [Decidable c] (h1:c→A) (h2:¬c→B):if decide c=true then A else B:=by
 by_cases h:c
 ·rw [if_pos (decide_eq_true h)];exact h1 h
 ·rw [if_neg (by simpa using h)];exact h2 h
theorem zdj {c:Prop} {A B:Prop} [Decidable c] (h1:¬c→A) (h2:c→B):if (!decide c)=true then A else B:=by
 by_cases h:c
 ·rw [if_neg (by simpa using h)];exact h2 h
 ·rw [if_pos (by simpa using h)];exact h1 h
theorem zmw {b:Bool} {A B:Prop} (h1:b=true→A) (h2:b=false→B):if b=true then A else B:=by
 cases b with
 | true=>exact h1 rfl
 | false=>exact h2 rfl
theorem zlo {b:Bool} {A B:Prop} (h1:b=false→A) (h2:b=true→B):if (!b)=true then A else B:=by
 cases b with
 | true=>exact h2 rfl
 | false=>exact h1 rfl
theorem zdk {ns:List Int} {k:Int} (h0:0≤k) (h1:k < ns.length):atI (ns.map V.int) k=some (.int (ns.getD k.toNat 0)):=by
 obtain ⟨n,rfl⟩:=Int.eq_ofNat_of_zero_le h0;have hn:n < ns.length:=by omega
 refine zh4 ?_;rw [List.getElem?_map,List.getD_eq_getElem?_getD,Int.toNat_natCast,List.getElem?_eq_getElem hn];rfl
theorem zjj {ps:List Addr} {k:Int} (h0:0≤k) (h1:k < ps.length):atI (ps.map V.ref) k=some (.ref (ps.getD k.toNat 0)):=by
 obtain ⟨n,rfl⟩:=Int.eq_ofNat_of_zero_le h0;have hn:n < ps.length:=by omega
 refine zh4 ?_;rw [List.getElem?_map,List.getD_eq_getElem?_getD,Int.toNat_natCast,List.getElem?_eq_getElem hn];rfl
def zii (xs:List V) (H:Hp) (Q:VK):Prop:=xs.length≤sizeLine∧∀ p,H p=none→Q (.ref p) (upd H p (.lst xs))
theorem zmx (h:tl σ H fun xs H1=>zii xs H1 Q):tLst tl σ H Q:=h
theorem r_bm {T:String} {f:V→List V→Hp→VK→Prop} (h:te σ H fun x H1=>tyV K T x H1∧tl σ H1 fun xs H2=>f x xs H2 Q):tBM K T f te tl σ H Q:=h
theorem zlp (h:ta σ H fun x H1=>∃ c,x=.bl c∧if c=true then tb σ H1 Q else Q (.bl false) H1):zk4 ta tb σ H Q:=h
theorem zlq (h:ta σ H fun x H1=>∃ c,x=.bl c∧Q (.bl (!c)) H1):zk5 ta σ H Q:=h
theorem zlr {b:Bool} {P:Bool→Prop} (h:P b):∃ c,V.bl b=.bl c∧P c:=⟨b,rfl,h⟩
theorem zls (h:ta σ H fun x H'=>∃ k,x=.bl k∧QT k H'):zlb ta σ H QT:=h
theorem r_tB (h:ta σ H fun x H'=>∃ k,x=.bl k∧QT k H'):tB ta σ H QT:=h
theorem zmy (h:tc σ H fun c H1=>if c=true then tc' σ H1 QT else QT false H1):tAnd tc tc' σ H QT:=h
theorem r_or (h:tc σ H fun c H1=>if c=true then QT true H1 else tc' σ H1 QT):tOr tc tc' σ H QT:=h
theorem zmz (h:tc σ H fun c H1=>QT (!c) H1):tNot tc σ H QT:=h
theorem r_tt (h:QT true H):tTT σ H QT:=h
theorem zjk (h:t ⟨u ⟨nx,rt,bk,ct⟩,rt,bk,ct⟩ σ H):tSeq t u ⟨nx,rt,bk,ct⟩ σ H:=h
theorem zmA (h:te σ H rt):tRet te ⟨nx,rt,bk,ct⟩ σ H:=h
theorem zlt (h:te σ H fun _ H1=>nx σ H1):zk6 te ⟨nx,rt,bk,ct⟩ σ H:=h
theorem zlu (h:nx σ H):tNext ⟨nx,rt,bk,ct⟩ σ H:=h
theorem zmB {i:Nat} (h:te σ H fun x H1=>nx (σ.set i (some x)) H1):tAsg te (zcs i) ⟨nx,rt,bk,ct⟩ σ H:=h
theorem zmC (h:tc σ H fun b H1=>if b=true then t D σ H1 else u D σ H1):tIfS tc t u D σ H:=h
theorem zkx {i:Nat} {N:St→Hp→Prop} (h:N (σ.set i (some v)) H):zcs i v σ H N:=h
def ForR (lo:Int) (n:Nat) (g:TG) (tb:TS) (D:Ends) (σ:St) (H:Hp):Prop :=
 ∃ W:Nat→Nat→St→Hp→Prop,(∃ m,W 0 m σ H)∧∀ i m σ H,W i m σ H →
  ((Itr lo n).stop i H∧D.nx σ H)∨((Itr lo n).go i H∧∃ N:St→Hp→Prop,(∀ σ' H',N σ' H'→∃ m',m' < m∧W (i+1) m' σ' H')∧∀ x H',(Itr lo n).yld i H x H'→g x σ H' fun σ2 H2=>tb { D with nx:=N,ct:=N,bk:=D.nx } σ2 H2)
theorem zlv {g:TG} {tb:TS} (h:tl σ H fun vs H1=>∃ j:Int,vs=[.int j]∧-(2 ^ 62)≤j∧j < 2 ^ 62∧ForR 0 j.toNat g tb D σ H1):tFor (zkh tl) g tb D σ H:=h
theorem zlw {g:TG} {tb:TS} (h:tl σ H fun vs H1=>∃ i j:Int,vs=[.int i,.int j]∧(-(2 ^ 62)≤i∧i < 2 ^ 62∧-(2 ^ 62)≤j∧j < 2 ^ 62)∧ForR i (j-i).toNat g tb D σ H1):tFor (zki tl) g tb D σ H:=h
theorem zco {P:Int→Prop} (b1 : -(2 ^ 62)≤i) (b2:i < 2 ^ 62) (h:P i):∃ j:Int,[V.int i]=[.int j]∧-(2 ^ 62)≤j∧j < 2 ^ 62∧P j:=⟨i,rfl,b1,b2,h⟩
theorem zeD {P:Int→Int→Prop} (b : -(2 ^ 62)≤i∧i < 2 ^ 62∧-(2 ^ 62)≤j∧j < 2 ^ 62) (h:P i j):∃ i' j':Int,[V.int i,V.int j]=[.int i',.int j']∧(-(2 ^ 62)≤i'∧i' < 2 ^ 62∧-(2 ^ 62)≤j'∧j' < 2 ^ 62)∧P i' j':=⟨i,j,rfl,b,h⟩
theorem zmD (h:SqL K H p xs) (q:Q (.int xs.length) H):cLen K [.ref p] H Q:=⟨p,xs,rfl,.inl h,q⟩
theorem zlx {ns:List Int} (h:SqL K H p (ns.map V.int)) (q:Q (.int ns.length) H):cLen K [.ref p] H Q:=⟨p,_,rfl,.inl h,by rw [List.length_map];exact q⟩
theorem zly {ns:List Addr} (h:SqL K H p (ns.map V.ref)) (q:Q (.int ns.length) H):cLen K [.ref p] H Q:=⟨p,_,rfl,.inl h,by rw [List.length_map];exact q⟩
theorem zmE {T:String} {ty:Value} {b:Bool} (h:TyOf K H x ty) (e:PySem.W.kitOne K ty (.type T)=some b) (q:Q (.bl b) H):cIsi K [x,.ty T] H Q:=⟨x,T,ty,b,rfl,h,e,q⟩
theorem zky (h:ta σ H fun x H'=>∃ k,TruV K x H' k∧QT k H'):zj3 K ta σ H QT:=h
theorem zkz {b:Bool} {P:Bool→Prop} (h:P b):∃ k,TruV K (.bl b) H k∧P k:=⟨b,rfl,h⟩
theorem zlz (q:Q (.int (i+j)) H):rAddG (.int i) (.int j) H Q:=.inl ⟨i,j,rfl,rfl,q⟩
theorem zj5 (q:Q (.bl (!decide (i=j))) H):rNeG K (.int i) (.int j) H Q:=zmt q
theorem zj6 {a b:Bool} (q:Q (.bl (!decide (a=b))) H):rNeG K (.bl a) (.bl b) H Q:=zmv q
theorem zbX {lo:Int} {g:TG} {tb:TS} (Pv:Nat→St→Hp→Prop) (h0:Pv 0 σ H)
  (hs:∀ i σ H,i < n→Pv i σ H→g (.int (lo+i)) σ H fun σ2 H2=>tb ⟨Pv (i+1),rt,nx,Pv (i+1)⟩ σ2 H2) (hd:∀ σ H,Pv n σ H→nx σ H):ForR lo n g tb ⟨nx,rt,bk,ct⟩ σ H :=
 zhS (D:=⟨nx,rt,bk,ct⟩) Pv h0 hs hd
end
end L2
namespace L2
open PySem PySem.Spec PyProof.Rows
section
variable {H:Hp} {Q:VK} {K:PySem.W.Frag} {p:Addr} {xs:List V} {y:V}
theorem zaY {H:Hp} {p:Addr} {o:HO} (hp:H p=none):Same H (upd H p o):=fun b u e=>by
 rw [zaJ (zai e hp)];exact e
def But (p:Addr) (H H':Hp):Prop:=∀ b,b≠p→H' b=H b
theorem But.upd {H:Hp} {p:Addr} {o:HO}:But p H (upd H p o):=fun b h=>zaJ h
theorem Same.but {B H H':Hp} {p:Addr} (s:Same B H) (b:But p H H') (hp:B p=none):Same B H':=fun c o e=>by
 rw [b c (zai e hp)];exact s c o e
theorem zaA (hz:xs.length≤1000) (h:∀ p H2,H p=none→Same H H2→H2 p=some (.lst xs)→Q (.ref p) H2):zii xs H Q :=
 ⟨Nat.le_of_lt (za2 hz),fun p hp=>h p _ hp (zaY hp) zas⟩
theorem zaS (h:H p=some (.lst xs)) (hz:xs.length≤1000000) (q:∀ H2,But p H H2→H2 p=some (.lst (xs++[y]))→Q .non H2):rAppend (.ref p) [y] H Q:=⟨p,xs,y,rfl,rfl,h,by rw [sizeLine_eq];omega,q _ But.upd zas⟩
theorem zgJ {a b:Addr} {ys:List V} (h:H a=some (.lst xs)) (h':H b=some (.lst ys)) (hz:xs.length+ys.length≤1000) (q:∀ p H2,H p=none→Same H H2→H2 p=some (.lst (xs++ys))→Q (.ref p) H2):rAddG (.ref a) (.ref b) H Q :=
 .inr (.inl ⟨a,b,xs,ys,rfl,rfl,h,h',Nat.le_of_lt (za2 hz),fun p hp=>q p _ hp (zaY hp) zas⟩)
theorem zij {c d:Bool} {tb:TT} {σ:St} {QT:Bool→Hp→Prop} (hb:c=true→∀ Q':Bool→Hp→Prop,Q' d H→tb σ H Q') (q:QT (c && d) H):if c=true then tb σ H QT else QT false H:=by
 cases c with
 | false=>exact q
 | true=>exact hb rfl QT q
theorem zmF {f:Int→Int→V} {i j:Int} (c:0 < j) (q:Q (f i j) H):rI (fun _ j=>0 < j) f (.int i) (.int j) H Q:=⟨i,j,rfl,rfl,c,q⟩
theorem zmG {P:Prop} (h:H p=some (.lst xs)) (q:P):tyV K "list" (.ref p) H∧P:=⟨.inl ⟨rfl,_,SqL.of h⟩,q⟩
end
end L2
namespace L2
open PySem PySem.Spec PyProof.Rows
section
variable {σ:St} {H:Hp} {Q:VK} {K:PySem.W.Frag} {js:List Nat} {te:TE} {tc:TT} {J:It} {n:Nat} {x:Nat→V}
structure Iter (J:It) (n:Nat) (x:Nat→V) (H:Hp):Prop where
 go:∀ i H',Same H H'→i < n→J.go i H'
 yld:∀ i H' v H2,Same H H'→i < n→J.yld i H' v H2→H2=H'∧v=x i
 stop:∀ H',Same H H'→J.stop n H'
theorem zcK (lo:Int) (n:Nat) (H:Hp):Iter (Itr lo n) n (fun i=>.int (lo+i)) H :=
 ⟨fun i H' _ h=>h,fun i H' v H2 _ _ h=>h,fun H' _=>Nat.le_refl n⟩
theorem zbh {a:Addr} {xs:List V} (h:SqL K H a xs):Iter (Itl K a) xs.length (fun i=>xs.getD i .non) H :=
 ⟨fun i H' s hi=>⟨xs,xs[i],s.seq h,List.getElem?_eq_getElem hi⟩,fun i H' v H2 s hi h'=>⟨h'.1,by
  have:=h'.2 xs (s.seq h);rw [List.getD_eq_getElem?_getD,this];rfl⟩,fun H' s=>⟨xs,s.seq h,Nat.le_refl _⟩⟩
def zet (J:It) (js:List Nat) (tc:TT) (te:TE) (σ:St) (H:Hp) (Q:VK):Prop:=∀ p,H p=none →
 ∃ W:Nat→Nat→St→Hp→Prop,(∃ m,W 0 m (capS 1 js σ) (upd H p (.lst [])))∧∀ i m σc H,W i m σc H →
  (J.stop i H∧Q (.ref p) H)∨(J.go i H∧∃ N:St→Hp→Prop,(∀ σ' H',N σ' H'→∃ m',m' < m∧W (i+1) m' σ' H')∧∀ x H',J.yld i H x H' →
   zcs 0 x σc H' fun σ2 H2=>tc σ2 H2 fun b H3=>if b=true then te σ2 H3 fun v H4=>∃ ys,H4 p=some (.lst ys)∧ys.length < sizeLine∧N σ2 (upd H4 p (.lst (ys++[v]))) else N σ2 H3)
theorem zkA {tl:TA} (h:tl σ H fun vs H1=>∃ j:Int,vs=[.int j]∧-(2 ^ 62)≤j∧j < 2 ^ 62∧zet (Itr 0 j.toNat) js tc te σ H1 Q):zf3 (zkh tl) 1 js (zcs 0) tc te σ H Q:=h
theorem zkB {tl:TA} (h:tl σ H fun vs H1=>∃ i j:Int,vs=[.int i,.int j]∧(-(2 ^ 62)≤i∧i < 2 ^ 62∧-(2 ^ 62)≤j∧j < 2 ^ 62)∧zet (Itr i (j-i).toNat) js tc te σ H1 Q):zf3 (zki tl) 1 js (zcs 0) tc te σ H Q:=h
theorem zkC {tl:TE} (h:tl σ H fun x H1=>∃ a,x=.ref a∧(∃ xs,SqL K H1 a xs)∧zet (Itl K a) js tc te σ H1 Q):zf3 (zi7 K tl) 1 js (zcs 0) tc te σ H Q:=h
def capV (js:List Nat) (σ:St):St:=js.map fun j=>(σ[j]?).getD none
theorem zfp (u:Option V) (v:V):(u::capV js σ).set 0 (some v)=some v::capV js σ:=rfl
theorem zdZ {H H':Hp} {p:Addr} {o:HO} (s:Same H H') (hp:H p=none):Same H (upd H' p o):=fun b u e=>by
 rw [zaJ (zai e hp)];exact s b u e
theorem zdl (it:Iter J n x H) (hz:n < sizeLine) (c:Nat→Bool) (f:Nat→V)
  (ht:∀ i H' Q',i < n→Same H H'→Q' (c i) H'→tc (some (x i)::capV js σ) H' Q')
  (he:∀ i H' Q',i < n→Same H H'→c i=true→Q' (f i) H'→te (some (x i)::capV js σ) H' Q')
  (hq:∀ p,H p=none→Q (.ref p) (upd H p (.lst (((List.range n).filter c).map f)))):zet J js tc te σ H Q:=by
 intro p hp;refine ⟨fun i m σc H'=>m=n-i∧i≤n∧(∃ u,σc=u::capV js σ)∧H'=upd H p (.lst (((List.range i).filter c).map f)),⟨n,by simp,Nat.zero_le _,⟨none,rfl⟩,rfl⟩,?_⟩;rintro i m σc H' ⟨rfl,hi,⟨u,rfl⟩,rfl⟩;have s:∀ o,Same H (upd H p o):=fun o=>zaY hp;have hlen:(((List.range i).filter c).map f).length≤i:=by
  rw [List.length_map];exact Nat.le_trans (List.length_filter_le _ _) (by simp)
 by_cases hlt:i < n
 ·refine .inr ⟨it.go i _ (s _) hlt,fun σ' H'=>(∃ u,σ'=u::capV js σ)∧H'=upd H p (.lst (((List.range (i+1)).filter c).map f)),fun σ' H' ⟨h1,h2⟩=>⟨n-(i+1),by omega,rfl,hlt,h1,h2⟩,fun v H2 hy=>?_⟩;obtain ⟨rfl,rfl⟩:=it.yld i _ v H2 (s _) hlt hy;show tc ((u::capV js σ).set 0 (some (x i))) _ _;rw [zfp];have e:(List.range (i+1)).filter c=(List.range i).filter c++if c i=true then [i] else []:=by
   rw [List.range_succ,List.filter_append]
   cases hc:c i <;> simp [hc]
  refine ht i _ _ hlt (s _) ?_
  cases hc:c i with
  | false =>
    rw [if_neg Bool.false_ne_true];refine ⟨⟨_,rfl⟩,?_⟩;rw [e,hc];simp
  | true =>
    rw [if_pos rfl];refine he i _ _ hlt (s _) hc ⟨_,zas,by omega,⟨_,rfl⟩,?_⟩;rw [zkd,e,hc];simp
 ·have e:i=n:=by omega
  subst e;exact .inl ⟨it.stop _ (s _),hq p hp⟩
theorem zhi (it:Iter J n x H) (hz:n < sizeLine) (f:Nat→List V)
  (he:∀ i H' Q',i < n→Same H H'→(∀ q,H' q=none→Q' (.ref q) (upd H' q (.lst (f i))))→te (some (x i)::capV js σ) H' Q')
  (hq:∀ p (ps:List Addr) H',H p=none→Same H H'→ps.length=n→H' p=some (.lst (ps.map V.ref))→(∀ i,i < n→H' (ps.getD i 0)=some (.lst (f i))∧H (ps.getD i 0)=none∧ps.getD i 0≠p)→ps.Nodup→Q (.ref p) H'):zet J js tTT te σ H Q:=by
 intro p hp;refine ⟨fun i m σc H'=>m=n-i∧i≤n∧(∃ u,σc=u::capV js σ)∧∃ ps:List Addr,Same H H'∧ps.length=i∧H' p=some (.lst (ps.map V.ref))∧(∀ j,j < i→H' (ps.getD j 0)=some (.lst (f j))∧H (ps.getD j 0)=none∧ps.getD j 0≠p)∧ps.Nodup,⟨n,by simp,Nat.zero_le _,⟨none,rfl⟩,[],zaY hp,rfl,zas,fun j hj=>absurd hj (by omega),List.nodup_nil⟩,?_⟩;rintro i m σc H' ⟨rfl,hi,⟨u,rfl⟩,ps,s,hl,hpp,hall,nd⟩
 by_cases hlt:i < n
 ·refine .inr ⟨it.go i _ s hlt,fun σ' H'=>(∃ u,σ'=u::capV js σ)∧∃ ps:List Addr,Same H H'∧ps.length=i+1∧H' p=some (.lst (ps.map V.ref))∧(∀ j,j < i+1→H' (ps.getD j 0)=some (.lst (f j))∧H (ps.getD j 0)=none∧ps.getD j 0≠p)∧ps.Nodup,
   fun σ' H' ⟨h1,h2⟩=>⟨n-(i+1),by omega,rfl,hlt,h1,h2⟩,fun v H2 hy=>?_⟩
  obtain ⟨rfl,rfl⟩:=it.yld i _ v H2 s hlt hy;show te ((u::capV js σ).set 0 (some (x i))) _ _;rw [zfp];refine he i _ _ hlt s fun q hq0=>?_;have hqp:p≠q:=zai hpp hq0;have hHq:H q=none:=s.free hq0;refine ⟨ps.map V.ref,by rw [zaJ hqp];exact hpp,by rw [List.length_map];omega,⟨_,rfl⟩,ps++[q],?_,by rw [List.length_append,hl];rfl,by rw [zas,List.map_append];rfl,fun j hj=>?_,?_⟩
  ·exact zdZ (zdZ s hHq) hp
  ·by_cases hji:j < i
   ·obtain ⟨a1,a2,a3⟩:=hall j hji;have e:(ps++[q]).getD j 0=ps.getD j 0:=by
     rw [List.getD_eq_getElem?_getD,List.getD_eq_getElem?_getD,List.getElem?_append_left (by omega)]
    rw [e];refine ⟨?_,a2,a3⟩;rw [zaJ a3,zaJ (zai a1 hq0)];exact a1
   ·have e0:j=i:=by omega
    subst e0;have e:(ps++[q]).getD j 0=q:=by
     rw [List.getD_eq_getElem?_getD,List.getElem?_append_right (by omega)];simp [hl]
    rw [e];refine ⟨?_,hHq,hqp.symm⟩;rw [zaJ hqp.symm,zas]
  ·refine List.nodup_append.mpr ⟨nd,by simp,fun a ha b hb=>?_⟩;have hb':b=q:=by simpa using hb
   subst hb';obtain ⟨k,hk,e⟩:=List.getElem_of_mem ha;have e2:ps.getD k 0=a:=by rw [List.getD_eq_getElem?_getD,List.getElem?_eq_getElem hk,e];rfl
   have:=(hall k (by omega)).1;rw [e2] at this;exact zai this hq0
 ·have e:i=n:=by omega
  subst e;exact .inl ⟨it.stop _ s,hq p ps H' hp s hl hpp hall nd⟩
def ForI (J:It) (g:TG) (tb:TS) (D:Ends) (σ:St) (H:Hp):Prop :=
 ∃ W:Nat→Nat→St→Hp→Prop,(∃ m,W 0 m σ H)∧∀ i m σ H,W i m σ H →
  (J.stop i H∧D.nx σ H)∨(J.go i H∧∃ N:St→Hp→Prop,(∀ σ' H',N σ' H'→∃ m',m' < m∧W (i+1) m' σ' H')∧∀ x H',J.yld i H x H'→g x σ H' fun σ2 H2=>tb { D with nx:=N,ct:=N,bk:=D.nx } σ2 H2)
theorem zlA {tl:TE} {g:TG} {tb:TS} {D:Ends} (h:tl σ H fun x H1=>∃ a,x=.ref a∧(∃ xs,SqL K H1 a xs)∧ForI (Itl K a) g tb D σ H1):tFor (zi7 K tl) g tb D σ H:=h
theorem zaW {a:Addr} {P:Addr→Prop} {xs:List V} (h:SqL K H a xs) (q:P a):∃ b,V.ref a=.ref b∧(∃ xs,SqL K H b xs)∧P b:=⟨a,rfl,⟨xs,h⟩,q⟩
theorem zce {a:Addr} {xs:List V} {g:TG} {tb:TS} {nx bk ct:St→Hp→Prop} {rt:VK} (Pv:Nat→St→Hp→Prop) (h0:Pv 0 σ H) (hl:∀ i σ H,i≤xs.length→Pv i σ H→SqL K H a xs)
  (hs:∀ i x σ H,xs[i]? = some x→Pv i σ H→g x σ H fun σ2 H2=>tb ⟨Pv (i+1),rt,nx,Pv (i+1)⟩ σ2 H2) (hd:∀ σ H,Pv xs.length σ H→nx σ H):ForI (Itl K a) g tb ⟨nx,rt,bk,ct⟩ σ H :=
 zi8 (D:=⟨nx,rt,bk,ct⟩) Pv h0 hl hs hd
theorem zjl {xs ys:List Int} (hl:xs.length=ys.length) (h:∀ j,j < xs.length→xs.getD j 0=ys.getD j 0):xs=ys:=by
 refine List.ext_getElem hl fun i h1 h2=>?_;have:=h i h1;rw [List.getD_eq_getElem?_getD,List.getD_eq_getElem?_getD,List.getElem?_eq_getElem h1,List.getElem?_eq_getElem h2] at this;exact this
theorem zfq (it:Iter J n x H) (hz:n≤1000) (f:Nat→Int)
  (he:∀ i H' Q',i < n→Same H H'→Q' (.int (f i)) H'→te (some (x i)::capV js σ) H' Q')
  (hq:∀ p H2,H p=none→Same H H2→H2 p=some (.lst (((List.range n).map f).map V.int))→Q (.ref p) H2):zet J js tTT te σ H Q:=by
 refine zdl it (za2 hz) (fun _=>true) (fun i=>.int (f i)) (fun i H' Q' _ _ q=>q) (fun i H' Q' hi s _ q=>he i H' Q' hi s q) fun p hp=>hq p _ hp (zaY hp) ?_;rw [zas,List.filter_eq_self.mpr (fun _ _=>rfl),List.map_map];rfl
theorem zfr (it:Iter J n x H) (hz:n≤1000) (c:Nat→Bool) (f:Nat→Int)
  (ht:∀ i H' Q',i < n→Same H H'→Q' (c i) H'→tc (some (x i)::capV js σ) H' Q')
  (he:∀ i H' Q',i < n→Same H H'→c i=true→Q' (.int (f i)) H'→te (some (x i)::capV js σ) H' Q')
  (hq:∀ p H2,H p=none→Same H H2→H2 p=some (.lst ((((List.range n).filter c).map f).map V.int))→Q (.ref p) H2):zet J js tc te σ H Q:=by
 refine zdl it (za2 hz) c (fun i=>.int (f i)) ht (fun i H' Q' hi s hc q=>he i H' Q' hi s hc q) fun p hp=>hq p _ hp (zaY hp) ?_;rw [zas,List.map_map];rfl
end
end L2
namespace L2
open PySem PySem.Spec PyProof.Rows
def LL (K:PySem.W.Frag) (H:Hp) (a:Addr) (rs:List (List Int)):Prop :=
 ∃ ps:List Addr,SqL K H a (ps.map V.ref)∧ps.length=rs.length∧∀ i,i < rs.length→H (ps.getD i 0)=some (.lst ((rs.getD i []).map V.int))
theorem LL.same {K:PySem.W.Frag} {H H':Hp} {a:Addr} {rs:List (List Int)} (h:LL K H a rs) (s:Same H H'):LL K H' a rs:=by
 obtain ⟨ps,h1,h2,h3⟩:=h;exact ⟨ps,s.seq h1,h2,fun i hi=>s _ _ (h3 i hi)⟩
structure RowsAt (B:Hp) (p:Addr) (rs:List (List Int)) (H:Hp):Prop where
 same:Same B H
 new:B p=none
 rows:∃ ps:List Addr,H p=some (.lst (ps.map V.ref))∧ps.length=rs.length∧ps.Nodup∧∀ i,i < rs.length→H (ps.getD i 0)=some (.lst ((rs.getD i []).map V.int))∧B (ps.getD i 0)=none∧ps.getD i 0≠p
theorem RowsAt.start {B H:Hp} {p:Addr} (hp:B p=none) (s:Same B H) (e:H p=some (.lst [])):RowsAt B p [] H :=
 ⟨s,hp,[],e,rfl,List.nodup_nil,fun i hi=>absurd hi (by simp)⟩
theorem zaw {α:Type} {xs ys:List α} {d:α} {i:Nat} (h:i < xs.length):(xs++ys).getD i d=xs.getD i d:=by
 rw [List.getD_eq_getElem?_getD,List.getD_eq_getElem?_getD,List.getElem?_append_left h]
theorem zau {α:Type} {xs:List α} {y d:α}:(xs++[y]).getD xs.length d=y:=by
 rw [List.getD_eq_getElem?_getD,List.getElem?_append_right (Nat.le_refl _)];simp
theorem mem_getD {α:Type} {xs:List α} {d a:α} (h:a∈xs):∃ i,i < xs.length∧xs.getD i d=a:=by
 obtain ⟨k,hk,e⟩:=List.getElem_of_mem h;exact ⟨k,hk,by rw [List.getD_eq_getElem?_getD,List.getElem?_eq_getElem hk,e];rfl⟩
theorem RowsAt.push {B H H2 H3:Hp} {p q:Addr} {rs:List (List Int)} {r:List Int} {zs:List V} (R:RowsAt B p rs H) (hq:H q=none) (s:Same H H2) (e:H2 q=some (.lst (r.map V.int))) (hz:H2 p=some (.lst zs)) (b:But p H2 H3) (e3:H3 p=some (.lst (zs++[.ref q]))):RowsAt B p (rs++[r]) H3:=by
 obtain ⟨sb,hp,ps,h1,h2,nd,h3⟩:=R;have ez:zs=ps.map V.ref:=by
  have:=s p _ h1;rw [hz] at this;exact (HO.lst.inj (Option.some.inj this))
 subst ez;have hBq:B q=none:=sb.free hq;have hqp:q≠p:=(zai h1 hq).symm;refine ⟨(sb.trans s).but b hp,hp,ps++[q],by rw [e3,List.map_append];rfl,by simp [h2],?_,fun i hi=>?_⟩
 ·refine List.nodup_append.mpr ⟨nd,by simp,fun a ha c hc=>?_⟩;have hc':c=q:=by simpa using hc
  subst hc';obtain ⟨k,hk,ek⟩:=mem_getD (d:=0) ha;have:=(h3 k (by omega)).1;rw [ek] at this;exact zai this hq
 ·rw [List.length_append,List.length_singleton] at hi
  by_cases hlt:i < rs.length
  ·obtain ⟨a1,a2,a3⟩:=h3 i hlt;rw [zaw (by omega),zaw hlt];refine ⟨?_,a2,a3⟩;rw [b _ a3];exact s _ _ a1
  ·have ei:i=rs.length:=by omega
   subst ei;rw [zau,← h2,zau];refine ⟨?_,hBq,hqp⟩;rw [b _ hqp];exact e
theorem RowsAt.ll {K:PySem.W.Frag} {B H:Hp} {p:Addr} {rs:List (List Int)} (R:RowsAt B p rs H):LL K H p rs:=by
 obtain ⟨sb,hp,ps,h1,h2,nd,h3⟩:=R;exact ⟨ps,SqL.of h1,h2,fun i hi=>(h3 i hi).1⟩
theorem RowsAt.lst {B H:Hp} {p:Addr} {rs:List (List Int)} (R:RowsAt B p rs H):∃ zs:List V,H p=some (.lst zs)∧zs.length=rs.length:=by
 obtain ⟨sb,hp,ps,h1,h2,nd,h3⟩:=R;exact ⟨_,h1,by rw [List.length_map,h2]⟩
theorem zaE {α:Type} {f:Nat→α} {n i:Nat} {d:α} (h:i < n):((List.range n).map f).getD i d=f i:=by
 rw [List.getD_eq_getElem?_getD,List.getElem?_map,List.getElem?_range h];rfl
theorem zfs {xs ys:List (List Int)} (hl:xs.length=ys.length) (h:∀ j,j < xs.length→xs.getD j []=ys.getD j []):xs=ys:=by
 refine List.ext_getElem hl fun i h1 h2=>?_;have:=h i h1;rw [List.getD_eq_getElem?_getD,List.getD_eq_getElem?_getD,List.getElem?_eq_getElem h1,List.getElem?_eq_getElem h2] at this;exact this
end L2
namespace L2
open PySem PySem.Spec PyProof.Rows
section
variable {X:Cx} {tg:Expr}
end
section
variable {σ:St} {H:Hp} {i j:Int} {D:Ends} {nx bk ct:St→Hp→Prop} {rt:VK} {n:Nat} {Q:VK}
theorem r_un {f:Int→V} (q:Q (f i) H):rU f (.int i) H Q:=⟨i,rfl,q⟩
theorem zmH {r:V→Hp→VK→Prop} {ta:TE} (h:ta σ H fun x H1=>r x H1 Q):tUn r ta σ H Q:=h
end
end L2
namespace L2
open PySem PySem.Spec PyProof.Rows
section
variable {X:Cx} {pins:List (Addr×Obj)} {σ:St} {H:Hp} {s:Shared} {h':Heap}
theorem Inv.turnedNew {ch:List Addr} {T:Addr} {o:HO} {t':Nat} (I:Inv X pins σ H s) (k:∀ b ob,b∉ch→s.heap.get? b=some ob→h'.get? b=some ob) (hf:∀ b∈ch,FpOk X pins H b∧∃ ob,h'.get? b=some ob) (hT:s.heap.objs.size≤T)
  (new:zbI X.prog X.w (upd H T o) h' T o):Inv X pins σ (upd H T o) { s with heap:=h',toks:=t' }:=by
 have hn:H T=none:=I.hok.fresh hT;have ne:∀ b ob,s.heap.get? b=some ob→b≠T:=fun b ob e=>Nat.ne_of_lt (Nat.lt_of_lt_of_le (Heap.lt_size e) hT);have nch:∀ b u,H b=some u→b∉ch:=fun b u e z=>by rw [(hf b z).1.1] at e;cases e
 refine I.step (g':=s.gens) (d':=s.drawn) (ch:=ch) (fun b hb=>?_) (fun b ob _ _ hc e _=>k b ob hc e) (fun b ob _ _ hc e _=>⟨ob.slots,k b ob hc e⟩) (fun b ob _ e n=>by rw [zaJ (ne b ob e)];exact n)
  (fun b ob hc e=>⟨ob,k b ob hc e⟩) (fun b xs e=>by rw [zaJ (zai e hn)];exact e) (fun b ob u e=>by rw [zaJ (zai e hn)];exact e) (fun b ps e=>⟨#[],by rw [zaJ (zai e hn),e];simp⟩) (fun m hm=>?_) (fun b u e=>?_) I.bare
 ·obtain ⟨⟨f0,f1,f2,f3,f4,f5⟩,_⟩:=hf b hb;exact ⟨f3,f1,f4,f5⟩
 ·obtain ⟨ob,es,ep,ho,r⟩:=hm;exact ⟨ob,es,ep,k _ ob (fun z=>(hf _ z).1.2.1 rfl) ho,r⟩
 ·by_cases hb:b=T
  ·subst hb;rw [zas] at e;cases e;exact new
  ·rw [zaJ hb] at e;refine (I.hok b u e).stay (fun c v hc q=>k c v ?_ q) (fun c q=>by rw [zaJ (zai q hn)];exact q) fun c xs q=>by rw [zaJ (zai q hn)];exact q
   rcases hc with z | z
   ·rw [z];exact nch b u e
   ·exact nch c _ z
theorem Inv.turnedL {ch:List Addr} {t':Nat} (I:Inv X pins σ H s) (k:∀ b ob,b∉ch→s.heap.get? b=some ob→h'.get? b=some ob) (hf:∀ b∈ch,FpOk X pins H b):Inv X pins σ H { s with heap:=h',toks:=t' }:=by
 have nch:∀ b u,H b=some u→b∉ch:=fun b u e z=>by rw [(hf b z).1] at e;cases e
 refine I.step (g':=s.gens) (d':=s.drawn) (ch:=ch) (fun b hb=>?_) (fun b ob _ _ hc e _=>k b ob hc e) (fun b ob _ _ hc e _=>⟨ob.slots,k b ob hc e⟩) (fun b ob _ e n=>n)
  (fun b ob hc e=>⟨ob,k b ob hc e⟩) (fun b xs e=>e) (fun b ob u e=>e) (fun b ps e=>⟨#[],by rw [e];simp⟩) (fun m hm=>?_) (fun b u e=>?_) I.bare
 ·obtain ⟨f0,f1,f2,f3,f4,f5⟩:=hf b hb;exact ⟨f3,f1,f4,f5⟩
 ·obtain ⟨ob,es,ep,ho,r⟩:=hm;exact ⟨ob,es,ep,k _ ob (fun z=>(hf _ z).2.1 rfl) ho,r⟩
 ·refine (I.hok b u e).stay (fun c v hc q=>k c v ?_ q) (fun c q=>q) fun c xs q=>q;rcases hc with z | z
  ·rw [z];exact nch b u e
  ·exact nch c _ z
end
def Itz (K:PySem.W.Frag) (a b:Addr):It :=
 ⟨fun i H=>∃ xs ys x y,SqL K H a xs∧SqL K H b ys∧xs[i]? = some x∧ys[i]? = some y,
  fun i H v H'=>∃ T,H T=none∧v=.ref T∧∀ xs ys,SqL K H a xs→SqL K H b ys→∃ x y,xs[i]? = some x∧ys[i]? = some y∧H'=upd H T (.tup [x,y]),
  fun i H=>∃ xs ys,SqL K H a xs∧SqL K H b ys∧(xs.length≤i∨ys.length≤i)⟩
theorem zjm {P:Program} {w:World} {K:PySem.W.Frag} {elts:List Expr} {x1:Nat} {tpos:Pos} {l1 l2 z TI TO i1 i2:Addr} (D:ZipApart z TI TO i1 i2 l1 l2) :
  Turn P w K (.Tuple elts x1 tpos) (Itz K l1 l2) [z,TI,TO,i1,i2] z (fun i h=>IsZip h z TI TO .none∧IsPair h TI (.ref i1) (.ref i2)∧(∃ a b,IsPair h TO a b)∧h.IsListIter i1 l1 i∧h.IsListIter i2 l2 i) where
 mem:=by simp
 obj:=fun i h st b hb=>by
  obtain ⟨h1,h2,⟨_,_,h3⟩,⟨o4,h4,c4,d4⟩,⟨o5,h5,c5,d5⟩⟩:=st;simp only [List.mem_cons,List.not_mem_nil,or_false] at hb;rcases hb with rfl | rfl | rfl | rfl | rfl
  ·exact ⟨_,h1,fun v z=>by cases z⟩
  ·exact ⟨_,h2,fun v z=>by cases z⟩
  ·exact ⟨_,h3,fun v z=>by cases z⟩
  ·exact ⟨_,h4,fun v z=>by rw [d4] at z;cases z⟩
  ·exact ⟨_,h5,fun v z=>by rw [d5] at z;cases z⟩
 keep:=fun i h h' st k=>by
  obtain ⟨h1,h2,⟨a,b,h3⟩,h4,h5⟩:=st;exact ⟨k z (by simp) _ h1,k TI (by simp) _ h2,⟨a,b,k TO (by simp) _ h3⟩,h4.at fun o e=>k i1 (by simp) o e,h5.at fun o e=>k i2 (by simp) o e⟩
 item:=by
  intro X hP hw hK hc i pins s σ H E I hf st hg;subst hP hw hK;obtain ⟨xs,ys,x,y,hq1,hq2,hx,hy⟩:=hg;obtain ⟨its1,rv1,p1,hz1⟩:=I.list hq1;obtain ⟨its2,rv2,p2,hz2⟩:=I.list hq2;obtain ⟨u1,hu1,ru1⟩:=rv1.get hx;obtain ⟨u2,hu2,ru2⟩:=rv2.get hy;obtain ⟨g1,g2,⟨ta,tb,g3⟩,g4,g5⟩:=st;refine wpAny_pyNext_zip_item D g1 g2 g3 g4 g5 p1.isList p2.isList (x:=u1) (y:=u2) (by simpa using hu1) (by simpa using hu2) fun h' a1 a2 a3 a4 a5 a6 hk=>?_;refine ⟨_,rfl,?_⟩;refine wpAny_letOwnedTupleGo_zip a1 fun h2 b1 hs2=>?_;have hTn:H s.heap.objs.size=none:=I.hok.fresh (Nat.le_refl _);have ltz:∀ b∈[z,TI,TO,i1,i2],b≠s.heap.objs.size:=fun b hb=>by
   obtain ⟨⟨o,e⟩⟩:∃ o,s.heap.get? b=some o:=by
    obtain ⟨o4,e4,_⟩:=g4;obtain ⟨o5,e5,_⟩:=g5;simp only [List.mem_cons,List.not_mem_nil,or_false] at hb;rcases hb with rfl | rfl | rfl | rfl | rfl
    ·exact ⟨_,g1⟩
    ·exact ⟨_,g2⟩
    ·exact ⟨_,g3⟩
    ·exact ⟨_,e4⟩
    ·exact ⟨_,e5⟩
   exact Nat.ne_of_lt (Heap.lt_size ‹_›)
  have keep:∀ b ob,b∉[z,TO,i1,i2]→s.heap.get? b=some ob→h2.get? b=some ob:=fun b ob hb e=>by
   simp only [List.mem_cons,List.not_mem_nil,or_false,not_or] at hb;obtain ⟨n1,n2,n3,n4⟩:=hb;exact hs2.extBut b ob n1 (hk b ob n1 n2 n3 n4 e)
  have pT:IsPair h2 s.heap.objs.size u1 u2:=hs2.extBut _ _ (ltz z (by simp)).symm a5;have c4:h2.IsListIter i1 l1 (i+1):=a3.extBut hs2.extBut D.i1z;have c5:h2.IsListIter i2 l2 (i+1):=a4.extBut hs2.extBut D.i2z;have c3:IsPair h2 TO u1 u2:=hs2.extBut _ _ D.TOz a2;have c2:IsPair h2 TI (.ref i1) (.ref i2):=hs2.extBut _ _ D.TIz (hk _ _ D.TIz D.TITO D.TIi1 D.TIi2 g2);refine ⟨.ref s.heap.objs.size,upd H s.heap.objs.size (.tup [x,y]),?_,rfl,⟨_,hTn,rfl,fun xs' ys' q1' q2'=>?_⟩,⟨b1,c2,⟨_,_,c3⟩,c4,c5⟩,fun b hb=>?_⟩
  ·refine I.turnedNew (t':=s.toks) (ch:=[z,TO,i1,i2]) keep (fun b hb=>⟨hf b ?_,?_⟩) (Nat.le_refl _) ?_
   ·simp only [List.mem_cons,List.not_mem_nil,or_false] at hb ⊢;rcases hb with rfl | rfl | rfl | rfl <;> simp
   ·obtain ⟨o4,e4,_⟩:=c4;obtain ⟨o5,e5,_⟩:=c5;simp only [List.mem_cons,List.not_mem_nil,or_false] at hb;rcases hb with rfl | rfl | rfl | rfl
    ·exact ⟨_,b1⟩
    ·exact ⟨_,c3⟩
    ·exact ⟨_,e4⟩
    ·exact ⟨_,e5⟩
   ·exact ⟨by show 2≤sizeLine;rw [sizeLine_eq];decide,[u1,u2],.cons ru1 (.cons ru2 .nil),_,pT,rfl,_,rfl⟩
  ·rw [I.list_inj q1' hq1,I.list_inj q2' hq2];exact ⟨x,y,hx,hy,rfl⟩
  ·rw [zaJ (ltz b hb)];exact (hf b hb).1
 done:=by
  intro X hP hw hK hc i pins s σ H E I hf st hg;subst hP hw hK;obtain ⟨xs,ys,hq1,hq2,hx⟩:=hg;obtain ⟨its1,rv1,p1,hz1⟩:=I.list hq1;obtain ⟨its2,rv2,p2,hz2⟩:=I.list hq2;obtain ⟨g1,g2,⟨ta,tb,g3⟩,g4,g5⟩:=st;have hl1:=rv1.length;have hl2:=rv2.length;refine wpAny_pyNext_zip_end (I.ok.hd hc) D g1 g2 g3 g4 g5 p1.isList p2.isList ?_ fun h' hk=>⟨rfl,I.turnedL (t':=s.toks) (ch:=[z,TI,TO,i1,i2]) (fun b ob hb e=>?_) hf⟩
  ·rcases hx with hx | hx
   ·exact .inl (Array.getElem?_eq_none (by simp;omega))
   ·exact .inr (Array.getElem?_eq_none (by simp;omega))
  ·simp only [List.mem_cons,List.not_mem_nil,or_false,not_or] at hb;obtain ⟨n1,n2,n3,n4,n5⟩:=hb;exact hk b ob n1 n3 n4 n5 e
 self:=fun _ _ _ _ _ st h=>wpAny_pyIter_zip st.1 h
section
variable {X:Cx} {K:PySem.W.Frag}
def iZip (K:PySem.W.Frag) (ta:TA):TI:=fun σ H R=>ta σ H fun vs H1=>∃ a b xs ys,vs=[.ref a,.ref b]∧SqL K H1 a xs∧SqL K H1 b ys∧R (Itz K a b) H1
theorem zkD {a b:Expr} {ta:TA} {p pos tpos:Pos} {elts:List Expr} {x1:Nat} (hK:X.K=K) (hg:Gl X "zip") (hm:X.mg "zip" = none) (ha:PA X [a,b] ta) (hs:starEach [a,b] X.env=(false,eval a X.env)::starEach [b] X.env:=by rfl)
  (hs2:(backTo pos (starEach [b] X.env)).any (·.1)=false:=by rfl):PI X (.Tuple elts x1 tpos) (.Call (.Name "zip" p) [a,b] [] pos) (iZip K ta):=by
 subst hK;intro pins s σ H R I h;refine Call_ (zd4 I hg hm boot_zip (PyProof.Rows.callWith_type1 (thn (ha pos pins s σ H _ I h) fun us s1 ⟨vs,H1,I1,r1,q1⟩=>?_) hs hs2));obtain ⟨l1,l2,xs,ys,e,q1,q2,q⟩:=q1;subst e;obtain ⟨v1,v2,rfl,r1,r2⟩:=Vals.two r1
 cases r1
 cases r2
 obtain ⟨its1,rv1,p1,hz1⟩:=I1.list q1;obtain ⟨its2,rv2,p2,hz2⟩:=I1.list q2;refine call_zip_2 p1.isList p2.isList fun h' hz hTI hTO hi1 hi2 hsz hk=>?_;refine wpAny_pyIter_zip hz ?_;obtain ⟨o1,e1,_⟩:=p1.isList;obtain ⟨o2,e2,_⟩:=p2.isList;have L1:=Heap.lt_size e1;have L2:=Heap.lt_size e2;have I2:Inv X pins σ H1 { s1 with heap:=h' }:=I1.kept (t':=s1.toks) hk;have nn:∀ k l:Nat,k≠l→s1.heap.objs.size+k≠s1.heap.objs.size+l:=fun k l hkl z=>hkl (Nat.add_left_cancel z);have n0:∀ k:Nat,0 < k→s1.heap.objs.size≠s1.heap.objs.size+k:=fun k hk=>by omega
 have D:ZipApart (s1.heap.objs.size+4) (s1.heap.objs.size+2) (s1.heap.objs.size+3) s1.heap.objs.size (s1.heap.objs.size+1) l1 l2:=by
  have m1:∀ k:Nat,l1≠s1.heap.objs.size+k:=fun k=>Nat.ne_of_lt (Nat.lt_of_lt_of_le L1 (Nat.le_add_right _ _));have m2:∀ k:Nat,l2≠s1.heap.objs.size+k:=fun k=>Nat.ne_of_lt (Nat.lt_of_lt_of_le L2 (Nat.le_add_right _ _));exact ⟨nn 2 4 (by decide),nn 3 4 (by decide),n0 4 (by decide),nn 1 4 (by decide),nn 2 3 (by decide),(n0 2 (by decide)).symm,nn 2 1 (by decide),(n0 3 (by decide)).symm,nn 3 1 (by decide),n0 1 (by decide),m1 4,m1 3,m1 0,m1 1,m2 4,m2 3,m2 0,m2 1⟩
 refine ⟨s1.heap.objs.size+4,_,_,Itz X.K l1 l2,H1,rfl,I2,zjm D,⟨hz,hTI,⟨_,_,hTO⟩,hi1,hi2⟩,fun b hb=>?_,q⟩;have hge:s1.heap.objs.size≤b:=by
  simp only [List.mem_cons,List.not_mem_nil,or_false] at hb;rcases hb with rfl | rfl | rfl | rfl | rfl
  ·exact Nat.le_add_right _ _
  ·exact Nat.le_add_right _ _
  ·exact Nat.le_add_right _ _
  ·exact Nat.le_refl _
  ·exact Nat.le_add_right _ _
 exact I1.fpOk hge (I1.hok.fresh hge)
theorem zf5 {es:List Expr} {k:Nat} {t:TGs} {n:Nat} {pos:Pos} (hK:X.K=K) (hc:X.calm=true) (h:PGs X es t)
  (hn:(assignEach es X.env).length=n:=by rfl) (hst:(assignEach es X.env).findIdx? (·.1)=none:=by rfl):PG X (.Tuple es k pos) (gTup K n t):=hK▸zk7 hc h hn hst
end
section
variable {σ:St} {H:Hp} {D:Ends} {nx bk ct:St→Hp→Prop} {rt:VK} {K:PySem.W.Frag} {Q:VK}
theorem zkE {a b:Addr} {xs ys:List V} {P:Addr→Addr→Prop} (h1:SqL K H a xs) (h2:SqL K H b ys) (q:P a b):∃ a' b' xs ys,[V.ref a,V.ref b]=[.ref a',.ref b']∧SqL K H a' xs∧SqL K H b' ys∧P a' b':=⟨a,b,xs,ys,rfl,h1,h2,q⟩
end
theorem zlB {b:Bool} {t u:TS} {nx bk ct:St→Hp→Prop} {rt:VK} {σ:St} {H:Hp} (M:St→Hp→Prop) (h1:b=true→∀ nx':St→Hp→Prop,(∀ σ' H',M σ' H'→nx' σ' H')→t ⟨nx',rt,bk,ct⟩ σ H)
  (h2:b=false→∀ nx':St→Hp→Prop,(∀ σ' H',M σ' H'→nx' σ' H')→u ⟨nx',rt,bk,ct⟩ σ H) (rest:∀ σ' H',M σ' H'→nx σ' H'):if b=true then t ⟨nx,rt,bk,ct⟩ σ H else u ⟨nx,rt,bk,ct⟩ σ H:=by
 cases b with
 | true=>exact h1 rfl nx rest
 | false=>exact h2 rfl nx rest
theorem zdC {t u:TS} {nx bk ct:St→Hp→Prop} {rt:VK} {σ:St} {H:Hp} (M:St→Hp→Prop) (h1:∀ nx':St→Hp→Prop,(∀ σ' H',M σ' H'→nx' σ' H')→t ⟨nx',rt,bk,ct⟩ σ H)
  (h2:∀ σ' H',M σ' H'→u ⟨nx,rt,bk,ct⟩ σ' H'):tSeq t u ⟨nx,rt,bk,ct⟩ σ H:=h1 _ h2
section
variable {X:Cx} {K:PySem.W.Frag}
def eqVs:List V→List V→Bool
 | [],[]=>true
 | x::xs,y::ys=>eqV x y && eqVs xs ys
 | _,_=>false
theorem eqVs_len:∀ {xs ys:List V},xs.length≠ys.length→eqVs xs ys=false
 | [],[],h=>absurd rfl h
 | [],_::_,_=>rfl
 | _::_,[],_=>rfl
 | x::xs,y::ys,h=>by
   unfold eqVs;rw [eqVs_len (xs:=xs) (ys:=ys) (fun e=>h (by simp [e])),Bool.and_false]
theorem eqVs_all:∀ {xs ys:List V},xs.length=ys.length→(List.range xs.length).all (fun j=>eqV (xs.getD j .non) (ys.getD j .non))=eqVs xs ys
 | [],[],_=>rfl
 | x::xs,y::ys,h=>by
   have ih:=eqVs_all (xs:=xs) (ys:=ys) (by simpa using h);rw [List.length_cons,List.range_succ_eq_map,List.all_cons,List.all_map];unfold eqVs;rw [← ih];rfl
theorem eqVs_ints:∀ {xs ys:List Int},eqVs (xs.map V.int) (ys.map V.int)=decide (xs=ys)
 | [],[]=>rfl
 | [],_::_=>rfl
 | _::_,[]=>rfl
 | x::xs,y::ys=>by
   rw [List.map_cons,List.map_cons];unfold eqVs;rw [eqVs_ints]
   by_cases h:x=y
   ·subst h;simp [eqV]
   ·simp [eqV,h]
def rEqL (K:PySem.W.Frag):R2:=fun x y H Q=>∃ a b xs ys,x=.ref a∧y=.ref b∧SqL K H a xs∧SqL K H b ys∧xs.all flatV=true∧ys.all flatV=true∧Q (.bl (eqVs xs ys)) H
theorem zlC (hu:X.A.units < cLine):OpR X (compareOp .Eq) (rEqL X.K):=by
 intro pins s σ H x y v u Q I rx ry h;obtain ⟨a,b,xs,ys,rfl,rfl,h1,h2,f1,f2,q⟩:=h
 cases rx
 cases ry
 obtain ⟨its1,r1,p1,z1⟩:=I.list h1;obtain ⟨its2,r2,p2,z2⟩:=I.list h2;have l1:=r1.length;have l2:=r2.length
 by_cases hl:xs.length=ys.length
 ·refine SeqAt.eq_listAt (e:=fun j=>eqV (xs.getD j .non) (ys.getD j .non)) p1.isList p2.isList (by simp;omega) hu (fun j h1 h2=>?_) ⟨.bl _,H,I,rfl,?_⟩
  ·simp only [List.size_toArray] at h1 h2;have e1:xs[j]? = some (xs.getD j .non):=by rw [List.getD_eq_getElem?_getD,List.getElem?_eq_getElem (by omega)];rfl
   have e2:ys[j]? = some (ys.getD j .non):=by rw [List.getD_eq_getElem?_getD,List.getElem?_eq_getElem (by omega)];rfl
   obtain ⟨u1,a1,b1⟩:=r1.get e1;obtain ⟨u2,a2,b2⟩:=r2.get e2;have c1:its1.toArray[j]=u1:=by simpa [List.getElem?_eq_getElem h1] using a1
   have c2:its2.toArray[j]=u2:=by simpa [List.getElem?_eq_getElem h2] using a2
   rw [c1,c2];exact zh5 b1 b2 (List.all_eq_true.mp f1 _ (List.mem_of_getElem? e1)) (List.all_eq_true.mp f2 _ (List.mem_of_getElem? e2))
  ·have e:its1.toArray.size=xs.length:=by simp;omega
   rw [e,eqVs_all hl];exact q
 ·refine SeqAt.eq_list_lengthsAt p1.isList p2.isList (by simp;omega) hu ⟨.bl false,H,I,rfl,?_⟩;rw [← eqVs_len hl];exact q
def zjn (K:PySem.W.Frag):R2:=fun x y H Q=>rEq x y H Q∨rEqL K x y H Q
theorem zkF (h:X.K=K) (hu:X.A.units < cLine):OpR X (compareOp .Eq) (zjn K):=op_eq.or (h▸zlC hu)
end
section
variable {H:Hp} {K:PySem.W.Frag} {Q:VK} {i j:Int}
theorem zkG (q:Q (.bl (decide (i=j))) H):zjn K (.int i) (.int j) H Q:=.inl (zms q)
theorem zkH {a b:Bool} (q:Q (.bl (decide (a=b))) H):zjn K (.bl a) (.bl b) H Q:=.inl (zmu q)
theorem zik {x:Int} {xs:List Int}:inV (.int x) (xs.map V.int)=decide (x∈xs):=by
 unfold inV;rw [Bool.eq_iff_iff,List.any_eq_true];simp only [List.mem_map,decide_eq_true_eq];constructor
 ·rintro ⟨v,⟨y,hy,rfl⟩,e⟩;have e':y=x:=by simpa [eqV] using e
  rw [← e'];exact hy
 ·intro h;exact ⟨_,⟨x,h,rfl⟩,by simp [eqV]⟩
theorem zmI {a:Addr} {xs:List Int} (h:SqL K H a (xs.map V.int)) (q:Q (.bl (decide (i∈xs))) H):rIn K false (.int i) (.ref a) H Q :=
 ⟨a,_,rfl,.inl h,rfl,by simp [flatV],by rw [zik];exact q⟩
theorem zjo {a:Addr} {xs:List Int} (h:SqL K H a (xs.map V.int)) (q:Q (.bl (!decide (i∈xs))) H):rIn K true (.int i) (.ref a) H Q :=
 ⟨a,_,rfl,.inl h,rfl,by simp [flatV],by rw [zik];exact q⟩
end
end L2
namespace L2
open PySem PySem.Spec PyProof.Rows
section
variable {prog:Program} {w:World} {A:Around} {R:Result→Shared→Prop}
end
section
variable {X:Cx} {K:PySem.W.Frag}
end
section
variable {σ:St} {H:Hp} {Q:VK} {K:PySem.W.Frag} {ta td:TE}
end
end L2
namespace Prf
open PySem PySem.Spec PyProof.Rows L2
def zbK (ns:List Int) (k:Int):Int:=if (ns.length:Int)=0 then 0 else ns.getD (k % ns.length).toNat 0+k / ns.length
theorem map_ref_inj:∀ {ps qs:List Addr},ps.map V.ref=qs.map V.ref→ps=qs
 | [],[],_=>rfl
 | p::ps,q::qs,h=>by
   rw [List.map_cons,List.map_cons] at h;obtain ⟨h1,h2⟩:=List.cons.inj h;rw [V.ref.inj h1,map_ref_inj h2]
structure SetM (m:Int) (xs:List Int):Prop where
 up:xs.Pairwise (· < ·)
 rng:∀ x∈xs,1≤x∧x≤m
def zbY (hs:List Int) (r:List Int) (n:Int) (x:Int):Int:=if r.getD 0 0≠hs.getD (x-1).toNat 0∧n < r.getD 1 0 then n+1 else n
def zgK (hs:List Int) (r:List Int) (xs:List Int):Int:=xs.foldl (zbY hs r) 0
def zeE (hs:List Int) (rs:List (List Int)) (xs:List Int):Int:=(rs.map fun r=>zgK hs r xs).sum
theorem zf6 (hs:List Int) (rs:List (List Int)) (xs:List Int) (i:Nat) (h:i < rs.length):zeE hs (rs.take (i+1)) xs=zeE hs (rs.take i) xs+zgK hs (rs.getD i []) xs:=by
 unfold zeE;rw [List.take_add_one,List.getElem?_eq_getElem h,List.map_append,List.sum_append,List.getD_eq_getElem?_getD,List.getElem?_eq_getElem h];simp
theorem zcx {xs:List Int} {i:Nat} {x:V} (hx:(xs.map V.int)[i]? = some x):i < xs.length∧x=.int (xs.getD i 0):=by
 have hi:i < xs.length:=by
  have:=(List.getElem?_eq_some_iff.mp hx).1;simpa using this
 refine ⟨hi,?_⟩;rw [List.getElem?_map,List.getElem?_eq_getElem hi] at hx;rw [List.getD_eq_getElem?_getD,List.getElem?_eq_getElem hi];exact (Option.some.inj hx).symm
theorem zil {xs:List Addr} {i:Nat} {x:V} (hx:(xs.map V.ref)[i]? = some x):i < xs.length∧x=.ref (xs.getD i 0):=by
 have hi:i < xs.length:=by
  have:=(List.getElem?_eq_some_iff.mp hx).1;simpa using this
 refine ⟨hi,?_⟩;rw [List.getElem?_map,List.getElem?_eq_getElem hi] at hx;rw [List.getD_eq_getElem?_getD,List.getElem?_eq_getElem hi];exact (Option.some.inj hx).symm
theorem getD_mem {α:Type} {xs:List α} {d:α} {i:Nat} (h:i < xs.length):xs.getD i d∈xs:=by
 rw [List.getD_eq_getElem?_getD,List.getElem?_eq_getElem h];exact List.getElem_mem h
end Prf
namespace L2
open PySem PySem.Spec PyProof.Rows
section
variable {X:Cx} {K:PySem.W.Frag}
def cMin2:List V→Hp→VK→Prop:=fun xs H Q=>∃ i j,xs=[.int i,.int j]∧Q (.int (if j < i then j else i)) H
def cMax2:List V→Hp→VK→Prop:=fun xs H Q=>∃ i j,xs=[.int i,.int j]∧Q (.int (if j > i then j else i)) H
theorem zeF (hc:X.calm=true):zdd X (.builtin "min") cMin2:=zhX hc
theorem zhj (hc:X.calm=true):zdd X (.builtin "max") cMax2:=zhW hc
def CBig (i j:Int):Prop:=0 < j∧j < 2 ^ 200
theorem op_fdivB:OpR X (binaryOp .FloorDiv) (rI CBig fun i j=>.int (i / j)):=opI fun i j _ _ _ _ _ hc q=>by
 obtain ⟨h1,h2⟩:=hc;have hl:j.natAbs.log2 < 9000:=by
  have h3:j.natAbs < 2 ^ 200:=by
   have e:(j.natAbs:Int)=j:=Int.natAbs_of_nonneg (by omega);have:(j.natAbs:Int) < ((2 ^ 200:Nat):Int):=by rw [e];exact h2
   exact Int.ofNat_lt.mp this
  have h4:j.natAbs.log2 < 200:=(Nat.log2_lt (by omega)).mpr h3;omega
 refine floordiv_int (by omega) ?_ (.inl (PyProof.noPylong_of_log2 hl));rw [Int.fdiv_eq_ediv_of_nonneg i (by omega)];exact q
end
section
variable {σ:St} {H:Hp} {Q:VK} {K:PySem.W.Frag} {i j:Int} {p:Addr} {xs:List V} {ta:TA} {te:TE} {tl th:TO}
theorem zlD (q:Q (.int (if j < i then j else i)) H):cMin2 [.int i,.int j] H Q:=⟨i,j,rfl,q⟩
theorem zlE (q:Q (.int (if j > i then j else i)) H):cMax2 [.int i,.int j] H Q:=⟨i,j,rfl,q⟩
theorem zlF {f:Int→Int→V} (c1:0 < j) (c2:j < 2 ^ 200) (q:Q (f i j) H):rI CBig f (.int i) (.int j) H Q:=⟨i,j,rfl,rfl,⟨c1,c2⟩,q⟩
theorem r_sl {r:V→Option Int→Option Int→Hp→VK→Prop} (h:te σ H fun x H1=>tl σ H1 fun l H2=>th σ H2 fun u H3=>r x l u H3 Q):tSl r te tl th σ H Q:=h
theorem zkI {QO:Option Int→Hp→Prop} (h:QO none H):tNoPart σ H QO:=h
theorem zlG {QO:Option Int→Hp→Prop} (h:te σ H fun x H1=>∃ i,x=.int i∧QO (some i) H1):zle te σ H QO:=h
theorem zkJ {P:Int→Prop} (h:P i):∃ k,V.int i=.int k∧P k:=⟨i,rfl,h⟩
theorem zb7 {lo hi:Option Int} (h:SqL K H p xs) (q:∀ l H2,H l=none→Same H H2→H2 l=some (.lst (cutV xs lo hi))→Q (.ref l) H2):rSlL K (.ref p) lo hi H Q:=⟨p,xs,rfl,h,fun l hl=>q l _ hl (zaY hl) zas⟩
theorem zeW (k:Nat):cutV xs none (some (k:Int))=xs.take k:=by
 unfold cutV;rw [HT.sIx_none,HT.sIx_nat,List.drop_zero,Nat.sub_zero]
 by_cases h:k≤xs.length
 ·rw [Nat.min_eq_left h]
 ·rw [Nat.min_eq_right (by omega),List.take_of_length_le (Nat.le_refl _),List.take_of_length_le (by omega)]
theorem zft (k:Nat):cutV xs (some (k:Int)) none=xs.drop k:=by
 unfold cutV;rw [HT.sIx_none,HT.sIx_nat]
 by_cases h:k≤xs.length
 ·rw [Nat.min_eq_left h,List.take_of_length_le (by rw [List.length_drop];omega)]
 ·rw [Nat.min_eq_right (by omega),List.drop_eq_nil_of_le (Nat.le_refl _),List.drop_eq_nil_of_le (by omega)];simp
theorem zjp {nx bk ct:St→Hp→Prop} {rt:VK} {to ti:TE} (h:te σ H fun x H1=>gSub to ti rSetL x σ H1 nx):tAsg te (gSub to ti rSetL) ⟨nx,rt,bk,ct⟩ σ H:=h
theorem zlH {to ti:TE} {v:V} {N:St→Hp→Prop} (h:to σ H fun o H1=>ti σ H1 fun i H2=>rSetL o i v H2 fun H3=>N σ H3):gSub to ti rSetL v σ H N:=h
theorem zlI {n:Nat} {k:Int} (h0:0≤k) (h1:k < n):ixN n k=some k.toNat:=by
 unfold ixN;rw [if_pos h0,if_pos h1]
theorem zeX {v:V} {N:Hp→Prop} (h:H p=some (.lst xs)) (h0:0≤i) (h1:i < xs.length) (q:∀ H2,But p H H2→H2 p=some (.lst (xs.set i.toNat v))→N H2):rSetL (.ref p) (.int i) v H N:=⟨p,xs,i,_,rfl,rfl,h,zlI h0 h1,q _ But.upd zas⟩
end
end L2
namespace Prf
open PySem PySem.Spec PyProof.Rows L2
def cntB (rows:List (List Int)) (x:Int):Nat:=(rows.filter fun r=>decide (x∈r)).length
theorem zfu (rows:List (List Int)) (x:Int):((List.range rows.length).filter fun i=>decide (x∈rows.getD i [])).length=cntB rows x:=by
 unfold cntB
 induction rows with
 | nil=>rfl
 | cons r rs ih =>
   rw [List.length_cons,List.range_succ_eq_map,List.filter_cons,List.filter_cons,List.filter_map,];have e:((fun i=>decide (x∈(r::rs).getD i []))∘Nat.succ)=fun i=>decide (x∈rs.getD i []):=by funext i;rfl
   rw [e]
   by_cases h:x∈r
   ·simp only [List.getD_cons_zero,h,decide_true,if_true,List.length_cons,List.length_map];rw [ih]
   ·simp only [List.getD_cons_zero,h,decide_false,Bool.false_eq_true,if_false,List.length_map];exact ih
theorem zd0 {K:PySem.W.Frag} {σ:L2.St} {H:Hp} {Q:VK} {js:List Nat} {tc:TT} {a:Addr} {ps:List Addr} {rows:List (List Int)} {x:Int} (h1:SqL K H a (ps.map V.ref)) (h2:ps.length=rows.length) (hz:rows.length≤1000)
  (ht:∀ i H' (Q':Bool→Hp→Prop),i < rows.length→Same H H'→Q' (decide (x∈rows.getD i [])) H'→tc (some (.ref (ps.getD i 0))::capV js σ) H' Q')
  (hq:∀ p H2 zs,H p=none→Same H H2→H2 p=some (.lst zs)→zs.length=cntB rows x→Q (.ref p) H2):zet (Itl K a) js tc (tVar 0) σ H Q:=by
 have ex:∀ i,i < rows.length→(ps.map V.ref).getD i .non=.ref (ps.getD i 0):=fun i hi=>by
  rw [List.getD_eq_getElem?_getD,List.getElem?_map,List.getElem?_eq_getElem (by omega),List.getD_eq_getElem?_getD,List.getElem?_eq_getElem (by omega)];rfl
 have hl:(ps.map V.ref).length=rows.length:=by rw [List.length_map,h2]
 refine zdl (zbh h1) (by rw [hl];exact za2 hz) (fun i=>decide (x∈rows.getD i [])) (fun i=>.ref (ps.getD i 0)) (fun i H' Q' hi s q=>?_) (fun i H' Q' hi s _ q=>?_) fun p hp=>?_
 ·show tc (some ((ps.map V.ref).getD i .non)::capV js σ) H' Q';rw [hl] at hi;rw [ex i hi];exact ht i H' Q' hi s q
 ·show tVar 0 (some ((ps.map V.ref).getD i .non)::capV js σ) H' Q';rw [hl] at hi;rw [ex i hi];exact zeV (i:=0) rfl q
 ·refine hq p _ _ hp (zaY hp) zas ?_;rw [List.length_map,hl,zfu]
end Prf
namespace L2
open PySem PySem.Spec PyProof.Rows
section
variable {X:Cx} {K:PySem.W.Frag}
def rIsN:R2:=fun x y H Q=>y=.non∧Q (.bl (decide (x=.non))) H
theorem op_isNN:OpR X (compareOp .Is) rIsN:=op_isN
end
section
variable {σ:St} {H:Hp} {Q:VK} {K:PySem.W.Frag} {x:V}
theorem zmJ (q:Q (.bl (decide (x=.non))) H):rIsN x .non H Q:=⟨rfl,q⟩
theorem zfv (xs:List V) (c:V→Bool):((List.range xs.length).filter fun i=>c (xs.getD i .non)).map (fun i=>xs.getD i .non)=xs.filter c:=by
 induction xs with
 | nil=>rfl
 | cons y ys ih =>
   rw [List.length_cons,List.range_succ_eq_map,List.filter_cons,List.filter_map,List.filter_cons];have e:((fun i=>c ((y::ys).getD i .non))∘Nat.succ)=fun i=>c (ys.getD i .non):=by funext i;rfl
   have e2:∀ l:List Nat,(l.map Nat.succ).map (fun i=>(y::ys).getD i .non)=l.map fun i=>ys.getD i .non:=fun l=>by rw [List.map_map];rfl
   rw [e]
   cases h:c y with
   | true =>
     simp only [List.getD_cons_zero,h,if_true,List.map_cons];rw [e2,ih]
   | false =>
     simp only [List.getD_cons_zero,h,Bool.false_eq_true,if_false];rw [e2,ih]
theorem zim {js:List Nat} {tc:TT} {a:Addr} {xs:List V} (h:SqL K H a xs) (hz:xs.length≤1000) (c:V→Bool)
  (ht:∀ i H' (Q':Bool→Hp→Prop),i < xs.length→Same H H'→Q' (c (xs.getD i .non)) H'→tc (some (xs.getD i .non)::capV js σ) H' Q')
  (hq:∀ p H2,H p=none→Same H H2→H2 p=some (.lst (xs.filter c))→Q (.ref p) H2):zet (Itl K a) js tc (tVar 0) σ H Q:=by
 refine zdl (zbh h) (za2 hz) (fun i=>c (xs.getD i .non)) (fun i=>xs.getD i .non) ht (fun i H' Q' _ _ _ q=>zeV (i:=0) rfl q) fun p hp=>hq p _ hp (zaY hp) ?_;rw [zas,zfv]
end
end L2
namespace Prf
open PySem PySem.Spec PyProof.Rows L2
def zf7 (c:Int):Int:=if c % 3=0 then c / 3 % 101 else if c % 3=1 then c / 3 % 12 else ([0,1,99,100]:List Int).getD (c / 3 % 4).toNat 0
theorem zin (c:Int):0≤zf7 c∧zf7 c≤100:=by
 unfold zf7;split
 ·omega
 ·split
  ·omega
  ·have:c / 3 % 4=0∨c / 3 % 4=1∨c / 3 % 4=2∨c / 3 % 4=3:=by omega
   rcases this with e | e | e | e <;> rw [e] <;> decide
def zb8 (rs:List (List Int)) (h:Int) (row:List Int):Bool :=
 decide (row.length=2) && row.all (fun x=>decide (1≤x) && decide (x≤(rs.length:Int)) && !decide ((rs.getD (x-1).toNat []).getD 0 0=h)) && decide (row.getD 0 0 < row.getD 1 0)
def zaT (hs:List Int) (rs rows:List (List Int)):Bool :=
 decide (rows.length=hs.length) && (List.range hs.length).all (fun k=>zb8 rs (hs.getD k 0) (rows.getD k [])) && (List.range rs.length).all (fun k=>decide ((cntB rows (0+(k:Int)+1):Int)≤(rs.getD k []).getD 1 0))
theorem zcy {n:Nat} {c:Nat→Bool} {k:Nat} (h:k < n) (hc:c k=false):(List.range n).all c=false:=by
 rw [Bool.eq_false_iff];intro z;have:=List.all_eq_true.mp z k (List.mem_range.mpr h);rw [hc] at this
 cases this
theorem zba {n:Nat} {c:Nat→Bool} (h:∀ k,k < n→c k=true):(List.range n).all c=true:=List.all_eq_true.mpr fun k hk=>h k (List.mem_range.mp hk)
theorem zio {xs:List Int} {c:Int→Bool} {i:Nat} (h:i < xs.length) (hc:c (xs.getD i 0)=false):xs.all c=false:=by
 rw [Bool.eq_false_iff];intro z;have:=List.all_eq_true.mp z _ (getD_mem (d:=0) h);rw [hc] at this
 cases this
theorem zjq {xs:List Int} {c:Int→Bool} (h:∀ i,i < xs.length→c (xs.getD i 0)=true):xs.all c=true:=List.all_eq_true.mpr fun x hx=>by
 obtain ⟨i,hi,e⟩:=mem_getD (d:=0) hx;rw [← e];exact h i hi
structure InB (hs:List Int) (rs:List (List Int)):Prop where
 lp:hs.length≤10
 lr:rs.length≤8
 hh:∀ i,i < hs.length→1≤hs.getD i 0∧hs.getD i 0≤6
 r2:∀ i,i < rs.length→(rs.getD i []).length=2
 rh:∀ i,i < rs.length→0≤(rs.getD i []).getD 0 0∧(rs.getD i []).getD 0 0≤6
 rl:∀ i,i < rs.length→0≤(rs.getD i []).getD 1 0∧(rs.getD i []).getD 1 0≤30
def fitB (a b:Int):List Int:=((List.range 6).filter fun i:Nat=>!decide (1+(i:Int)=a) && !decide (1+(i:Int)=b)).map fun i:Nat=>1+(i:Int)
theorem zjr {a b x:Int} (h:x∈fitB a b):1≤x∧x≤6∧x≠a∧x≠b:=by
 unfold fitB at h;obtain ⟨i,hi,rfl⟩:=List.mem_map.mp h;obtain ⟨h1,h2⟩:=List.mem_filter.mp hi;have:=List.mem_range.mp h1;simp only [Bool.and_eq_true,Bool.not_eq_true',decide_eq_false_iff_not] at h2;exact ⟨by omega,by omega,h2.1,h2.2⟩
theorem zgL (a b:Int):0 < (fitB a b).length:=by
 have key:∃ i:Nat,i < 6∧1+(i:Int)≠a∧1+(i:Int)≠b:=by
  by_cases h0:(1:Int)≠a∧(1:Int)≠b
  ·exact ⟨0,by omega,by omega,by omega⟩
  ·by_cases h1:(2:Int)≠a∧(2:Int)≠b
   ·exact ⟨1,by omega,by omega,by omega⟩
   ·exact ⟨2,by omega,by omega,by omega⟩
 obtain ⟨i,h1,h2,h3⟩:=key;have:1+(i:Int)∈fitB a b:=by
  unfold fitB;refine List.mem_map.mpr ⟨i,List.mem_filter.mpr ⟨List.mem_range.mpr h1,?_⟩,rfl⟩;rw [decide_eq_false h2,decide_eq_false h3];rfl
 exact List.length_pos_of_mem this
theorem zkK (a b:Int):(fitB a b).length≤6:=by
 unfold fitB;rw [List.length_map];exact Nat.le_trans (List.length_filter_le _ _) (by simp)
structure PRow (c:Nat) (hB:Nat→Int) (h:Int) (row:List Int):Prop where
 ex:∃ x y:Nat,x < y∧y < c∧row=[(x:Int)+1,(y:Int)+1]∧h≠hB x∧h≠hB y
 rng:1≤h∧h≤6
structure zf8 (least:Int) (hs:List Int) (rs rows:List (List Int)):Prop where
 inb:InB hs rs
 two:2≤rs.length
 len:rows.length=hs.length
 low:least≤hs.length
 row2:∀ i,i < rows.length→(rows.getD i []).length=2
 right:zaT hs rs rows=true
theorem PRow.pair {c:Nat} {hB:Nat→Int} {h:Int} {row:List Int} {rs:List (List Int)} (P:PRow c hB h row) (hl:rs.length=c) (hh:∀ j,j < c→(rs.getD j []).getD 0 0=hB j):zb8 rs h row=true:=by
 obtain ⟨⟨x,y,h1,h2,rfl,h3,h4⟩,_⟩:=P;unfold zb8;have ex:((x:Int)+1-1).toNat=x:=by omega
 have ey:((y:Int)+1-1).toNat=y:=by omega
 simp only [List.length_cons,List.length_nil,decide_true,Bool.true_and,List.all_cons,List.all_nil,Bool.and_true,ex,ey,hh x (by omega),hh y h2,List.getD_cons_zero,List.getD_cons_succ];rw [decide_eq_true (show 1≤(x:Int)+1 by omega),decide_eq_true (show (x:Int)+1≤(rs.length:Int) by omega),decide_eq_false (fun z=>h3 z.symm),decide_eq_true (show 1≤(y:Int)+1 by omega),decide_eq_true (show (y:Int)+1≤(rs.length:Int) by omega),decide_eq_false (fun z=>h4 z.symm),decide_eq_true (show (x:Int)+1 < (y:Int)+1 by omega)];rfl
theorem zkL (rows:List (List Int)) (x:Int):cntB rows x≤rows.length:=List.length_filter_le _ _
end Prf
namespace Hall
def sm:Nat→(Nat→Nat)→Nat
 | 0,_=>0
 | n+1,f=>sm n f+f n
theorem sm_congr {n:Nat} {f g:Nat→Nat} (h:∀ i,i < n→f i=g i):sm n f=sm n g:=by
 induction n with
 | zero=>rfl
 | succ n ih=>simp only [sm];rw [ih (fun i hi=>h i (by omega)),h n (by omega)]
theorem sm_add {n:Nat} {f g:Nat→Nat}:sm n (fun i=>f i+g i)=sm n f+sm n g:=by
 induction n with
 | zero=>rfl
 | succ n ih=>simp only [sm];rw [ih];omega
theorem sm_le {n:Nat} {f g:Nat→Nat} (h:∀ i,i < n→f i≤g i):sm n f≤sm n g:=by
 induction n with
 | zero=>exact Nat.le_refl _
 | succ n ih =>
   simp only [sm];have:=ih (fun i hi=>h i (by omega));have:=h n (by omega);omega
theorem sm_zero {n:Nat}:sm n (fun _=>0)=0:=by
 induction n with
 | zero=>rfl
 | succ n ih=>simp only [sm];omega
theorem sm_swap {n m:Nat} {f:Nat→Nat→Nat} :
  sm n (fun i=>sm m (fun j=>f i j))=sm m (fun j=>sm n (fun i=>f i j)):=by
 induction n with
 | zero=>simp only [sm];rw [sm_zero]
 | succ n ih=>simp only [sm];rw [ih,sm_add]
theorem zcz {n:Nat} {f g:Nat→Nat} (h:∀ i,i < n→f i≤g i) (e:sm n g≤sm n f) :
  ∀ i,i < n→f i=g i:=by
 induction n with
 | zero=>intro i hi;omega
 | succ n ih =>
   simp only [sm] at e;have h1:=sm_le (fun i hi=>h i (by omega):∀ i,i < n→f i≤g i);have h2:=h n (by omega);intro i hi
   by_cases hn:i=n
   ·subst hn;omega
   ·exact ih (fun i hi=>h i (by omega)) (by omega) i (by omega)
theorem zcP {n p:Nat} {f:Nat→Nat} (hp:p < n) (h:∀ i,i < n→i≠p→f i=0):sm n f=f p:=by
 induction n with
 | zero=>omega
 | succ n ih =>
   simp only [sm]
   by_cases hn:p=n
   ·subst hn;have:sm p f=sm p (fun _=>0):=sm_congr (fun i hi=>h i (by omega) (by omega));rw [this,sm_zero];omega
   ·rw [ih (by omega) (fun i hi hne=>h i (by omega) hne),h n (by omega) (by omega)];omega
theorem zlJ {n:Nat} {f:Nat→Nat} (h:0 < sm n f):∃ i,i < n∧0 < f i:=by
 induction n with
 | zero=>simp [sm] at h
 | succ n ih =>
   simp only [sm] at h
   by_cases hn:0 < f n
   ·exact ⟨n,by omega,hn⟩
   ·obtain ⟨i,hi,hf⟩:=ih (by omega);exact ⟨i,by omega,hf⟩
theorem sm_lt {n p:Nat} {f g:Nat→Nat} (hp:p < n) (h:∀ i,i < n→f i≤g i) (hl:f p < g p) :
  sm n f < sm n g:=by
 have h1:=sm_le h;rcases Nat.lt_or_ge (sm n f) (sm n g) with h2 | h2
 ·exact h2
 ·have:=zcz h h2 p hp;omega
def b2 (b:Bool):Nat:=if b then 1 else 0
@[simp] theorem b2_t:b2 true=1:=rfl
@[simp] theorem b2_f:b2 false=0:=rfl
def deg (n:Nat) (A:Nat→Nat→Bool) (S:Nat→Bool) (r:Nat):Nat:=sm n fun p=>b2 (S p && A p r)
def room (n m:Nat) (L:Nat→Nat) (A:Nat→Nat→Bool) (S:Nat→Bool):Nat:=sm m fun r=>min (L r) (deg n A S r)
def need (n:Nat) (d:Nat→Nat) (S:Nat→Bool):Nat:=sm n fun p=>if S p then d p else 0
def Ok (n m:Nat) (L d:Nat→Nat) (A:Nat→Nat→Bool):Prop:=∀ S,need n d S≤room n m L A S
variable {n m:Nat} {L d:Nat→Nat} {A:Nat→Nat→Bool}
theorem zkM {S T:Nat→Bool} {r:Nat} :
  deg n A (fun p=>S p && T p) r+deg n A (fun p=>S p || T p) r=deg n A S r+deg n A T r:=by
 unfold deg;rw [← sm_add,← sm_add];apply sm_congr;intro i _;show b2 ((S i && T i) && A i r)+b2 ((S i || T i) && A i r)=b2 (S i && A i r)+b2 (T i && A i r)
 cases S i <;> cases T i <;> cases A i r <;> rfl
theorem zjs {S T:Nat→Bool} :
  need n d (fun p=>S p && T p)+need n d (fun p=>S p || T p)=need n d S+need n d T:=by
 unfold need;rw [← sm_add,← sm_add];apply sm_congr;intro i _;show (if S i && T i then d i else 0)+(if S i || T i then d i else 0)=(if S i then d i else 0)+(if T i then d i else 0)
 cases S i <;> cases T i <;> simp
theorem zd1 {S T:Nat→Bool} (h:∀ p,S p=true→T p=true) {r:Nat}:deg n A S r≤deg n A T r:=by
 apply sm_le;intro i _;have h':=h i;show b2 (S i && A i r)≤b2 (T i && A i r)
 revert h'
 cases S i <;> cases T i <;> cases A i r <;> simp
theorem zjt {S T:Nat→Bool} :
  room n m L A (fun p=>S p && T p)+room n m L A (fun p=>S p || T p)≤room n m L A S+room n m L A T:=by
 unfold room;rw [← sm_add,← sm_add];apply sm_le;intro r _;have h1:=zkM (n:=n) (A:=A) (S:=S) (T:=T) (r:=r);have h2:deg n A (fun p=>S p && T p) r≤deg n A S r:=zd1 (fun p h=>by simp at h;exact h.1);have h3:deg n A (fun p=>S p && T p) r≤deg n A T r:=zd1 (fun p h=>by simp at h;exact h.2);omega
theorem ziq (hA:Ok n m L d A) {S T:Nat→Bool} (hS:room n m L A S=need n d S)
  (hT:room n m L A T=need n d T) :
  room n m L A (fun p=>S p && T p)=need n d (fun p=>S p && T p):=by
 have h1:=zjt (n:=n) (m:=m) (L:=L) (A:=A) (S:=S) (T:=T);have h2:=zjs (n:=n) (d:=d) (S:=S) (T:=T);have h3:=hA (fun p=>S p && T p);have h4:=hA (fun p=>S p || T p);omega
def cut (A:Nat→Nat→Bool) (p r:Nat):Nat→Nat→Bool:=fun q s=>A q s && !(q == p && s == r)
theorem zkN {p r q s:Nat} (h:cut A p r q s=true):A q s=true:=by
 unfold cut at h;simp at h;exact h.1
theorem zeG {p r s:Nat} (h:s≠r) {S:Nat→Bool}:deg n (cut A p r) S s=deg n A S s:=by
 unfold deg cut;apply sm_congr;intro i _;have:(s == r)=false:=by simp [h]
 simp [this]
theorem zeH {p r:Nat} (hp:p < n) {S:Nat→Bool} :
  deg n (cut A p r) S r+b2 (S p && A p r)=deg n A S r:=by
 unfold deg;have:b2 (S p && A p r)=sm n (fun q=>b2 (q == p && (S p && A p r))):=by
  rw [zcP hp]
  ·simp
  ·intro i _ hi;have:(i == p)=false:=by simp [hi]
   simp [this]
 rw [this,← sm_add];apply sm_congr;intro i _;unfold cut
 by_cases hi:i=p
 ·subst hi
  cases S i <;> cases A i r <;> simp
 ·have:(i == p)=false:=by simp [hi]
  simp [this]
theorem zkO {p r:Nat} (hp:p < n) {S:Nat→Bool} (hS:S p=true) :
  deg n A (fun q=>S q && !(q == p)) r+b2 (A p r)=deg n A S r:=by
 unfold deg;have:b2 (A p r)=sm n (fun q=>b2 (q == p && A p r)):=by
  rw [zcP hp]
  ·simp
  ·intro i _ hi;have:(i == p)=false:=by simp [hi]
   simp [this]
 rw [this,← sm_add];apply sm_congr;intro i _
 by_cases hi:i=p
 ·subst hi;simp [hS]
 ·have:(i == p)=false:=by simp [hi]
  simp [this]
theorem zju {p:Nat} (hp:p < n) {S:Nat→Bool} (hS:S p=true) :
  need n d (fun q=>S q && !(q == p))+d p=need n d S:=by
 unfold need;have:d p=sm n (fun q=>if q == p then d p else 0):=by
  rw [zcP hp]
  ·simp
  ·intro i _ hi;have:(i == p)=false:=by simp [hi]
   simp [this]
 rw [this,← sm_add];apply sm_congr;intro i _
 by_cases hi:i=p
 ·subst hi;simp [hS]
 ·have:(i == p)=false:=by simp [hi]
  simp [this]
theorem zgM (hA:Ok n m L d A) {p r:Nat} (hp:p < n) (hr:r < m) (ha:A p r=true)
  (hn:¬Ok n m L d (cut A p r)) :
  ∃ S,room n m L A S=need n d S∧S p=true∧deg n A S r≤L r:=by
 have hn':∃ S,¬need n d S≤room n m L (cut A p r) S:=by
  apply Classical.byContradiction;intro hc;exact hn (fun S=>Classical.byContradiction fun h=>hc ⟨S,h⟩)
 obtain ⟨S,hS⟩:=hn';have h1:=hA S;have hle:∀ s,s < m→min (L s) (deg n (cut A p r) S s)≤min (L s) (deg n A S s):=by
  intro s _
  by_cases h:s=r
  ·subst h;have:=zeH (A:=A) (r:=s) hp (S:=S);omega
  ·rw [zeG h];exact Nat.le_refl _
 have hd:room n m L A S≤room n m L (cut A p r) S+(min (L r) (deg n A S r)-min (L r) (deg n (cut A p r) S r)):=by
  unfold room;have:min (L r) (deg n A S r)-min (L r) (deg n (cut A p r) S r)
    = sm m (fun s=>if s=r then min (L r) (deg n A S r)-min (L r) (deg n (cut A p r) S r) else 0):=by
   rw [zcP hr]
   ·simp
   ·intro i _ hi;simp [hi]
  rw [this,← sm_add];apply sm_le;intro s hs
  by_cases h:s=r
  ·subst h;simp;omega
  ·simp [h,zeG h]
 have hc:=zeH (A:=A) (r:=r) hp (S:=S);rw [ha] at hc;simp only [Bool.and_true] at hc;refine ⟨S,?_,?_,?_⟩
 ·cases hSp:S p
  ·rw [hSp,b2_f] at hc;omega
  ·rw [hSp,b2_t] at hc;omega
 ·cases hSp:S p
  ·rw [hSp,b2_f] at hc;omega
  ·rfl
 ·cases hSp:S p
  ·rw [hSp,b2_f] at hc;omega
  ·rw [hSp,b2_t] at hc;omega
theorem zjv (hA:Ok n m L d A) {p:Nat} (hp:p < n) (hd:d p < sm m (fun r=>b2 (A p r)))
  (hn:∀ r,r < m→A p r=true→¬Ok n m L d (cut A p r)):False:=by
 have h0:∃ r,r < m∧0 < b2 (A p r):=zlJ (by omega);obtain ⟨r0,hr0,hb0⟩:=h0;have ha0:A p r0=true:=by cases h:A p r0 <;> simp_all
 have key:∀ k,k≤m→∃ T,room n m L A T=need n d T∧T p=true∧∀ r,r < k→A p r=true→deg n A T r≤L r:=by
  intro k
  induction k with
  | zero =>
    intro _;obtain ⟨S,h1,h2,_⟩:=zgM hA hp hr0 ha0 (hn r0 hr0 ha0);exact ⟨S,h1,h2,fun r hr=>by omega⟩
  | succ k ih =>
    intro hk;obtain ⟨T,h1,h2,h3⟩:=ih (by omega)
    cases hak:A p k
    ·refine ⟨T,h1,h2,fun r hr ha=>?_⟩
     by_cases h:r=k
     ·subst h;rw [hak] at ha;simp at ha
     ·exact h3 r (by omega) ha
    ·obtain ⟨S,g1,g2,g3⟩:=zgM hA hp (by omega) hak (hn k (by omega) hak);refine ⟨fun q=>T q && S q,ziq hA h1 g1,by simp [h2,g2],fun r hr ha=>?_⟩;have m1:deg n A (fun q=>T q && S q) r≤deg n A T r:=zd1 (fun q h=>by simp at h;exact h.1);have m2:deg n A (fun q=>T q && S q) r≤deg n A S r:=zd1 (fun q h=>by simp at h;exact h.2)
     by_cases h:r=k
     ·subst h;omega
     ·have:=h3 r (by omega) ha;omega
 obtain ⟨T,h1,h2,h3⟩:=key m (Nat.le_refl _);have e1:room n m L A T=room n m L A (fun q=>T q && !(q == p))+sm m (fun r=>b2 (A p r)):=by
  unfold room;rw [← sm_add];apply sm_congr;intro r hr;have e:=zkO (A:=A) (r:=r) hp h2
  cases ha:A p r
  ·rw [ha] at e;simp at e;simp;omega
  ·have:=h3 r hr ha;rw [ha] at e;simp at e;simp;omega
 have e2:=zju (d:=d) hp h2;have e3:=hA (fun q=>T q && !(q == p));omega
def zir (n m:Nat) (A:Nat→Nat→Bool):Nat:=sm n fun p=>sm m fun r=>b2 (A p r)
theorem zis {p r:Nat} (hp:p < n) (hr:r < m) (ha:A p r=true) :
  zir n m (cut A p r) < zir n m A:=by
 have hle:∀ q s,b2 (cut A p r q s)≤b2 (A q s):=by
  intro q s;show b2 (A q s && !(q == p && s == r))≤b2 (A q s)
  cases A q s <;> cases (q == p) <;> cases (s == r) <;> simp
 apply sm_lt hp
 ·intro q _;exact sm_le (fun s _=>hle q s)
 ·apply sm_lt hr
  ·intro s _;exact hle p s
  ·unfold cut;simp [ha]
theorem hall:∀ k (A:Nat→Nat→Bool),zir n m A≤k→Ok n m L d A →
  ∃ B:Nat→Nat→Bool,(∀ p r,B p r=true→A p r=true) ∧
   (∀ p,p < n→sm m (fun r=>b2 (B p r))=d p)∧(∀ r,r < m→sm n (fun p=>b2 (B p r))≤L r):=by
 intro k
 induction k with
 | zero =>
   intro A he hA;refine ⟨A,fun _ _ h=>h,?_,?_⟩
   ·intro p hp;have h0:sm m (fun r=>b2 (A p r))=0:=by
     have:=zcz (n:=n) (f:=fun _=>0) (g:=fun p=>sm m fun r=>b2 (A p r)) (fun _ _=>by omega)
      (by rw [sm_zero];exact he) p hp
     exact this.symm
    have h1:=hA (fun q=>q == p);have h2:need n d (fun q=>q == p)=d p:=by
     unfold need;rw [zcP hp]
     ·simp
     ·intro i _ hi;simp [hi]
    have h3:room n m L A (fun q=>q == p)≤sm m (fun r=>b2 (A p r)):=by
     unfold room;apply sm_le;intro r _;have:deg n A (fun q=>q == p) r=b2 (A p r):=by
      unfold deg;rw [zcP hp]
      ·simp
      ·intro i _ hi;have:(i == p)=false:=by simp [hi]
       simp [this]
     omega
    omega
   ·intro r hr;have h0:sm n (fun p=>b2 (A p r))=0:=by
     unfold zir at he;rw [sm_swap] at he;have:=zcz (n:=m) (f:=fun _=>0) (g:=fun r=>sm n fun p=>b2 (A p r)) (fun _ _=>by omega)
      (by rw [sm_zero];exact he) r hr
     exact this.symm
    omega
 | succ k ih =>
   intro A he hA
   by_cases hall:∀ p,p < n→sm m (fun r=>b2 (A p r))=d p
   ·refine ⟨A,fun _ _ h=>h,hall,?_⟩;have h1:=hA (fun _=>true);have h2:need n d (fun _=>true)=sm n (fun p=>sm m (fun r=>b2 (A p r))):=by
     unfold need;apply sm_congr;intro i hi;rw [hall i hi];simp
    rw [h2,sm_swap] at h1;unfold room at h1;intro r hr;have h3:=zcz (n:=m) (f:=fun r=>min (L r) (deg n A (fun _=>true) r))
     (g:=fun r=>sm n (fun p=>b2 (A p r)))
     (fun r _=>by
      have:deg n A (fun _=>true) r=sm n (fun p=>b2 (A p r)):=by
       unfold deg;apply sm_congr;intro i _;simp
      show min _ _≤_;omega) h1 r hr
    omega
   ·have:∃ p,p < n∧sm m (fun r=>b2 (A p r))≠d p:=by
     apply Classical.byContradiction;intro hc;exact hall (fun p hp=>Classical.byContradiction fun h=>hc ⟨p,hp,h⟩)
    obtain ⟨p,hp,hne⟩:=this;have hge:d p≤sm m (fun r=>b2 (A p r)):=by
     have h1:=hA (fun q=>q == p);have h2:need n d (fun q=>q == p)=d p:=by
      unfold need;rw [zcP hp]
      ·simp
      ·intro i _ hi;simp [hi]
     have h3:room n m L A (fun q=>q == p)≤sm m (fun r=>b2 (A p r)):=by
      unfold room;apply sm_le;intro r _;have:deg n A (fun q=>q == p) r=b2 (A p r):=by
       unfold deg;rw [zcP hp]
       ·simp
       ·intro i _ hi;have:(i == p)=false:=by simp [hi]
        simp [this]
      omega
     omega
    by_cases hs:∃ r,r < m∧A p r=true∧Ok n m L d (cut A p r)
    ·obtain ⟨r,hr,ha,hok⟩:=hs;have hlt:=zis (n:=n) (m:=m) hp hr ha;obtain ⟨B,b1,b2',b3⟩:=ih (cut A p r) (by omega) hok;exact ⟨B,fun q s h=>zkN (b1 q s h),b2',b3⟩
    ·exact (zjv hA hp (by omega) (fun r hr ha hok=>hs ⟨r,hr,ha,hok⟩)).elim
end Hall
namespace Hall
variable {n m:Nat} {L d:Nat→Nat} {A:Nat→Nat→Bool}
theorem room_of {B:Nat→Nat→Bool} (hs:∀ p r,B p r=true→A p r=true)
  (hd:∀ p,p < n→sm m (fun r=>b2 (B p r))=d p) (hL:∀ r,r < m→sm n (fun p=>b2 (B p r))≤L r) :
  Ok n m L d A:=by
 intro S;have h1:need n d S=sm m (fun r=>deg n B S r):=by
  unfold need deg;rw [sm_swap];apply sm_congr;intro p hp
  cases hS:S p
  ·simp only [Bool.false_and,b2_f];rw [sm_zero];rfl
  ·simp only [Bool.true_and];rw [hd p hp];rfl
 rw [h1];apply sm_le;intro r hr;have h2:deg n B S r≤deg n A S r:=by
  apply sm_le;intro p _;have:=hs p r
  revert this
  cases S p <;> cases B p r <;> cases A p r <;> simp
 have h3:deg n B S r≤sm n (fun p=>b2 (B p r)):=by
  apply sm_le;intro p _
  cases S p <;> cases B p r <;> simp
 have:=hL r hr;show _≤min (L r) (deg n A S r);omega
theorem zlK {f:Nat→Bool} (h:sm m (fun r=>b2 (f r))=1) :
  ∃ a,a < m∧f a=true∧∀ r,r < m→f r=true→r=a:=by
 induction m with
 | zero=>simp [sm] at h
 | succ m ih =>
   simp only [sm] at h
   cases hf:f m
   ·rw [hf,b2_f] at h;obtain ⟨a,h1,h2,h3⟩:=ih (by omega);refine ⟨a,by omega,h2,fun r hr hfr=>?_⟩
    by_cases e:r=m
    ·subst e;rw [hf] at hfr;simp at hfr
    ·exact h3 r (by omega) hfr
   ·rw [hf,b2_t] at h;refine ⟨m,by omega,hf,fun r hr hfr=>?_⟩
    by_cases e:r=m
    ·exact e
    ·have:=zcz (n:=m) (f:=fun _=>0) (g:=fun r=>b2 (f r)) (fun _ _=>by omega) (by rw [sm_zero];omega) r (by omega);rw [hfr] at this;simp at this
theorem two_of {f:Nat→Bool} (h:sm m (fun r=>b2 (f r))=2) :
  ∃ a b,a < b∧b < m∧f a=true∧f b=true∧∀ r,r < m→f r=true→r=a∨r=b:=by
 induction m with
 | zero=>simp [sm] at h
 | succ m ih =>
   simp only [sm] at h
   cases hf:f m
   ·rw [hf,b2_f] at h;obtain ⟨a,b,h1,h2,h3,h4,h5⟩:=ih (by omega);refine ⟨a,b,h1,by omega,h3,h4,fun r hr hfr=>?_⟩
    by_cases e:r=m
    ·subst e;rw [hf] at hfr;simp at hfr
    ·exact h5 r (by omega) hfr
   ·rw [hf,b2_t] at h;obtain ⟨a,h1,h2,h3⟩:=zlK (m:=m) (f:=f) (by omega);refine ⟨a,m,h1,by omega,h2,hf,fun r hr hfr=>?_⟩
    by_cases e:r=m
    ·exact Or.inr e
    ·exact Or.inl (h3 r (by omega) hfr)
structure Deal (n m:Nat) (L:Nat→Nat) (A:Nat→Nat→Bool) (D:Nat→Nat×Nat):Prop where
 lt:∀ p,p < n→(D p).1 < (D p).2
 hi:∀ p,p < n→(D p).2 < m
 a:∀ p,p < n→A p (D p).1=true
 b:∀ p,p < n→A p (D p).2=true
 lim:∀ r,r < m→sm n (fun p=>b2 (r == (D p).1 || r == (D p).2))≤L r
theorem two_eq {a b:Nat} (h:a < b) (hb:b < m):sm m (fun r=>b2 (r == a || r == b))=2:=by
 have:sm m (fun r=>b2 (r == a || r == b))=sm m (fun r=>b2 (r == a)+b2 (r == b)):=by
  apply sm_congr;intro r _
  by_cases h1:r=a
  ·subst h1;have:(r == b)=false:=by simp;omega
   simp [this]
  ·have:(r == a)=false:=by simp [h1]
   simp [this]
 rw [this,sm_add,zcP (p:=a) (by omega),zcP (p:=b) hb]
 ·simp
 ·intro i _ hi;have:(i == b)=false:=by simp [hi]
  simp [this]
 ·intro i _ hi;have:(i == a)=false:=by simp [hi]
  simp [this]
theorem deal_iff:(∃ D,Deal n m L A D)↔Ok n m L (fun _=>2) A:=by
 constructor
 ·rintro ⟨D,h⟩ S;have:=room_of (n:=n) (m:=m) (L:=L) (d:=fun _=>2) (A:=A)
   (B:=fun p r=>decide (p < n) && (r == (D p).1 || r == (D p).2))
   (fun p r hb=>by
    simp at hb;obtain ⟨hp,hb⟩:=hb;rcases hb with e | e
    ·rw [e];exact h.a p hp
    ·rw [e];exact h.b p hp)
   (fun p hp=>by
    have:decide (p < n)=true:=by simp [hp]
    simp only [this,Bool.true_and];exact two_eq (h.lt p hp) (h.hi p hp))
   (fun r hr=>by
    have:=h.lim r hr;refine Nat.le_trans (sm_le fun p _=>?_) this;show b2 (decide (p < n) && (r == (D p).1 || r == (D p).2))≤b2 (r == (D p).1 || r == (D p).2)
    cases decide (p < n) <;> simp)
  exact this S
 ·intro h;obtain ⟨B,b1,h2,h3⟩:=hall (n:=n) (m:=m) (L:=L) (d:=fun _=>2) (zir n m A) A (Nat.le_refl _) h;have hx:∀ p,∃ ab:Nat×Nat,p < n→ab.1 < ab.2∧ab.2 < m∧B p ab.1=true∧B p ab.2=true ∧
    ∀ r,r < m→B p r=true→r=ab.1∨r=ab.2:=by
   intro p
   by_cases hp:p < n
   ·obtain ⟨a,b,g1,g2,g3,g4,g5⟩:=two_of (h2 p hp);exact ⟨(a,b),fun _=>⟨g1,g2,g3,g4,g5⟩⟩
   ·exact ⟨(0,0),fun h=>absurd h hp⟩
  have hD:∃ D:Nat→Nat×Nat,∀ p,p < n→(D p).1 < (D p).2∧(D p).2 < m∧B p (D p).1=true∧B p (D p).2=true ∧
    ∀ r,r < m→B p r=true→r=(D p).1∨r=(D p).2 :=
   ⟨fun p=>Classical.choose (hx p),fun p=>Classical.choose_spec (hx p)⟩
  obtain ⟨D,hD⟩:=hD;refine ⟨D,fun p hp=>(hD p hp).1,fun p hp=>(hD p hp).2.1,fun p hp=>b1 _ _ (hD p hp).2.2.1,
   fun p hp=>b1 _ _ (hD p hp).2.2.2.1,fun r hr=>?_⟩
  refine Nat.le_trans (sm_le fun p hp=>?_) (h3 r hr);show b2 (r == (D p).1 || r == (D p).2)≤b2 (B p r);have h4:=(hD p hp).2.2.1;have h5:=(hD p hp).2.2.2.1
  by_cases e1:r=(D p).1
  ·rw [e1,h4];simp
  ·by_cases e2:r=(D p).2
   ·rw [e2,h5];simp
   ·have t1:(r == (D p).1)=false:=by simp [e1]
    have t2:(r == (D p).2)=false:=by simp [e2]
    simp [t1,t2]
end Hall
namespace Prf
open PySem PySem.Spec PyProof.Rows L2
def agB (hs:List Int) (rs:List (List Int)) (xs:List Int):Bool:=decide (zeE hs rs xs < 2 * (xs.length:Int))
def zbg (hs:List Int) (rs:List (List Int)) (p r:Nat):Bool:=!decide ((rs.getD r []).getD 0 0=hs.getD p 0)
def limN (rs:List (List Int)) (r:Nat):Nat:=((rs.getD r []).getD 1 0).toNat
theorem zcA (c:Nat→Bool):∀ n,Hall.sm n (fun i=>Hall.b2 (c i))=((List.range n).filter c).length
 | 0=>rfl
 | n+1=>by
   simp only [Hall.sm];rw [zcA c n,List.range_succ,List.filter_append,List.length_append]
   cases h:c n <;> simp [h]
theorem zd2 (hs r:List Int):∀ (xs:List Int) (n0:Int),n0≤r.getD 1 0 →
  xs.foldl (zbY hs r) n0=min (r.getD 1 0) (n0+((xs.filter fun x=>!decide (r.getD 0 0=hs.getD (x-1).toNat 0)).length:Int))
 | [],n0,h=>by
   show n0=min (r.getD 1 0) (n0+0);omega
 | x::xs,n0,h=>by
   rw [List.foldl_cons,List.filter_cons]
   by_cases e:r.getD 0 0=hs.getD (x-1).toNat 0
   ·have e1:zbY hs r n0 x=n0:=by unfold zbY;rw [if_neg (fun z=>z.1 e)]
    rw [e1,zd2 hs r xs n0 h,decide_eq_true e];simp
   ·rw [decide_eq_false e]
    by_cases hl:n0 < r.getD 1 0
    ·have e1:zbY hs r n0 x=n0+1:=by unfold zbY;rw [if_pos ⟨e,hl⟩]
     rw [e1,zd2 hs r xs (n0+1) (by omega)];simp only [Bool.not_false,if_true,List.length_cons];omega
    ·have e1:zbY hs r n0 x=n0:=by unfold zbY;rw [if_neg (fun z=>hl z.2)]
     rw [e1,zd2 hs r xs n0 h];simp only [Bool.not_false,if_true,List.length_cons];omega
def zdD (n:Nat) (S:Nat→Bool):List Int:=((List.range n).filter S).map fun i:Nat=>1+(i:Int)
theorem zit (n:Nat) (S:Nat→Bool):SetM n (zdD n S):=by
 unfold zdD;refine ⟨?_,fun x hx=>?_⟩
 ·rw [List.pairwise_map];refine List.Pairwise.filter _ (List.Pairwise.imp (fun h=>?_) List.pairwise_lt_range);omega
 ·obtain ⟨i,hi,rfl⟩:=List.mem_map.mp hx;have:=List.mem_range.mp (List.mem_filter.mp hi).1;omega
theorem up_ext:∀ {xs ys:List Int},xs.Pairwise (· < ·)→ys.Pairwise (· < ·)→(∀ m,m∈xs↔m∈ys)→xs=ys
 | [],[],_,_,_=>rfl
 | [],y::ys,_,_,h=>absurd ((h y).mpr List.mem_cons_self) (by simp)
 | x::xs,[],_,_,h=>absurd ((h x).mp List.mem_cons_self) (by simp)
 | x::xs,y::ys,hx,hy,h=>by
   obtain ⟨x1,x2⟩:=List.pairwise_cons.mp hx;obtain ⟨y1,y2⟩:=List.pairwise_cons.mp hy;have e:x=y:=by
    rcases List.mem_cons.mp ((h x).mp List.mem_cons_self) with z | z
    ·exact z
    ·rcases List.mem_cons.mp ((h y).mpr List.mem_cons_self) with z' | z'
     ·exact z'.symm
     ·have:=y1 x z;have:=x1 y z';omega
   subst e;have nx:x∉xs:=fun z=>absurd (x1 x z) (Int.lt_irrefl _);have ny:x∉ys:=fun z=>absurd (y1 x z) (Int.lt_irrefl _);rw [up_ext x2 y2 fun m=>?_]
   by_cases hm:m=x
   ·subst hm;exact ⟨fun z=>absurd z nx,fun z=>absurd z ny⟩
   ·have:=h m;simpa [hm] using this
theorem zhk {n:Nat} {xs:List Int} (h:SetM n xs):zdD n (fun i=>decide (1+(i:Int)∈xs))=xs:=by
 refine up_ext (zit n _).up h.up fun m=>⟨fun z=>?_,fun z=>?_⟩
 ·unfold zdD at z;obtain ⟨i,hi,rfl⟩:=List.mem_map.mp z;simpa using (List.mem_filter.mp hi).2
 ·have hr:=h.rng m z;unfold zdD;refine List.mem_map.mpr ⟨(m-1).toNat,List.mem_filter.mpr ⟨List.mem_range.mpr (by omega),?_⟩,by omega⟩;have e:1+((m-1).toNat:Int)=m:=by omega
  rw [e];simpa using z
theorem ziu (n:Nat) (S:Nat→Bool):(zdD n S).length=Hall.sm n (fun p=>Hall.b2 (S p)):=by
 unfold zdD;rw [List.length_map,zcA]
theorem ziv {hs:List Int} {rs:List (List Int)} {r:Nat} (h0:0≤(rs.getD r []).getD 1 0) (n:Nat) (S:Nat→Bool) :
  zgK hs (rs.getD r []) (zdD n S)=((min (limN rs r) (Hall.deg n (zbg hs rs) S r):Nat):Int):=by
 unfold zgK;rw [zd2 hs _ _ 0 h0];have e:((zdD n S).filter fun x=>!decide ((rs.getD r []).getD 0 0=hs.getD (x-1).toNat 0)).length=Hall.deg n (zbg hs rs) S r:=by
  unfold Hall.deg zdD;rw [zcA,List.filter_map,List.length_map,List.filter_filter]
  congr 1
  apply List.filter_congr;intro i _;show (_ && _)=_;have e1:(1+(i:Int)-1).toNat=i:=by omega
  simp only [Function.comp,e1];unfold zbg;exact Bool.and_comm _ _
 rw [e];unfold limN;omega
theorem zeI {hs:List Int} {rs:List (List Int)} (h0:∀ i,i < rs.length→0≤(rs.getD i []).getD 1 0) (n:Nat) (S:Nat→Bool) :
  zeE hs rs (zdD n S)=((Hall.room n rs.length (limN rs) (zbg hs rs) S:Nat):Int):=by
 have key:∀ i,i≤rs.length→zeE hs (rs.take i) (zdD n S)=((Hall.room n i (limN rs) (zbg hs rs) S:Nat):Int):=by
  intro i
  induction i with
  | zero=>intro _;rfl
  | succ i ih =>
    intro hi;rw [zf6 _ _ _ _ (by omega),ih (by omega),ziv (h0 i (by omega))];unfold Hall.room;simp only [Hall.sm];omega
 have:=key rs.length (Nat.le_refl _)
 rwa [List.take_length] at this
theorem zgN (n:Nat) (S:Nat→Bool):Hall.need n (fun _=>2) S=2 * (zdD n S).length:=by
 rw [ziu];unfold Hall.need;have:Hall.sm n (fun p=>if S p=true then 2 else 0)=Hall.sm n (fun p=>Hall.b2 (S p)+Hall.b2 (S p)):=by
  apply Hall.sm_congr;intro i _
  cases S i <;> rfl
 rw [this,Hall.sm_add];omega
theorem ziw {hs:List Int} {rs:List (List Int)} (h0:∀ i,i < rs.length→0≤(rs.getD i []).getD 1 0) :
  Hall.Ok hs.length rs.length (limN rs) (fun _=>2) (zbg hs rs)↔∀ xs,SetM hs.length xs→agB hs rs xs=false:=by
 constructor
 ·intro h xs hx;have e:=zhk hx;have h1:=h (fun i=>decide (1+(i:Int)∈xs));have h2:=zeI (hs:=hs) h0 hs.length (fun i=>decide (1+(i:Int)∈xs));rw [zgN,e] at h1;rw [e] at h2;unfold agB;rw [decide_eq_false];omega
 ·intro h S;have h1:=h _ (zit hs.length S);unfold agB at h1;have h2:=of_decide_eq_false h1;rw [zeI h0] at h2;rw [zgN];omega
theorem len2 {l:List Int} (h:l.length=2):l=[l.getD 0 0,l.getD 1 0]:=by
 match l,h with
 | [a,b],_=>rfl
theorem zeY (rows:List (List Int)) (x:Int):cntB rows x=Hall.sm rows.length (fun p=>Hall.b2 (decide (x∈rows.getD p []))):=by
 rw [zcA,zfu]
structure zix (hs:List Int) (rs rows:List (List Int)):Prop where
 len:rows.length=hs.length
 two:∀ k,k < hs.length→(rows.getD k []).length=2
 lo:∀ k,k < hs.length→1≤(rows.getD k []).getD 0 0
 lt:∀ k,k < hs.length→(rows.getD k []).getD 0 0 < (rows.getD k []).getD 1 0
 hi:∀ k,k < hs.length→(rows.getD k []).getD 1 0≤(rs.length:Int)
 a:∀ k,k < hs.length→(rs.getD ((rows.getD k []).getD 0 0-1).toNat []).getD 0 0≠hs.getD k 0
 b:∀ k,k < hs.length→(rs.getD ((rows.getD k []).getD 1 0-1).toNat []).getD 0 0≠hs.getD k 0
 lim:∀ k,k < rs.length→(cntB rows ((k:Int)+1):Int)≤(rs.getD k []).getD 1 0
theorem zbQ {rs:List (List Int)} {h:Int} {row:List Int}:zb8 rs h row=true ↔
  row.length=2∧1≤row.getD 0 0∧row.getD 0 0 < row.getD 1 0∧row.getD 1 0≤(rs.length:Int)∧(rs.getD (row.getD 0 0-1).toNat []).getD 0 0≠h∧(rs.getD (row.getD 1 0-1).toNat []).getD 0 0≠h:=by
 unfold zb8;constructor
 ·intro z;simp only [Bool.and_eq_true,decide_eq_true_eq] at z;obtain ⟨⟨z1,z2⟩,z3⟩:=z;rw [len2 z1] at z2;simp only [List.all_cons,List.all_nil,Bool.and_eq_true,decide_eq_true_eq,Bool.not_eq_true',decide_eq_false_iff_not] at z2;obtain ⟨⟨⟨a1,a2⟩,a3⟩,⟨⟨b1,b2⟩,b3⟩,_⟩:=z2;exact ⟨z1,a1,z3,b2,a3,b3⟩
 ·rintro ⟨z1,a1,z3,b2,a3,b3⟩;have e:=len2 z1;generalize row.getD 0 0=x at *;generalize row.getD 1 0=y at *;subst e;simp only [List.all_cons,List.all_nil,Bool.and_eq_true,decide_eq_true_eq,Bool.not_eq_true',decide_eq_false_iff_not];refine ⟨⟨rfl,⟨⟨⟨by omega,by omega⟩,a3⟩,⟨⟨by omega,by omega⟩,b3⟩,trivial⟩⟩,z3⟩
theorem zdm {hs:List Int} {rs rows:List (List Int)}:zaT hs rs rows=true↔zix hs rs rows:=by
 unfold zaT;constructor
 ·intro z;simp only [Bool.and_eq_true,decide_eq_true_eq] at z;obtain ⟨⟨z1,z2⟩,z3⟩:=z;have h2:∀ k,k < hs.length→_:=fun k hk=>zbQ.mp (List.all_eq_true.mp z2 k (List.mem_range.mpr hk));refine ⟨z1,fun k hk=>(h2 k hk).1,fun k hk=>(h2 k hk).2.1,fun k hk=>(h2 k hk).2.2.1,fun k hk=>(h2 k hk).2.2.2.1,fun k hk=>(h2 k hk).2.2.2.2.1,fun k hk=>(h2 k hk).2.2.2.2.2,fun k hk=>?_⟩;have:=List.all_eq_true.mp z3 k (List.mem_range.mpr hk);have e:(0:Int)+(k:Int)+1=(k:Int)+1:=by omega
  rw [e] at this;exact of_decide_eq_true this
 ·intro h;simp only [Bool.and_eq_true,decide_eq_true_eq];refine ⟨⟨h.len,zba fun k hk=>zbQ.mpr ⟨h.two k hk,h.lo k hk,h.lt k hk,h.hi k hk,h.a k hk,h.b k hk⟩⟩,zba fun k hk=>?_⟩;have e:(0:Int)+(k:Int)+1=(k:Int)+1:=by omega
  rw [e];exact decide_eq_true (h.lim k hk)
theorem zhl {hs:List Int} {rs rows:List (List Int)} (h:zix hs rs rows) :
  Hall.Deal hs.length rs.length (limN rs) (zbg hs rs) (fun p=>(((rows.getD p []).getD 0 0-1).toNat,((rows.getD p []).getD 1 0-1).toNat)):=by
 refine ⟨fun p hp=>?_,fun p hp=>?_,fun p hp=>?_,fun p hp=>?_,fun r hr=>?_⟩
 ·have:=h.lo p hp;have:=h.lt p hp;show ((rows.getD p []).getD 0 0-1).toNat < ((rows.getD p []).getD 1 0-1).toNat;omega
 ·have:=h.lo p hp;have:=h.lt p hp;have:=h.hi p hp;show ((rows.getD p []).getD 1 0-1).toNat < rs.length;omega
 ·show zbg hs rs p _=true;unfold zbg;rw [decide_eq_false (h.a p hp)];rfl
 ·show zbg hs rs p _=true;unfold zbg;rw [decide_eq_false (h.b p hp)];rfl
 ·have h1:=h.lim r hr;rw [zeY,h.len] at h1;have h2:Hall.sm hs.length (fun p=>Hall.b2 (r == ((rows.getD p []).getD 0 0-1).toNat || r == ((rows.getD p []).getD 1 0-1).toNat))=Hall.sm hs.length (fun p=>Hall.b2 (decide ((r:Int)+1∈rows.getD p []))):=by
   apply Hall.sm_congr;intro p hp
   congr 1
   have e:=len2 (h.two p hp);have l1:=h.lo p hp;have l2:=h.lt p hp;generalize (rows.getD p []).getD 0 0=x at *;generalize (rows.getD p []).getD 1 0=y at *;rw [e]
   by_cases e1:(r:Int)+1=x
   ·have:(r == (x-1).toNat)=true:=by simp;omega
    rw [this];simp [e1]
   ·by_cases e2:(r:Int)+1=y
    ·have:(r == (y-1).toNat)=true:=by simp;omega
     rw [this];simp [e2]
    ·have t1:(r == (x-1).toNat)=false:=by simp;omega
     have t2:(r == (y-1).toNat)=false:=by simp;omega
     rw [t1,t2];simp [e1,e2]
  show Hall.sm hs.length (fun p=>Hall.b2 (r == ((rows.getD p []).getD 0 0-1).toNat || r == ((rows.getD p []).getD 1 0-1).toNat))≤_;rw [h2];unfold limN;omega
theorem zhm {hs:List Int} {rs:List (List Int)} {D:Nat→Nat×Nat} (h0:∀ i,i < rs.length→0≤(rs.getD i []).getD 1 0)
  (h:Hall.Deal hs.length rs.length (limN rs) (zbg hs rs) D):zix hs rs ((List.range hs.length).map fun p=>[((D p).1:Int)+1,((D p).2:Int)+1]):=by
 have g:∀ k,k < hs.length→((List.range hs.length).map fun p=>[((D p).1:Int)+1,((D p).2:Int)+1]).getD k []=[((D k).1:Int)+1,((D k).2:Int)+1]:=fun k hk=>zaE hk;refine ⟨by simp,fun k hk=>?_,fun k hk=>?_,fun k hk=>?_,fun k hk=>?_,fun k hk=>?_,fun k hk=>?_,fun k hk=>?_⟩
 ·rw [g k hk];rfl
 ·rw [g k hk];show 1≤((D k).1:Int)+1;omega
 ·rw [g k hk];have:=h.lt k hk;show ((D k).1:Int)+1 < ((D k).2:Int)+1;omega
 ·rw [g k hk];have:=h.hi k hk;show ((D k).2:Int)+1≤_;omega
 ·rw [g k hk];have:=h.a k hk;unfold zbg at this;have e:(((D k).1:Int)+1-1).toNat=(D k).1:=by omega
  show (rs.getD (((D k).1:Int)+1-1).toNat []).getD 0 0≠_;rw [e];simpa using this
 ·rw [g k hk];have:=h.b k hk;unfold zbg at this;have e:(((D k).2:Int)+1-1).toNat=(D k).2:=by omega
  show (rs.getD (((D k).2:Int)+1-1).toNat []).getD 0 0≠_;rw [e];simpa using this
 ·have h1:=h.lim k hk;rw [zeY,List.length_map,List.length_range];have h2:Hall.sm hs.length (fun p=>Hall.b2 (decide ((k:Int)+1∈((List.range hs.length).map fun p=>[((D p).1:Int)+1,((D p).2:Int)+1]).getD p [])))=Hall.sm hs.length (fun p=>Hall.b2 (k == (D p).1 || k == (D p).2)):=by
   apply Hall.sm_congr;intro p hp
   congr 1
   rw [g p hp]
   by_cases e1:k=(D p).1
   ·have:(k == (D p).1)=true:=by simp [e1]
    rw [this];simp [← e1]
   ·by_cases e2:k=(D p).2
    ·have:(k == (D p).2)=true:=by simp [e2]
     rw [this];simp [← e2]
    ·have t1:(k == (D p).1)=false:=by simp [e1]
     have t2:(k == (D p).2)=false:=by simp [e2]
     rw [t1,t2];have n1:¬((k:Int)=((D p).1:Int)):=by omega
     have n2:¬((k:Int)=((D p).2:Int)):=by omega
     simp [n1,n2]
  rw [h2];have:=h0 k hk;unfold limN at h1;omega
def nbB:List (List Int)→List (List Int)→Bool
 | t::ts,r::rs=>if t.getD 0 0=r.getD 0 0 then (if t.getD 1 0=r.getD 1 0 then nbB ts rs else decide (t.getD 1 0 < r.getD 1 0)) else decide (t.getD 0 0 < r.getD 0 0)
 | _,_=>true
theorem zea {hs:List Int} {rs:List (List Int)} (h0:∀ i,i < rs.length→0≤(rs.getD i []).getD 1 0) :
  (∃ rows,zaT hs rs rows=true)↔∀ xs,SetM hs.length xs→agB hs rs xs=false:=by
 rw [← ziw h0,← Hall.deal_iff];constructor
 ·rintro ⟨rows,h⟩;exact ⟨_,zhl (zdm.mp h)⟩
 ·rintro ⟨D,h⟩;exact ⟨_,zdm.mpr (zhm h0 h)⟩
def zbL (hs:List Int) (rs:List (List Int)):Option (List (List Int))→Prop
 | none=>∀ rows,zaT hs rs rows=false
 | some t=>zaT hs rs t=true∧∀ rows,zaT hs rs rows=true→nbB t rows=true
theorem zeb {α:Type} {xs:List α} {d:α} {i k:Nat} (h:i < k):(xs.take k).getD i d=xs.getD i d:=by
 rw [List.getD_eq_getElem?_getD,List.getD_eq_getElem?_getD,List.getElem?_take,if_pos h]
theorem InB.take {hs:List Int} {rs:List (List Int)} (B:InB hs rs) (k:Nat):InB hs (rs.take k):=by
 have hl:(rs.take k).length≤rs.length:=by rw [List.length_take];omega
 have hk:∀ i,i < (rs.take k).length→i < k∧i < rs.length:=fun i hi=>by rw [List.length_take] at hi;omega
 refine ⟨B.lp,by have:=B.lr;omega,B.hh,fun i hi=>?_,fun i hi=>?_,fun i hi=>?_⟩ <;> rw [zeb (hk i hi).1]
 ·exact B.r2 i (hk i hi).2
 ·exact B.rh i (hk i hi).2
 ·exact B.rl i (hk i hi).2
theorem InB.takeH {hs:List Int} {rs:List (List Int)} (B:InB hs rs) (k:Nat):InB (hs.take k) rs:=by
 have hl:(hs.take k).length≤hs.length:=by rw [List.length_take];omega
 refine ⟨by have:=B.lp;omega,B.lr,fun i hi=>?_,B.r2,B.rh,B.rl⟩;rw [List.length_take] at hi;rw [zeb (by omega)];exact B.hh i (by omega)
theorem LL.push {K:PySem.W.Frag} {H:Hp} {p q:Addr} {rs:List (List Int)} {r:List Int} {ps:List Addr} (e:H p=some (.lst (ps.map V.ref++[.ref q]))) (hl:ps.length=rs.length) (hq:H q=some (.lst (r.map V.int)))
  (hall:∀ i,i < rs.length→H (ps.getD i 0)=some (.lst ((rs.getD i []).map V.int))):LL K H p (rs++[r]):=by
 have e':ps.map V.ref++[.ref q]=(ps++[q]).map V.ref:=by simp
 rw [e'] at e;refine ⟨ps++[q],SqL.of e,by simp [hl],fun i hi=>?_⟩
 by_cases h:i < rs.length
 ·rw [zaw (by omega),zaw h];exact hall i h
 ·have h2:i=rs.length:=by simp only [List.length_append,List.length_cons,List.length_nil] at hi;omega
  subst h2;rw [zau,← hl,zau];exact hq
def zb9 (x y s:Int):Bool:=decide (x-y≤s∧y-x≤s)
def zaZ (rs rows:List (List Int)):List Int:=(List.range rs.length).map fun k=>(rs.getD k []).getD 1 0-(cntB rows ((k:Int)+1):Int)
end Prf
namespace Prf
open PySem PySem.Spec PyProof.Rows L2
end Prf
namespace L2
open PySem PySem.Spec PyProof.Rows
section
variable {X:Cx} {K:PySem.W.Frag}
def zlL (K:PySem.W.Frag):List V→Hp→VK→Prop:=fun xs H Q=>∃ (a:Addr) (ns:List Int),xs=[.ref a]∧SqL K H a (ns.map V.int)∧0 < ns.length∧∀ m∈ns,(∀ x∈ns,m≤x)→Q (.int m) H
theorem zfw (hK:X.K=K) (hc:X.calm=true):zdd X (.builtin "min") (zlL K):=by
 subst hK;intro pins s σ H xs us Q I r h;obtain ⟨a,ns,rfl,hl,hz,q⟩:=h;obtain ⟨u,rfl,ru⟩:=r.one
 cases ru
 obtain ⟨its,rv,pl,_⟩:=I.list hl;have hi:=intsAre_of rv;have ha:AllInts its.toArray:=hi.allInts;obtain ⟨zs,ez⟩:=ha.items;have en:zs.toList.map (·.1)=ns:=by
  have h1:=nums_intItems zs;rw [← ez] at h1;rw [← h1];exact hi.numsOf
 have hs:0 < zs.size:=by
  have:zs.size=ns.length:=by rw [← en];simp
  omega
 refine min_intList (xs:=zs) (I.ok.hd hc) (by rw [← ez];exact pl.isList) hs fun v h' tk hv k=>?_;obtain ⟨t,rfl⟩:=intItems_at hv;obtain ⟨h1,h2⟩:=argBest_lt (numAt zs) (zs.size-1);refine ⟨.int _,H,I.kept k,⟨t,rfl⟩,q _ ?_ fun x hx=>?_⟩
 ·rw [numAt_eq,← en];exact getD_mem (by rw [List.length_map,Array.length_toList];omega)
 ·rw [← en] at hx;obtain ⟨j,hj,ej⟩:=mem_getD (d:=0) hx;rw [← ej];rw [List.length_map,Array.length_toList] at hj;rw [← numAt_eq];exact h2 j (by omega)
def ziy (K:PySem.W.Frag):List V→Hp→VK→Prop:=fun xs H Q=>∃ (a:Addr) (ns:List Int),xs=[.ref a]∧SqL K H a (ns.map V.int)∧ns.length < 64∧∀ ns':List Int,ns'.Perm ns→ns'.Pairwise (·≤·)→∀ p,H p=none→Q (.ref p) (upd H p (.lst (ns'.map V.int)))
theorem zfx (hK:X.K=K):zdd X (.builtin "sorted") (ziy K):=by
 subst hK;intro pins s σ H xs us Q I r h;obtain ⟨a,ns,rfl,hl,hz,q⟩:=h;obtain ⟨u,rfl,ru⟩:=r.one
 cases ru
 obtain ⟨its,rv,pl,_⟩:=I.list hl;have hi:=intsAre_of rv;have hlen:its.length < 64:=by rw [← rv.length,List.length_map];exact hz
 refine sorted_ints pl.isList hi hlen fun out ns' a1 a2 a3=>?_;obtain ⟨e,he⟩:=sortedAll_at s.heap its out;have hf:H (s.heap.objs.size+1)=none:=I.hok.fresh (Nat.le_succ _);refine ⟨.ref (s.heap.objs.size+1),_,I.laid (t':=s.toks) (o:=.lst (ns'.map V.int)) (fun b o x=>sortedAll_old x) (Nat.le_succ _) ?_,rfl,q ns' a2 a3 _ hf⟩;refine ⟨by rw [List.length_map,a2.length_eq,sizeLine_eq];omega,out.toList,e,vals_ints a1,?_⟩;exact he
def cAll (K:PySem.W.Frag):List V→Hp→VK→Prop:=fun xs H Q=>∃ (a:Addr) (bs:List Bool),xs=[.ref a]∧SqL K H a (bs.map V.bl)∧Q (.bl (bs.all id)) H
theorem all_range (bs:List Bool) (f:Nat→Bool) (h:∀ i,i < bs.length→f i=bs.getD i true):(List.range bs.length).all f=bs.all id:=by
 rw [Bool.eq_iff_iff,List.all_eq_true,List.all_eq_true];constructor
 ·intro g x hx;obtain ⟨i,hi,rfl⟩:=List.getElem_of_mem hx;have:=g i (List.mem_range.mpr hi);rw [h i hi,List.getD_eq_getElem?_getD,List.getElem?_eq_getElem hi] at this;exact this
 ·intro g i hi;have hi':=List.mem_range.mp hi;rw [h i hi',List.getD_eq_getElem?_getD,List.getElem?_eq_getElem hi'];exact g _ (List.getElem_mem hi')
theorem ziz (hK:X.K=K) (hc:X.calm=true):zdd X (.builtin "all") (cAll K):=by
 subst hK;intro pins s σ H xs us Q I r h;obtain ⟨a,bs,rfl,hl,q⟩:=h;obtain ⟨u,rfl,ru⟩:=r.one
 cases ru
 obtain ⟨its,rv,pl,_⟩:=I.list hl;have Ls:=pl.isList;obtain ⟨ol,el,_⟩:=id Ls;have Ll:=Heap.lt_size el;have lb:bs.length=its.length:=by have:=rv.length;rw [List.length_map] at this;exact this
 refine call_all_walk (wpAny_pyIter_list Ls ⟨_,_,_,_,_,_,fun i=>bs.getD i true,rfl,Walks.list (A:=X.A.in1) (I.ok.hd hc) s.heap.objs.size a (Nat.ne_of_lt Ll) its.toArray,⟨?_,?_⟩,?_,?_⟩)
 ·exact ⟨_,Heap.get?_push_size _ rfl,rfl,rfl⟩
 ·exact Ls.at fun o x=>Heap.get?_push_of_some _ x
 ·intro i v s' Q' E' hv hq;rw [List.getElem?_toArray] at hv;have hi:i < its.length:=(List.getElem?_eq_some_iff.mp hv).1;obtain ⟨u',hu,ru⟩:=rv.get (i:=i) (x:=.bl (bs.getD i true)) (by rw [List.getElem?_map,List.getElem?_eq_getElem (by omega),List.getD_eq_getElem?_getD,List.getElem?_eq_getElem (by omega)];rfl);have e:v=.bool (bs.getD i true):=by
   rw [hu] at hv;rw [← Option.some.inj hv];exact ru
  subst e;exact wpAny_truthy_bool hq
 ·intro h' tk k;have e:(List.range its.toArray.size).all (fun i=>bs.getD i true)=bs.all id:=by
   rw [List.size_toArray,← lb];exact all_range bs _ fun i _=>rfl
  rw [e];exact ⟨.bl _,H,I.kept fun b o x=>k b o (by have:=Nat.ne_of_lt (Heap.lt_size x);simpa using this) (Heap.get?_push_of_some _ x),rfl,q⟩
end
section
variable {σ:St} {H:Hp} {Q:VK} {K:PySem.W.Frag} {a:Addr} {ns:List Int} {bs:List Bool}
theorem zfy (h:SqL K H a (ns.map V.int)) (hz:0 < ns.length) (q:∀ m∈ns,(∀ x∈ns,m≤x)→Q (.int m) H):zlL K [.ref a] H Q:=⟨a,ns,rfl,h,hz,q⟩
theorem zf9 (h:SqL K H a (ns.map V.int)) (hz:ns.length < 64) (q:∀ ns':List Int,ns'.Perm ns→ns'.Pairwise (·≤·)→∀ p H2,H p=none→Same H H2→H2 p=some (.lst (ns'.map V.int))→Q (.ref p) H2):ziy K [.ref a] H Q :=
 ⟨a,ns,rfl,h,hz,fun ns' h1 h2 p hp=>q ns' h1 h2 p _ hp (zaY hp) zas⟩
theorem zjw (h:SqL K H a (bs.map V.bl)) (q:Q (.bl (bs.all id)) H):cAll K [.ref a] H Q:=⟨a,bs,rfl,h,q⟩
end
end L2
namespace L2
open PySem PySem.Spec PyProof.Rows
section
variable {σ:St} {H:Hp} {Q:VK} {K:PySem.W.Frag} {js:List Nat} {te:TE} {tc:TT} {J:It} {n k:Nat} {x y:Nat→V} {g:TG} {w:Nat→St}
def zga (J:It) (k:Nat) (js:List Nat) (g:TG) (tc:TT) (te:TE) (σ:St) (H:Hp) (Q:VK):Prop:=∀ p,H p=none →
 ∃ W:Nat→Nat→St→Hp→Prop,(∃ m,W 0 m (capS k js σ) (upd H p (.lst [])))∧∀ i m σc H,W i m σc H →
  (J.stop i H∧Q (.ref p) H)∨(J.go i H∧∃ N:St→Hp→Prop,(∀ σ' H',N σ' H'→∃ m',m' < m∧W (i+1) m' σ' H')∧∀ x H',J.yld i H x H' →
   g x σc H' fun σ2 H2=>tc σ2 H2 fun b H3=>if b=true then te σ2 H3 fun v H4=>∃ ys,H4 p=some (.lst ys)∧ys.length < sizeLine∧N σ2 (upd H4 p (.lst (ys++[v]))) else N σ2 H3)
theorem zcf (h:zga J 1 js (zcs 0) tc te σ H Q):zet J js tc te σ H Q:=h
structure zcg (J:It) (n k:Nat) (js:List Nat) (σ:St) (g:TG) (w:Nat→St) (H:Hp):Prop where
 len:∀ i,(w i).length=k
 go:∀ i H',Same H H'→i < n→J.go i H'
 stop:∀ H',Same H H'→J.stop n H'
 yld:∀ i H' v H2 (u:St) (N:St→Hp→Prop),Same H H'→i < n→u.length=k→J.yld i H' v H2→(∀ H3,Same H' H3→N (w i++capV js σ) H3)→g v (u++capV js σ) H2 N
theorem zcg.one (it:Iter J n x H):zcg J n 1 js σ (zcs 0) (fun i=>[some (x i)]) H where
 len:=fun _=>rfl
 go:=it.go
 stop:=it.stop
 yld:=fun i H' v H2 u N s hi hu hy q=>by
  obtain ⟨rfl,rfl⟩:=it.yld i H' v H2 s hi hy
  match u,hu with
  | [a],_=>exact q _ (Same.refl _)
theorem zfz (T:zcg J n k js σ g w H) (hz:n≤1000) (c:Nat→Bool) (f:Nat→V)
  (ht:∀ i H' Q',i < n→Same H H'→(∀ H2,Same H' H2→Q' (c i) H2)→tc (w i++capV js σ) H' Q')
  (he:∀ i H' Q',i < n→Same H H'→c i=true→(∀ H2,Same H' H2→Q' (f i) H2)→te (w i++capV js σ) H' Q')
  (hq:∀ p H2,H p=none→Same H H2→H2 p=some (.lst (((List.range n).filter c).map f))→Q (.ref p) H2):zga J k js g tc te σ H Q:=by
 intro p hp;refine ⟨fun i m σc H'=>m=n-i∧i≤n∧(∃ u:St,u.length=k∧σc=u++capV js σ)∧Same H H'∧H' p=some (.lst (((List.range i).filter c).map f)),⟨n,by simp,Nat.zero_le _,⟨List.replicate k none,List.length_replicate,rfl⟩,zaY hp,zas⟩,?_⟩;rintro i m σc H' ⟨rfl,hi,⟨u,hu,rfl⟩,s,hpp⟩;have hlen:(((List.range i).filter c).map f).length≤i:=by
  rw [List.length_map];exact Nat.le_trans (List.length_filter_le _ _) (by simp)
 have hsl:n < sizeLine:=za2 hz
 by_cases hlt:i < n
 ·refine .inr ⟨T.go i _ s hlt,fun σ' H'=>(∃ u:St,u.length=k∧σ'=u++capV js σ)∧Same H H'∧H' p=some (.lst (((List.range (i+1)).filter c).map f)),fun σ' H' ⟨h1,h2,h3⟩=>⟨n-(i+1),by omega,rfl,hlt,h1,h2,h3⟩,fun v H2 hy=>?_⟩;have e:(List.range (i+1)).filter c=(List.range i).filter c++if c i=true then [i] else []:=by
   rw [List.range_succ,List.filter_append]
   cases hc:c i <;> simp [hc]
  refine T.yld i H' v H2 u _ s hlt hu hy fun H3 s3=>?_;refine ht i _ _ hlt (s.trans s3) fun H4 s4=>?_;have s34:=s3.trans s4
  cases hc:c i with
  | false =>
    rw [if_neg Bool.false_ne_true];refine ⟨⟨w i,T.len i,rfl⟩,s.trans s34,?_⟩;rw [e,hc];simpa using s34 _ _ hpp
  | true =>
    rw [if_pos rfl];refine he i _ _ hlt (s.trans s34) hc fun H5 s5=>?_;refine ⟨_,s5 _ _ (s34 _ _ hpp),by omega,⟨w i,T.len i,rfl⟩,zdZ ((s.trans s34).trans s5) hp,?_⟩;rw [zas,e,hc];simp
 ·have e:i=n:=by omega
  subst e;exact .inl ⟨T.stop _ s,hq p _ hp s hpp⟩
theorem zca (T:zcg J n k js σ g w H) (hz:n≤1000) (f:Nat→List Int)
  (he:∀ i H' Q',i < n→Same H H'→(∀ q H2,H' q=none→Same H' H2→H2 q=some (.lst ((f i).map V.int))→Q' (.ref q) H2)→te (w i++capV js σ) H' Q')
  (hq:∀ p H2,RowsAt H p ((List.range n).map f) H2→Q (.ref p) H2):zga J k js g tTT te σ H Q:=by
 intro p hp;refine ⟨fun i m σc H'=>m=n-i∧i≤n∧(∃ u:St,u.length=k∧σc=u++capV js σ)∧RowsAt H p ((List.range i).map f) H',⟨n,by simp,Nat.zero_le _,⟨List.replicate k none,List.length_replicate,rfl⟩,RowsAt.start hp (zaY hp) zas⟩,?_⟩;rintro i m σc H' ⟨rfl,hi,⟨u,hu,rfl⟩,R⟩;have s:=R.same;have hsl:n < sizeLine:=za2 hz
 by_cases hlt:i < n
 ·refine .inr ⟨T.go i _ s hlt,fun σ' H'=>(∃ u:St,u.length=k∧σ'=u++capV js σ)∧RowsAt H p ((List.range (i+1)).map f) H',fun σ' H' ⟨h1,h2⟩=>⟨n-(i+1),by omega,rfl,hlt,h1,h2⟩,fun v H2 hy=>?_⟩;refine T.yld i H' v H2 u _ s hlt hu hy fun H3 s3=>?_;refine r_tt ?_;rw [if_pos rfl];refine he i _ _ hlt (s.trans s3) fun q H4 f4 s4 e4=>?_;obtain ⟨zs,hzs,hzl⟩:=R.lst;have hzn:zs.length=i:=by rw [hzl];simp
  have hp4:=s4 _ _ (s3 _ _ hzs);refine ⟨zs,hp4,by omega,⟨w i,T.len i,rfl⟩,?_⟩;rw [List.range_succ,List.map_append];exact R.push (s3.free f4) (s3.trans s4) e4 hp4 But.upd zas
 ·have e:i=n:=by omega
  subst e;exact .inl ⟨T.stop _ s,hq p _ R⟩
end
end L2
namespace L2
open PySem PySem.Spec PyProof.Rows
section
variable {prog:Program} {w:World} {A:Around} {E:Value→Shared→Prop} {s:Shared}
abbrev kwS (v:Value):List (Str×Value):=[(Str.ofString "start",v)]
theorem zhn (a v:Value):checkTypeCall "enumerate" ⟨[a],kwS v⟩=pure ():=by kernel_rfl
theorem ziA (a v:Value):checkBuiltinCall "enumerate.__new__" ⟨[.type "enumerate",a],kwS v⟩=pure ():=by kernel_rfl
theorem zho (a b v:Value):argsOk "object.__init__" ⟨[a,b],kwS v⟩:=by unfold argsOk;kernel_rfl
theorem zgb (l:Addr) (items:Array Value) (n:Nat) (dct:Option Addr) (sl:Array (Option Value)) (t:Tok) :
  Meets (Builtin.«enumerate.__new__» ⟨[.type "enumerate",.ref l],kwS (.int 1 t)⟩) (fun _ R s=>s.heap.get? l=some { cls:=.type "list",dict:=dct,data:=.seq items n,slots:=sl } ∧
   R (.ok (.ret (.ref (s.heap.push { cls:=.type "list_iterator",data:=.fields #[.ref l,.int 0 0] }).objs.size)))
    { s with heap:=(s.heap.push { cls:=.type "list_iterator",data:=.fields #[.ref l,.int 0 0] }).push { cls:=.type "enumerate",data:=.fields #[.none,.bool false,.ref s.heap.objs.size,rawInt 1,.none,.none] } }) :=
 .of_wp fun prog w A R s ⟨hl,h⟩=>by
  obtain ⟨hp,g,d,tk,os⟩:=s;have hsub:=sub_enumerate;have hL:Heap.IsList (Shared.heap ⟨hp,g,d,tk,os⟩) l items:=⟨_,hl,rfl,n,rfl⟩
  wp_walk using AutoSeq1.wpAny_loadPart' hl
  refine wpAny_stack_any fun st=>wpAny_pure ?_;split
  ·rename_i c _ _ _ _ _
   cases hcc:(c == Value.type "enumerate")
   ·wp_walk using AutoSeq1.wpAny_loadPart' hl,wpAny_pyIter_list hL
    exact ⟨_,rfl,h⟩
   ·wp_walk using AutoSeq1.wpAny_loadPart' hl,wpAny_pyIter_list hL
    exact ⟨_,rfl,h⟩
  ·wp_walk using AutoSeq1.wpAny_loadPart' hl,wpAny_pyIter_list hL
   exact ⟨_,rfl,h⟩
theorem zgc (self a v:Value):Meets (Builtin.«object.__init__» ⟨[self,a],kwS v⟩) (fun _ R s=>s.TypeIs self "enumerate"∧R (.ok (.ret .none)) s):=by
 refine Meets.of_wp fun prog w A R s hs=>?_;obtain ⟨hT,hq⟩:=hs;have hl:=F.called_enumerate.init.lookup;have hm:=F.called_enumerate.made;have hne:(some "enumerate.__new__" != some "object.__new__")=true:=by decide
 repeat (any_goals (first | (assumption) | wp_step))
 exact ⟨_,rfl,hq⟩
theorem zhp {l:Addr} {items:Array Value} {t:Tok} {Q:Value→Shared→Prop} (hL:s.heap.IsList l items)
  (h:∀ h',IsEnum h' (s.heap.objs.size+1) s.heap.objs.size 1 .none→h'.IsListIter s.heap.objs.size l 0→(∀ b o,s.heap.get? b=some o→h'.get? b=some o)→Q (.ref (s.heap.objs.size+1)) { s with heap:=h' }) :
  wpAny (model prog w) A (call (.type "enumerate") [.ref l] (kwS (.int 1 t))) Q E s:=by
 obtain ⟨⟨c,dct,dt,sl⟩,hl,hc,n,hd⟩:=hL;obtain rfl:c=.type "list":=hc;obtain rfl:dt=.seq items n:=hd;have ft:=F.called_enumerate;obtain ⟨c0,tl,hmro⟩:=ft.mro;have hmade:=ft.made;have hsub:=ft.sub;have hct:=zhn (.ref l) (.int 1 t);refine wpAny_call (codeAny_of_tree ?_);show wpAny _ _ (callAny (.type "enumerate") _) _ _ _;refine wpAny_pure ⟨Code.quiet_builtin _ (by decide +kernel),codeAny_builtin F.entry_type_call ?_⟩;rw [Around.under_plain (weight_type_call_type "enumerate" [.ref l] (kwS (.int 1 t))) (units_type_call_type "enumerate" [.ref l] (kwS (.int 1 t)))];have n1:=ft.notType;have n2:=ft.canCreate
 repeat (any_goals (first | (assumption) | wp_step))
 have hz:(s.heap.push { cls:=.type "list_iterator",data:=.fields #[.ref l,.int 0 0] }).objs.size=s.heap.objs.size+1:=Heap.size_push ..
 let R0:Result→Shared→Prop:=fun r s'=>r=.ok (.ret (.ref (s.heap.objs.size+1)))∧∃ h',s'={ s with heap:=h' }∧IsEnum h' (s.heap.objs.size+1) s.heap.objs.size 1 .none∧h'.IsListIter s.heap.objs.size l 0∧(∀ b o,s.heap.get? b=some o→h'.get? b=some o)
 have key:codeAny (model prog w) A.in1 (Code.call (.builtin "enumerate.__new__") ⟨[.type "enumerate",.ref l],kwS (.int 1 t)⟩) R0 s:=by
  refine codeAny_call_builtin ft.plain F.entry_enumerate_new (wpAny_of_eq (ziA _ _) (zgb l items n dct sl t prog w A.in1 R0 s ⟨hl,?_⟩));rw [hz];refine ⟨rfl,_,rfl,?_,⟨_,Heap.get?_push_of_some _ (Heap.get?_push_size _ rfl),rfl,rfl⟩,fun b o x=>Heap.get?_push_of_some _ (Heap.get?_push_of_some _ x)⟩;have e:=Heap.get?_push_size (s.heap.push { cls:=.type "list_iterator",data:=.fields #[.ref l,.int 0 0] }) (o:={ cls:=.type "enumerate",data:=.fields #[.none,.bool false,.ref s.heap.objs.size,rawInt 1,.none,.none] }) rfl;rw [hz] at e;exact e
 refine codeAny_mono key fun r s1 hr=>?_;obtain ⟨rfl,h',rfl,a1,a2,a3⟩:=hr;have hT:Shared.TypeIs { s with heap:=h' } (.ref (s.heap.objs.size+1)) "enumerate":=⟨_,a1,rfl⟩
 have hli:=ft.init.lookup;have hbi:=ft.init.bind (.ref (s.heap.objs.size+1))
 repeat (any_goals (first | (assumption) | wp_step))
 let R1:Result→Shared→Prop:=fun r s'=>r=.ok (.ret .none)∧s'={ s with heap:=h' }
 have key2:codeAny (model prog w) A.in1 (Code.call (.builtin "object.__init__") ⟨[.ref (s.heap.objs.size+1),.ref l],kwS (.int 1 t)⟩) R1 { s with heap:=h' } :=
  codeAny_call_builtin ft.init.plain F.entry_object_init (ft.init.check _ _ _ _ _ _ _ _ hT (zho _ _ _) (zgc _ _ _ prog w A.in1 R1 _ ⟨hT,rfl,rfl⟩))
 refine codeAny_mono key2 fun r s2 hr=>?_;obtain ⟨rfl,rfl⟩:=hr
 repeat (any_goals (first | (assumption) | wp_step))
 exact h _ a1 a2 a3
theorem zhq {e it l:Addr} {i:Nat} {c:Int} {xs:Array Value} {x old:Value} {Q:Value→Shared→Prop} (he:IsEnum s.heap e it c old) (hit:s.heap.IsListIter it l i) (hl:s.heap.IsList l xs) (hx:xs[i]? = some x) (ne:e≠it)
  (q:∀ k,IsEnumOut k e it (c+1) x s.heap.objs.size→k.IsListIter it l (i+1)→k.get? s.heap.objs.size=some { cls:=.type "tuple",data:=.seq #[.int c s.toks,x] } →
   (∀ b o,b≠e→b≠it→s.heap.get? b=some o→k.get? b=some o)→Q (.ref s.heap.objs.size) { s with heap:=k,toks:=s.toks+1 }) :
  wpAny (model prog w) A (Builtin.«enumerate.__next__» ⟨[.ref e],[]⟩) (fun fin s'=>∃ v,fin=.done (.ret v)∧Q v s') E s:=by
 obtain ⟨g0,ge,dr,tk,os⟩:=s;have elt:e < g0.objs.size:=Heap.lt_size he;show wpAny _ _ (field (.ref e) 2 >>= _) _ _ _;refine wpAny_bind (wpAny_field he rfl (x:=.ref it) rfl (wpAny_bind (wpAny_nextOf_list_item hit hl hx fun g1 i1 b1=>?_)));replace b1:Heap.SameBut it g0 g1:=b1;have e1:IsEnum g1 e it c old:=(b1.2 e ne).trans he;show wpAny _ _ (field (.ref e) 3 >>= _) _ _ ⟨g1,ge,dr,tk,os⟩;refine wpAny_bind (wpAny_field e1 rfl (x:=rawInt c) rfl ?_);show wpAny _ _ (field (.ref e) 4 >>= _) _ _ ⟨g1,ge,dr,tk,os⟩;refine wpAny_bind (wpAny_field e1 rfl (x:=.none) rfl ?_);show wpAny _ _ (mkInt c >>= _) _ _ ⟨g1,ge,dr,tk,os⟩;refine wpAny_bind (wpAny_mkInt ?_);show wpAny _ _ (setField (.ref e) 3 (rawInt (c+1)) >>= _) _ _ ⟨g1,ge,dr,tk+1,os⟩;refine wpAny_bind (wpAny_setField_rec e1 (by simp) fun g2 e2 b2=>?_);replace b2:Heap.SameBut e g1 g2:=b2;replace e2:IsEnum g2 e it (c+1) old:=e2;show wpAny _ _ (setField (.ref e) 4 .none >>= _) _ _ ⟨g2,ge,dr,tk+1,os⟩;refine wpAny_bind (wpAny_setField_rec e2 (by simp) fun g3 e3 b3=>?_);replace b3:Heap.SameBut e g2 g3:=b3;replace e3:IsEnum g3 e it (c+1) old:=e3;show wpAny _ _ (newTuple [.int c tk,x] >>= _) _ _ ⟨g3,ge,dr,tk+1,os⟩;refine wpAny_bind (wpAny_newTuple ?_);have z3:g3.objs.size=g0.objs.size:=by rw [b3.1,b2.1,b1.1]
 have keep3:∀ b o,b≠e→b≠it→g0.get? b=some o→g3.get? b=some o:=fun b o n1 n2 y=>b3.extBut b o n1 (b2.extBut b o n1 (b1.extBut b o n2 y));have i3:g3.IsListIter it l (i+1):=(i1.extBut b2.extBut ne.symm).extBut b3.extBut ne.symm;have e4:IsEnum (g3.push { cls:=.type "tuple",data:=.seq #[.int c tk,x] }) e it (c+1) old:=Heap.get?_push_of_some _ e3;have t4:(g3.push { cls:=.type "tuple",data:=.seq #[.int c tk,x] }).get? g0.objs.size=some { cls:=.type "tuple",data:=.seq #[.int c tk,x] }:=by rw [← z3];exact Heap.get?_push_size _ rfl
 have keep4:∀ b o,b≠e→b≠it→g0.get? b=some o→(g3.push { cls:=.type "tuple",data:=.seq #[.int c tk,x] }).get? b=some o:=fun b o n1 n2 y=>Heap.get?_push_of_some _ (keep3 b o n1 n2 y);have i4:(g3.push { cls:=.type "tuple",data:=.seq #[.int c tk,x] }).IsListIter it l (i+1):=i3.at fun o y=>Heap.get?_push_of_some _ y;rw [z3];generalize g3.push { cls:=.type "tuple",data:=.seq #[.int c tk,x] }=g4 at e4 t4 keep4 i4;show wpAny _ _ (Builtin.SmallTypes.ownedTupleIsFree (.ref e) >>= _) _ _ ⟨g4,ge,dr,tk+1,os⟩;refine wpAny_bind ?_;unfold Builtin.SmallTypes.ownedTupleIsFree;refine wpAny_bind (wpAny_field e4 rfl (x:=.none) rfl (wpAny_pure ?_));simp only [if_true];refine wpAny_bind (wpAny_rule (wpAny_bind (wpAny_field e4 rfl (x:=old) rfl (wpAny_bind (wpAny_setField_rec e4 (by simp) fun g5 e5 b5=>?_)))));replace b5:Heap.SameBut e g4 g5:=b5;replace e5:IsEnum g5 e it (c+1) x:=e5;show wpAny _ _ (Builtin.SmallTypes.ownedTupleHandOut (.ref e) (.ref g0.objs.size) >>= _) _ _ ⟨g5,ge,dr,tk+1,os⟩;refine wpAny_bind ?_;unfold Builtin.SmallTypes.ownedTupleHandOut;refine wpAny_bind (wpAny_setField_rec e5 (by simp) fun g6 e6 b6=>?_);replace b6:Heap.SameBut e g5 g6:=b6;replace e6:IsEnumOut g6 e it (c+1) x g0.objs.size:=e6;refine wpAny_setField_rec e6 (by simp) fun g7 e7 b7=>?_;replace b7:Heap.SameBut e g6 g7:=b7;have far:∀ b o,b≠e→g4.get? b=some o→g7.get? b=some o:=fun b o n1 y=>b7.extBut b o n1 (b6.extBut b o n1 (b5.extBut b o n1 y));exact wpAny_bind (wpAny_letGo (wpAny_pure ⟨_,rfl,q g7 e7 (i4.at fun o y=>far it o ne.symm y) (far _ _ (Nat.ne_of_gt elt) t4) fun b o n1 n2 y=>far b o n1 (keep4 b o n1 n2 y)⟩))
theorem zhr {e it l:Addr} {i:Nat} {c:Int} {xs:Array Value} {x old:Value} {Q:Option Value→Shared→Prop} (he:IsEnum s.heap e it c old) (hit:s.heap.IsListIter it l i) (hl:s.heap.IsList l xs) (hx:xs[i]? = some x) (ne:e≠it)
  (q:∀ k,IsEnumOut k e it (c+1) x s.heap.objs.size→k.IsListIter it l (i+1)→k.get? s.heap.objs.size=some { cls:=.type "tuple",data:=.seq #[.int c s.toks,x] } →
   (∀ b o,b≠e→b≠it→s.heap.get? b=some o→k.get? b=some o)→Q (some (.ref s.heap.objs.size)) { s with heap:=k,toks:=s.toks+1 }) :
  wpAny (model prog w) A (pyNext (.ref e)) Q E s:=by
 have hT:s.TypeIs (.ref e) "enumerate":=⟨_,he,rfl⟩
 unfold pyNext;refine wpAny_bind (wpAny_attempt (wpAny_callSpecial?_slot (name:=Str.ofString "__next__") hT F.slot_enumerate_next (wpAny_call_entry F.slot_enumerate_next hT F.entry_enumerate_next ?_ (F.args_enumerate_next_1 _))));exact zhq he hit hl hx ne fun k a b d f=>wpAny_pure (q k a b d f)
theorem ziB {e it l:Addr} {i:Nat} {c:Int} {xs:Array Value} {old:Value} {Q:Option Value→Shared→Prop} (hh:A.handled=none) (he:IsEnum s.heap e it c old) (hit:s.heap.IsListIter it l i) (hl:s.heap.IsList l xs) (hx:xs[i]? = none)
  (q:∀ k,Heap.ExtBut it s.heap k→Q none { s with heap:=k }):wpAny (model prog w) A (pyNext (.ref e)) Q E s:=by
 have hT:s.TypeIs (.ref e) "enumerate":=⟨_,he,rfl⟩
 unfold pyNext;refine wpAny_bind (wpAny_attempt (wpAny_callSpecial?_slot (name:=Str.ofString "__next__") hT F.slot_enumerate_next (wpAny_call_entry F.slot_enumerate_next hT F.entry_enumerate_next ?_ (F.args_enumerate_next_1 _))));show wpAny _ _ (field (.ref e) 2 >>= _) _ _ _;refine wpAny_bind (wpAny_field he rfl (x:=.ref it) rfl (wpAny_bind (wpAny_nextOf_list_end hh hit hl hx fun k y hk hy=>?_)));obtain ⟨o,ho,hc⟩:=hy;exact wpAny_bind (wpAny_isInstance (T:="StopIteration") (b:=true) ⟨o,ho,hc⟩ isSubtype_stop (wpAny_pure (q _ hk)))
theorem zeZ {M:Model} {env:Env} {pos:Pos} {T:String} {e:Expr} {rest:List Expr} {kws:List Keyword} {Q:Value→Shared→Prop}
  (h:wpAny M A (spliced (backTo pos (starEach (e::rest) env))) (fun vs s1=>wpAny M A (evalAll ((backToKw pos (keywordEach kws env)).map (·.2)))
   (fun ks s2=>wpAny M A (call (.type T) vs (((backToKw pos (keywordEach kws env)).filterMap (·.1)).zip ks)) Q E s2) E s1) E s)
  (he:backTo pos (starEach (e::rest) env)=(false,eval e env)::backTo pos (starEach rest env)) (hp:(backTo pos (starEach (e::rest) env)).any (·.1)=false)
  (ha:(backToKw pos (keywordEach kws env)).all (·.1.isSome)=true) (hk:(backToKw pos (keywordEach kws env)).any (·.1.isNone)=false) :
  wpAny M A (callWith pos (.type T) [] (backTo pos (starEach (e::rest) env)) (backToKw pos (keywordEach kws env))) Q E s:=by
 have h2:wpAny M A (evalArgs (.type T) true (backTo pos (starEach (e::rest) env)) (backToKw pos (keywordEach kws env))) (fun a s1=>wpAny M A (call (.type T) ([]++a.pos) a.kw) Q E s1) E s:=by
  rw [he] at h ⊢;exact evalArgs_kwB ha h
 unfold callWith;refine wpAny_bind (wpAny_holding (wpAny_mono h2 (fun a s1 h1=>wpAny_bind (wpAny_standAt ?_)) fun _ _ z=>z));simp only [hp,hk,Bool.or_false];exact wpAny_bind (wpAny_pure (wpAny_bind (wpAny_mono h1 (fun r s2 hr=>wpAny_bind (wpAny_holding (wpAny_point (wpAny_pure hr)))) fun _ _ z=>z)))
end
def Ite (K:PySem.W.Frag) (a:Addr) (c:Int):It :=
 ⟨fun i H=>∃ xs x,SqL K H a xs∧xs[i]? = some x,
  fun i H v H'=>∃ T,H T=none∧v=.ref T∧∀ xs,SqL K H a xs→∃ x,xs[i]? = some x∧H'=upd H T (.tup [.int (c+i),x]),
  fun i H=>∃ xs,SqL K H a xs∧xs.length≤i⟩
theorem zfA {P:Program} {w:World} {K:PySem.W.Frag} {elts:List Expr} {x1:Nat} {tpos:Pos} {l z I:Addr} {c:Int} (hzI:z≠I) (hlz:l≠z) (hlI:l≠I) :
  Turn P w K (.Tuple elts x1 tpos) (Ite K l c) [z,I] z (fun i h=>(∃ old,IsEnum h z I (c+i) old)∧h.IsListIter I l i) where
 mem:=by simp
 obj:=fun i h st b hb=>by
  obtain ⟨⟨old,h1⟩,o2,h2,c2,d2⟩:=st;simp only [List.mem_cons,List.not_mem_nil,or_false] at hb;rcases hb with rfl | rfl
  ·exact ⟨_,h1,fun v y=>by cases y⟩
  ·exact ⟨_,h2,fun v y=>by rw [d2] at y;cases y⟩
 keep:=fun i h h' st k=>by
  obtain ⟨⟨old,h1⟩,h2⟩:=st;exact ⟨⟨old,k z (by simp) _ h1⟩,h2.at fun o e=>k I (by simp) o e⟩
 item:=by
  intro X hP hw hK hc i pins s σ H E Iv hf st hg;subst hP hw hK;obtain ⟨xs,x,hq,hx⟩:=hg;obtain ⟨its,rv,p1,_⟩:=Iv.list hq;obtain ⟨u,hu,ru⟩:=rv.get hx;obtain ⟨⟨old,g1⟩,g2⟩:=st;have hI:I < s.heap.objs.size:=by obtain ⟨_,y,_⟩:=g2;exact Heap.lt_size y
  have hz:z < s.heap.objs.size:=Heap.lt_size g1;refine zhr g1 g2 p1.isList (x:=u) (by simpa using hu) hzI fun k a1 a2 a3 a4=>⟨_,rfl,?_⟩
  refine wpAny_letOwnedTupleGo_enum a1 fun k2 b1 b2=>?_;replace b2:Heap.SameBut z k k2:=b2;have hTn:H s.heap.objs.size=none:=Iv.hok.fresh (Nat.le_refl _);have keep:∀ b ob,b∉[z,I]→s.heap.get? b=some ob→k2.get? b=some ob:=fun b ob hb e=>by
   simp only [List.mem_cons,List.not_mem_nil,or_false,not_or] at hb;exact b2.extBut b ob hb.1 (a4 b ob hb.1 hb.2 e)
  have ei:c+(i:Int)+1=c+((i+1:Nat):Int):=by rw [Int.natCast_add];omega
  have c2:k2.IsListIter I l (i+1):=a2.extBut b2.extBut hzI.symm;refine ⟨.ref s.heap.objs.size,upd H s.heap.objs.size (.tup [.int (c+i),x]),?_,rfl,⟨_,hTn,rfl,fun xs' q'=>?_⟩,⟨⟨_,by rw [← ei];exact b1⟩,c2⟩,fun b hb=>?_⟩
  ·refine Iv.turnedNew (t':=s.toks+1) (ch:=[z,I]) keep (fun b hb=>⟨hf b hb,?_⟩) (Nat.le_refl _) ?_
   ·simp only [List.mem_cons,List.not_mem_nil,or_false] at hb;rcases hb with rfl | rfl
    ·exact ⟨_,b1⟩
    ·obtain ⟨o,e,_⟩:=c2;exact ⟨_,e⟩
   ·exact ⟨by show 2≤sizeLine;rw [sizeLine_eq];decide,[.int (c+i) s.toks,u],.cons ⟨_,rfl⟩ (.cons ru .nil),_,b2.extBut _ _ (Nat.ne_of_gt hz) a3,rfl,_,rfl⟩
  ·rw [Iv.list_inj q' hq];exact ⟨x,hx,rfl⟩
  ·have:b≠s.heap.objs.size:=by
    simp only [List.mem_cons,List.not_mem_nil,or_false] at hb;rcases hb with rfl | rfl
    ·exact Nat.ne_of_lt hz
    ·exact Nat.ne_of_lt hI
   rw [zaJ this];exact (hf b hb).1
 done:=by
  intro X hP hw hK hc i pins s σ H E Iv hf st hg;subst hP hw hK;obtain ⟨xs,hq,hx⟩:=hg;obtain ⟨its,rv,p1,_⟩:=Iv.list hq;obtain ⟨⟨old,g1⟩,g2⟩:=st;have hl1:=rv.length;refine ziB (Iv.ok.hd hc) g1 g2 p1.isList (Array.getElem?_eq_none (by simp;omega)) fun k hk=>⟨rfl,Iv.turnedL (t':=s.toks) (ch:=[z,I]) (fun b ob hb e=>?_) hf⟩
  simp only [List.mem_cons,List.not_mem_nil,or_false,not_or] at hb;exact hk b ob hb.2 e
 self:=fun _ _ _ _ _ ⟨⟨_,st⟩,_⟩ h=>wpAny_pyIter_enum st h
section
variable {X:Cx} {K:PySem.W.Frag}
def zjx (K:PySem.W.Frag) (c:Int) (ta:TA):TI:=fun σ H R=>ta σ H fun vs H1=>∃ a xs,vs=[.ref a]∧SqL K H1 a xs∧R (Ite K a c) H1
theorem ziC {pins:List (Addr×Obj)} {σ:St} {H:Hp} {s:Shared} {h':Heap} (I:Inv X pins σ H s) (b:Addr) (hb:b∈[s.heap.objs.size+1,s.heap.objs.size]):FpOk X pins H b:=by
 have hge:s.heap.objs.size≤b:=by
  simp only [List.mem_cons,List.not_mem_nil,or_false] at hb;rcases hb with rfl | rfl
  ·exact Nat.le_succ _
  ·exact Nat.le_refl _
 exact I.fpOk hge (I.hok.fresh hge)
theorem zjy {a:Expr} {ta:TA} {p pos tpos:Pos} {elts:List Expr} {x1:Nat} (hK:X.K=K) (hg:Gl X "enumerate") (hm:X.mg "enumerate" = none) (ha:PA X [a] ta) (hs:starEach [a] X.env=(false,eval a X.env)::starEach [] X.env:=by rfl)
  (hs2:(backTo pos (starEach [] X.env)).any (·.1)=false:=by rfl):PI X (.Tuple elts x1 tpos) (.Call (.Name "enumerate" p) [a] [] pos) (zjx K 0 ta):=by
 subst hK;intro pins s σ H R I h;refine Call_ (zd4 I hg hm boot_enumerate (PyProof.Rows.callWith_type1 (thn (ha pos pins s σ H _ I h) fun us s1 ⟨vs,H1,I1,r1,q1⟩=>?_) hs hs2));obtain ⟨l,xs,e,q1,q⟩:=q1;subst e;obtain ⟨v1,rfl,ru⟩:=r1.one
 cases ru
 obtain ⟨its,rv,p1,_⟩:=I1.list q1;obtain ⟨o1,e1,_⟩:=p1.isList;have L1:=Heap.lt_size e1;refine call_enumerate_list p1.isList fun k a1 a2 _ a4=>?_;refine wpAny_pyIter_enum a1 ?_;have I2:Inv X pins σ H1 { s1 with heap:=k }:=I1.kept (t':=s1.toks) a4;exact ⟨s1.heap.objs.size+1,_,_,Ite X.K l 0,H1,rfl,I2,zfA (Nat.succ_ne_self _) (Nat.ne_of_lt (Nat.lt_succ_of_lt L1)) (Nat.ne_of_lt L1),⟨⟨_,a1⟩,a2⟩,ziC (h':=k) I1,q⟩
theorem zjz {a:Expr} {ta:TA} {p pos tpos kpos cpos:Pos} {ci:Nat} {elts:List Expr} {x1:Nat} (hK:X.K=K) (hg:Gl X "enumerate") (hm:X.mg "enumerate" = none) (ha:PA X [a] ta)
  (hb:bootBuiltins "enumerate" = some (.type "enumerate"):=by rfl)
  (he:backTo pos (starEach [a] X.env)=(false,eval a X.env)::backTo pos (starEach [] X.env):=by rfl) (hpl:(backTo pos (starEach [a] X.env)).any (·.1)=false:=by rfl) :
  PI X (.Tuple elts x1 tpos) (.Call (.Name "enumerate" p) [a] [⟨some "start",.Constant (.int 1) ci cpos,kpos⟩] pos) (zjx K 1 ta):=by
 subst hK;intro pins s σ H R I h;refine wpAny_Call_Name_kw (zd4 I hg hm hb ?_ (by decide) (by decide));refine zeZ (thn (ha pos pins s σ H _ I h) fun us s1 ⟨vs,H1,I1,r1,q1⟩=>thn ((zkq zad pk_nil) pos pins s1 σ H1 (fun zs H2=>zs=[.int 1]∧H2=H1) I1 ⟨rfl,rfl⟩) fun ws s2 ⟨zs,H2,I2,r2,q2⟩=>?_) he hpl rfl rfl;obtain ⟨rfl,rfl⟩:=q2;obtain ⟨l,xs,e,q1,q⟩:=q1;subst e;obtain ⟨v1,rfl,ru⟩:=r1.one
 cases ru
 obtain ⟨v2,rfl,tt,rfl⟩:=r2.one;obtain ⟨its,rv,p1,_⟩:=I2.list q1;obtain ⟨o1,e1,_⟩:=p1.isList;have L1:=Heap.lt_size e1;refine zhp p1.isList fun k a1 a2 a4=>?_;refine wpAny_pyIter_enum a1 ?_;have I3:Inv X pins σ H2 { s2 with heap:=k }:=I2.kept (t':=s2.toks) a4;exact ⟨s2.heap.objs.size+1,_,_,Ite X.K l 1,H2,rfl,I3,zfA (Nat.succ_ne_self _) (Nat.ne_of_lt (Nat.lt_succ_of_lt L1)) (Nat.ne_of_lt L1),⟨⟨_,a1⟩,a2⟩,ziC (h':=k) I2,q⟩
end
section
variable {σ:St} {H:Hp} {D:Ends} {nx bk ct:St→Hp→Prop} {rt:VK} {K:PySem.W.Frag} {Q:VK} {js:List Nat} {te:TE} {tc:TT} {c:Int} {a b:Addr} {xs ys:List V}
theorem zlM {tl:TA} {g:TG} {tb:TS} (h:tl σ H fun vs H1=>∃ a xs,vs=[.ref a]∧SqL K H1 a xs∧ForI (Ite K a c) g tb D σ H1):tFor (zjx K c tl) g tb D σ H:=h
theorem zkP {tl:TA} {k:Nat} {g:TG} (h:tl σ H fun vs H1=>∃ a xs,vs=[.ref a]∧SqL K H1 a xs∧zga (Ite K a c) k js g tc te σ H1 Q):zf3 (zjx K c tl) k js g tc te σ H Q:=h
theorem zkQ {tl:TA} {k:Nat} {g:TG} (h:tl σ H fun vs H1=>∃ a b xs ys,vs=[.ref a,.ref b]∧SqL K H1 a xs∧SqL K H1 b ys∧zga (Itz K a b) k js g tc te σ H1 Q):zf3 (iZip K tl) k js g tc te σ H Q:=h
theorem zgO {P:Addr→Prop} (h:SqL K H a xs) (q:P a):∃ b xs,[V.ref a]=[.ref b]∧SqL K H b xs∧P b:=⟨a,xs,rfl,h,q⟩
theorem zkR {i j:Nat} {tb:TS} (Pv:Nat→St→Hp→Prop) (h0:Pv 0 σ H) (hl:∀ i σ H,i≤xs.length→Pv i σ H→SqL K H a xs)
  (hs:∀ k x σ H H' ,xs[k]? = some x→Pv k σ H→Same H H'→tb ⟨Pv (k+1),rt,nx,Pv (k+1)⟩ ((σ.set i (some (.int (c+k)))).set j (some x)) H') (hd:∀ σ H,Pv xs.length σ H→nx σ H) :
  ForI (Ite K a c) (gTup K 2 (zfZ (zcs i) (zfZ (zcs j) gNil))) tb ⟨nx,rt,bk,ct⟩ σ H:=by
 refine ⟨fun i m σ H=>m=xs.length-i∧i≤xs.length∧Pv i σ H,⟨xs.length,by simp,Nat.zero_le _,h0⟩,?_⟩;rintro k m σ H ⟨rfl,hi,p⟩;have q1:=hl k σ H hi p
 by_cases hlt:k < xs.length
 ·refine .inr ⟨⟨xs,xs[k],q1,by simp [hlt]⟩,Pv (k+1),fun σ' H' p'=>⟨xs.length-(k+1),by omega,rfl,hlt,p'⟩,fun v H' yy=>?_⟩;obtain ⟨T,hT,rfl,yy⟩:=yy;obtain ⟨x,hx,rfl⟩:=yy xs q1;exact ⟨T,[.int (c+k),x],rfl,SqT.of zas,rfl,.int (c+k),[x],rfl,x,[],rfl,rfl,hs k x σ H _ hx p (zaY hT)⟩
 ·have e:k=xs.length:=by omega
  subst e;exact .inl ⟨⟨xs,q1,Nat.le_refl _⟩,hd σ H p⟩
theorem zcg.enum (h:SqL K H a xs):zcg (Ite K a c) xs.length 2 js σ (gTup K 2 (zfZ (zcs 0) (zfZ (zcs 1) gNil))) (fun i=>[some (.int (c+i)),some (xs.getD i .non)]) H where
 len:=fun _=>rfl
 go:=fun i H' s hi=>⟨xs,xs[i],s.seq h,by simp [hi]⟩
 stop:=fun H' s=>⟨xs,s.seq h,Nat.le_refl _⟩
 yld:=fun i H' v H2 u N s hi hu hy q=>by
  obtain ⟨T,hT,rfl,yy⟩:=hy;obtain ⟨x,hx,rfl⟩:=yy xs (s.seq h);have ex:xs.getD i .non=x:=by rw [List.getD_eq_getElem?_getD,hx];rfl
  match u,hu with
  | [u1,u2],_ =>
    refine ⟨T,[.int (c+i),x],rfl,SqT.of zas,rfl,.int (c+i),[x],rfl,x,[],rfl,rfl,?_⟩;have:=q _ (zaY (o:=.tup [.int (c+i),x]) hT);rw [ex] at this;exact this
theorem zcg.zip (h:SqL K H a xs) (h2:SqL K H b ys) (hl:xs.length=ys.length):zcg (Itz K a b) xs.length 2 js σ (gTup K 2 (zfZ (zcs 0) (zfZ (zcs 1) gNil))) (fun i=>[some (xs.getD i .non),some (ys.getD i .non)]) H where
 len:=fun _=>rfl
 go:=fun i H' s hi=>⟨xs,ys,xs[i],ys[i],s.seq h,s.seq h2,by simp [hi],by simp [hl▸hi]⟩
 stop:=fun H' s=>⟨xs,ys,s.seq h,s.seq h2,.inl (Nat.le_refl _)⟩
 yld:=fun i H' v H2 u N s hi hu hy q=>by
  obtain ⟨T,hT,rfl,yy⟩:=hy;obtain ⟨x,y,hx,hy,rfl⟩:=yy xs ys (s.seq h) (s.seq h2);have ex:xs.getD i .non=x:=by rw [List.getD_eq_getElem?_getD,hx];rfl
  have ey:ys.getD i .non=y:=by rw [List.getD_eq_getElem?_getD,hy];rfl
  match u,hu with
  | [u1,u2],_ =>
    refine ⟨T,[x,y],rfl,SqT.of zas,rfl,x,[y],rfl,y,[],rfl,rfl,?_⟩;have:=q _ (zaY (o:=.tup [x,y]) hT);rw [ex,ey] at this;exact this
end
end L2
namespace Prf
open PySem PySem.Spec PyProof.Rows L2
def b1 (b:Bool):Nat:=if b then 1 else 0
theorem cnt_cons (r:List Int) (rows:List (List Int)) (x:Int):cntB (r::rows) x=b1 (decide (x∈r))+cntB rows x:=by
 unfold cntB b1;rw [List.filter_cons]
 cases decide (x∈r) <;> simp <;> omega
theorem zgd (x:Int) (row:List Int):∀ (gv:List (List Int)) (p:Nat),p < gv.length→cntB (gv.set p row) x+b1 (decide (x∈gv.getD p []))=cntB gv x+b1 (decide (x∈row))
 | g::gv,0,_=>by
   rw [List.set_cons_zero,cnt_cons,cnt_cons];show _+b1 (decide (x∈g))=_;omega
 | g::gv,p+1,h=>by
   rw [List.set_cons_succ,cnt_cons,cnt_cons];have:=zgd x row gv p (by simpa using h);show _+b1 (decide (x∈gv.getD p []))=_;omega
theorem zbf {α:Type} {xs:List α} {d v:α} {i j:Nat} (h:i < xs.length):(xs.set i v).getD j d=if j=i then v else xs.getD j d:=by
 rw [List.getD_eq_getElem?_getD,List.getElem?_set,List.getD_eq_getElem?_getD]
 by_cases e:j=i
 ·subst e;simp [h]
 ·simp [e,Ne.symm e]
structure Vld (al gv:List (List Int)) (lim sp:List Int) (o:Int):Prop where
 lg:gv.length=al.length
 ls:sp.length=lim.length
 nd:∀ q,q < gv.length→(gv.getD q []).Nodup
 sub:∀ q,q < gv.length→∀ r∈gv.getD q [],r∈al.getD q []
 ar:∀ q,q < al.length→∀ r∈al.getD q [],1≤r∧r≤lim.length
 s0:∀ r:Nat,r < lim.length→0≤sp.getD r 0
 eq:∀ r:Nat,r < lim.length→sp.getD r 0+(cntB gv ((r:Int)+1):Int)+(if (r:Int)+1=o then 1 else 0)=lim.getD r 0
theorem Vld.take {al gv:List (List Int)} {lim sp:List Int} {r:Int} (V:Vld al gv lim sp 0) (r1:1≤r) (r2:r≤lim.length) (h:0 < sp.getD (r-1).toNat 0):Vld al gv lim (sp.set (r-1).toNat (sp.getD (r-1).toNat 0-1)) r:=by
 have hi:(r-1).toNat < sp.length:=by have:=V.ls;omega
 refine ⟨V.lg,by rw [List.length_set];exact V.ls,V.nd,V.sub,V.ar,fun k hk=>?_,fun k hk=>?_⟩
 ·rw [zbf hi];split
  ·omega
  ·exact V.s0 k hk
 ·have e:=V.eq k hk;rw [if_neg (by omega)] at e;rw [zbf hi]
  by_cases ek:k=(r-1).toNat
  ·rw [if_pos ek,if_pos (by omega)];subst ek;omega
  ·rw [if_neg ek,if_neg (by omega)];exact e
theorem Vld.push {al gv:List (List Int)} {lim sp:List Int} {r:Int} {p:Nat} (V:Vld al gv lim sp r) (hp:p < gv.length) (hr:r∈al.getD p []) (hn:r∉gv.getD p []):Vld al (gv.set p (gv.getD p []++[r])) lim sp 0:=by
 refine ⟨by rw [List.length_set];exact V.lg,V.ls,fun q hq=>?_,fun q hq=>?_,V.ar,V.s0,fun k hk=>?_⟩
 ·rw [List.length_set] at hq;rw [zbf hp];split
  ·refine List.nodup_append.mpr ⟨V.nd p hp,by simp,fun a ha b hb=>?_⟩;have:b=r:=by simpa using hb
   subst this;intro e;subst e;exact hn ha
  ·exact V.nd q hq
 ·rw [List.length_set] at hq;rw [zbf hp];split
  ·rename_i e
   subst e;intro x hx;rcases List.mem_append.mp hx with h | h
   ·exact V.sub q hp x h
   ·have:x=r:=by simpa using h
    subst this;exact hr
  ·exact V.sub q hq
 ·have e:=V.eq k hk;have c:=zgd ((k:Int)+1) (gv.getD p []++[r]) gv p hp;have l:=V.lg;have hrr:=V.ar p (by omega) r hr;rw [if_neg (show ¬(k:Int)+1=0 by omega)]
  by_cases ek:(k:Int)+1=r
  ·rw [if_pos ek] at e;rw [ek] at c e ⊢;have d1:decide (r∈gv.getD p [])=false:=decide_eq_false hn;have d2:decide (r∈gv.getD p []++[r])=true:=decide_eq_true (by simp);rw [d1,d2] at c;have c2:cntB (gv.set p (gv.getD p []++[r])) r+0=cntB gv r+1:=c;omega
  ·rw [if_neg ek] at e;have d:decide ((k:Int)+1∈gv.getD p []++[r])=decide ((k:Int)+1∈gv.getD p []):=by
    rw [decide_eq_decide];simp [ek]
   rw [d] at c;omega
theorem Vld.drop {al gv:List (List Int)} {lim sp:List Int} {r:Int} {p:Nat} (V:Vld al gv lim sp 0) (hp:p < gv.length) (hr:r∈gv.getD p []):Vld al (gv.set p ((gv.getD p []).erase r)) lim sp r:=by
 have ndp:=V.nd p hp;refine ⟨by rw [List.length_set];exact V.lg,V.ls,fun q hq=>?_,fun q hq=>?_,V.ar,V.s0,fun k hk=>?_⟩
 ·rw [List.length_set] at hq;rw [zbf hp];split
  ·exact ndp.erase r
  ·exact V.nd q hq
 ·rw [List.length_set] at hq;rw [zbf hp];split
  ·rename_i e
   subst e;intro x hx;exact V.sub q hp x (List.mem_of_mem_erase hx)
  ·exact V.sub q hq
 ·have e:=V.eq k hk;have c:=zgd ((k:Int)+1) ((gv.getD p []).erase r) gv p hp;rw [if_neg (show ¬(k:Int)+1=0 by omega)] at e
  by_cases ek:(k:Int)+1=r
  ·rw [if_pos ek];rw [ek] at c e ⊢;have d1:decide (r∈gv.getD p [])=true:=decide_eq_true hr;have d2:decide (r∈(gv.getD p []).erase r)=false:=decide_eq_false (by rw [ndp.mem_erase_iff];simp);rw [d1,d2] at c;have c2:cntB (gv.set p ((gv.getD p []).erase r)) r+1=cntB gv r+0:=c;omega
  ·rw [if_neg ek];have d:decide ((k:Int)+1∈(gv.getD p []).erase r)=decide ((k:Int)+1∈gv.getD p []):=by
    rw [decide_eq_decide,ndp.mem_erase_iff];simp [ek]
   rw [d] at c;omega
def Cov (al gv:List (List Int)) (ks:List Int) (q:Nat):Prop:=∀ r∈al.getD q [],r∈ks∨r∈gv.getD q []
theorem Cov.mono {al gv:List (List Int)} {ks ls:List Int} {q:Nat} (h:Cov al gv ks q) (s:∀ r∈ks,r∈ls):Cov al gv ls q:=fun r hr=>(h r hr).elim (fun z=>.inl (s r z)) .inr
def Cls2 (al gv:List (List Int)) (sp ks ls:List Int):Prop:=(∀ r∈ks,r∈ls)∧∀ r∈ls,r∉ks→sp.getD (r-1).toNat 0=0∧∀ q,q < gv.length→r∈gv.getD q []→Cov al gv ls q
theorem Cls2.refl {al gv:List (List Int)} {sp ks:List Int}:Cls2 al gv sp ks ks:=⟨fun _ h=>h,fun r h n=>absurd h n⟩
theorem Cls2.trans {al gv:List (List Int)} {sp ks ls ms:List Int} (a:Cls2 al gv sp ks ls) (b:Cls2 al gv sp ls ms):Cls2 al gv sp ks ms:=by
 refine ⟨fun r h=>b.1 r (a.1 r h),fun r h n=>?_⟩
 by_cases hl:r∈ls
 ·obtain ⟨h1,h2⟩:=a.2 r hl n;exact ⟨h1,fun q hq hr=>(h2 q hq hr).mono b.1⟩
 ·exact b.2 r h hl
theorem Cls2.one {al gv:List (List Int)} {sp ks ls:List Int} {x:Int} (b:Cls2 al gv sp (ks++[x]) ls) (h0:sp.getD (x-1).toNat 0=0) (h1:∀ q,q < gv.length→x∈gv.getD q []→Cov al gv ls q):Cls2 al gv sp ks ls:=by
 refine ⟨fun r h=>b.1 r (by simp [h]),fun r h n=>?_⟩
 by_cases e:r=x
 ·subst e;exact ⟨h0,h1⟩
 ·exact b.2 r h (by simp [n,e])
structure Fnd (al gv gv':List (List Int)) (lim sp' ks:List Int) (p:Nat):Prop where
 v:Vld al gv' lim sp' 0
 lg:gv'.length=gv.length
 len:∀ q,q < gv.length→(gv'.getD q []).length=(gv.getD q []).length+if q=p then 1 else 0
 old:∀ r∈ks,∀ q,q < gv.length→(r∈gv'.getD q []↔r∈gv.getD q [])
structure Fre (al gv gv':List (List Int)) (lim sp' ks:List Int) (x:Int):Prop where
 v:Vld al gv' lim sp' x
 lg:gv'.length=gv.length
 len:∀ q,q < gv.length→(gv'.getD q []).length=(gv.getD q []).length
 old:∀ r∈ks,r≠x→∀ q,q < gv.length→(r∈gv'.getD q []↔r∈gv.getD q [])
 own:∀ q,q < gv.length→x∈gv'.getD q []→x∈gv.getD q []
theorem Fre.found {al gv gv':List (List Int)} {lim sp' ks:List Int} {x:Int} {p:Nat} (F:Fre al gv gv' lim sp' (ks++[x]) x) (hp:p < gv.length) (hx:x∈al.getD p []) (hn:x∉gv.getD p []) (hk:x∉ks) :
  Fnd al gv (gv'.set p (gv'.getD p []++[x])) lim sp' ks p:=by
 have l:=F.lg;have hp':p < gv'.length:=by omega
 refine ⟨F.v.push hp' hx (fun z=>hn (F.own p hp z)),by rw [List.length_set];exact l,fun q hq=>?_,fun r hr q hq=>?_⟩
 ·have:=F.len q hq;rw [zbf hp']
  by_cases e:q=p
  ·subst e;rw [if_pos rfl,if_pos rfl,List.length_append,List.length_singleton];omega
  ·rw [if_neg e,if_neg e];omega
 ·have hne:r≠x:=fun e=>hk (e▸hr);have:=F.old r (by simp [hr]) hne q hq;rw [zbf hp']
  by_cases e:q=p
  ·subst e;rw [if_pos rfl,List.mem_append,this];simp [hne]
  ·rw [if_neg e];exact this
theorem Fnd.freed {al gv gv':List (List Int)} {lim sp' ks:List Int} {x:Int} {p:Nat} (F:Fnd al gv gv' lim sp' ks p) (hp:p < gv.length) (hx:x∈gv.getD p []) (hk:x∈ks) :
  x∈gv'.getD p []∧Fre al gv (gv'.set p ((gv'.getD p []).erase x)) lim sp' ks x:=by
 have l:=F.lg;have hp':p < gv'.length:=by omega
 have hx':x∈gv'.getD p []:=(F.old x hk p hp).mpr hx;have ndp:=F.v.nd p hp';refine ⟨hx',F.v.drop hp' hx',by rw [List.length_set];exact l,fun q hq=>?_,fun r hr hne q hq=>?_,fun q hq hq2=>?_⟩
 ·have:=F.len q hq;rw [zbf hp']
  by_cases e:q=p
  ·subst e;rw [if_pos rfl,List.length_erase_of_mem hx'];rw [if_pos rfl] at this;omega
  ·rw [if_neg e];rw [if_neg e] at this;omega
 ·have:=F.old r hr q hq;rw [zbf hp']
  by_cases e:q=p
  ·subst e;rw [if_pos rfl,ndp.mem_erase_iff,this];simp [hne]
  ·rw [if_neg e];exact this
 ·rw [zbf hp'] at hq2
  by_cases e:q=p
  ·subst e;exact hx
  ·rw [if_neg e] at hq2;exact (F.old x hk q hq).mp hq2
theorem Vld.taken {al gv:List (List Int)} {lim sp ks:List Int} {r:Int} (V:Vld al gv lim sp 0) (r1:1≤r) (r2:r≤lim.length) (h:0 < sp.getD (r-1).toNat 0):Fre al gv gv lim (sp.set (r-1).toNat (sp.getD (r-1).toNat 0-1)) ks r :=
 ⟨V.take r1 r2 h,rfl,fun _ _=>rfl,fun _ _ _ _ _=>Iff.rfl,fun _ _ h=>h⟩
theorem zlN {n:Nat} {f:Nat→Bool}:Hall.sm n (fun p=>Hall.b2 (f p))=((List.range n).filter f).length:=zcA f n
theorem ziD {row:List Int} {m:Nat} (nd:row.Nodup) (h:∀ r∈row,1≤r∧r≤m):Hall.sm m (fun r=>Hall.b2 (decide ((r:Int)+1∈row)))=row.length:=by
 rw [zlN];have e:(((List.range m).filter fun r:Nat=>decide ((r:Int)+1∈row)).map fun r:Nat=>(r:Int)+1).Perm row:=by
  refine (List.perm_ext_iff_of_nodup ?_ nd).mpr fun x=>?_
  ·unfold List.Nodup;rw [List.pairwise_map];exact (List.nodup_range.filter _).imp fun h e=>h (by omega)
  ·constructor
   ·intro hx;obtain ⟨r,hr,rfl⟩:=List.mem_map.mp hx;simpa using (List.mem_filter.mp hr).2
   ·intro hx;have:=h x hx;refine List.mem_map.mpr ⟨(x-1).toNat,List.mem_filter.mpr ⟨List.mem_range.mpr (by omega),?_⟩,by omega⟩;have e:(((x-1).toNat:Nat):Int)+1=x:=by omega
    rw [e];simpa using hx
 have:=e.length_eq;rw [List.length_map] at this;exact this
theorem zjA {hs:List Int} {rs al gv:List (List Int)} {lim sp:List Int} (h0:∀ i,i < rs.length→0≤(rs.getD i []).getD 1 0) (V:Vld al gv lim sp 0) (hn:al.length=hs.length) (hm:lim.length=rs.length) (hl:∀ r,r < rs.length→lim.getD r 0=(rs.getD r []).getD 1 0)
  (hA:∀ q,q < hs.length→∀ r:Nat,r < rs.length→(r:Int)+1∈al.getD q []→zbg hs rs q r=true) (h2:∀ q,q < hs.length→(gv.getD q []).length=2):∃ rows,zaT hs rs rows=true:=by
 have lg:=V.lg;rw [zea h0,← ziw h0];refine Hall.room_of (B:=fun p r=>decide (p < hs.length) && decide (r < rs.length) && decide ((r:Int)+1∈gv.getD p [])) (fun p r h=>?_) (fun p hp=>?_) fun r hr=>?_
 ·simp only [Bool.and_eq_true,decide_eq_true_eq] at h;exact hA p h.1.1 r h.1.2 (V.sub p (by omega) _ h.2)
 ·rw [← h2 p hp,← ziD (m:=rs.length) (V.nd p (by omega)) fun r hr=>by have:=V.ar p (by omega) r (V.sub p (by omega) r hr);omega];apply Hall.sm_congr;intro r hr;rw [decide_eq_true hp,decide_eq_true hr];rfl
 ·have e:=V.eq r (by omega);have s0:=V.s0 r (by omega);rw [if_neg (by omega),hl r hr,zeY] at e;have:Hall.sm hs.length (fun p=>Hall.b2 (decide (p < hs.length) && decide (r < rs.length) && decide ((r:Int)+1∈gv.getD p [])))=Hall.sm gv.length (fun p=>Hall.b2 (decide ((r:Int)+1∈gv.getD p []))):=by
   rw [show gv.length=hs.length by omega];apply Hall.sm_congr;intro p hp;rw [decide_eq_true hp,decide_eq_true hr];rfl
  rw [this];unfold limN;omega
theorem ziE {hs:List Int} {rs al gv:List (List Int)} {lim sp ls:List Int} {p:Nat} (h0:∀ i,i < rs.length→0≤(rs.getD i []).getD 1 0) (V:Vld al gv lim sp 0) (hn:al.length=hs.length) (hm:lim.length=rs.length) (hl:∀ r,r < rs.length→lim.getD r 0=(rs.getD r []).getD 1 0)
  (hA:∀ q,q < hs.length→∀ r:Nat,r < rs.length→zbg hs rs q r=true→(r:Int)+1∈al.getD q []) (h2:∀ q,q < hs.length→(gv.getD q []).length≤2) (hp:p < hs.length) (hp2:(gv.getD p []).length < 2)
  (C:Cls2 al gv sp [] ls) (hc:Cov al gv ls p):∀ rows,zaT hs rs rows=false:=by
 have lg:=V.lg;have key:¬Hall.Ok hs.length rs.length (limN rs) (fun _=>2) (zbg hs rs):=by
  intro ok
  let S:Nat→Bool:=fun q=>decide (q=p) || (gv.getD q []).any fun r=>decide (r∈ls)
  have hS:∀ q,q < hs.length→S q=true→Cov al gv ls q:=fun q hq z=>by
   simp only [S,Bool.or_eq_true,decide_eq_true_eq,List.any_eq_true] at z;rcases z with z | ⟨r,h1,h2⟩
   ·subst z;exact hc
   ·exact (C.2 r h2 (by simp)).2 q (by omega) h1
  have le:=ok S;have rm:Hall.room hs.length rs.length (limN rs) (zbg hs rs) S≤Hall.sm rs.length (fun r=>Hall.sm hs.length fun q=>Hall.b2 (S q && decide ((r:Int)+1∈gv.getD q []))):=by
   unfold Hall.room;refine Hall.sm_le fun r hr=>?_
   by_cases hk:(r:Int)+1∈ls
   ·refine Nat.le_trans (Nat.min_le_left _ _) ?_;have z:=(C.2 _ hk (by simp)).1;have er:((r:Int)+1-1).toNat=r:=by omega
    rw [er] at z;have e:=V.eq r (by omega);rw [if_neg (by omega),hl r hr,zeY,z] at e;have:Hall.sm hs.length (fun q=>Hall.b2 (S q && decide ((r:Int)+1∈gv.getD q [])))=Hall.sm gv.length (fun q=>Hall.b2 (decide ((r:Int)+1∈gv.getD q []))):=by
     rw [show gv.length=hs.length by omega];apply Hall.sm_congr;intro q hq
     by_cases h:(r:Int)+1∈gv.getD q []
     ·have:S q=true:=by
       simp only [S,Bool.or_eq_true,List.any_eq_true];exact .inr ⟨_,h,decide_eq_true hk⟩
      rw [this];rfl
     ·rw [decide_eq_false h,Bool.and_false]
    rw [this];unfold limN;omega
   ·refine Nat.le_trans (Nat.min_le_right _ _) ?_;unfold Hall.deg;refine Hall.sm_le fun q hq=>?_
    cases hs1:S q with
    | false=>simp [Hall.b2]
    | true =>
      cases ha:zbg hs rs q r with
      | false=>simp [Hall.b2]
      | true =>
        have:=(hS q hq hs1 _ (hA q hq r hr ha)).resolve_left hk;rw [decide_eq_true this];exact Nat.le_refl _
  rw [Hall.sm_swap] at rm;have lt:Hall.sm hs.length (fun q=>Hall.sm rs.length fun r=>Hall.b2 (S q && decide ((r:Int)+1∈gv.getD q []))) < Hall.need hs.length (fun _=>2) S:=by
   unfold Hall.need;have each:∀ q,q < hs.length→Hall.sm rs.length (fun r=>Hall.b2 (S q && decide ((r:Int)+1∈gv.getD q [])))=if S q=true then (gv.getD q []).length else 0:=fun q hq=>by
    cases hs1:S q with
    | false =>
      rw [if_neg Bool.false_ne_true];have:Hall.sm rs.length (fun r=>Hall.b2 (false && decide ((r:Int)+1∈gv.getD q [])))=Hall.sm rs.length (fun _=>0):=Hall.sm_congr fun i _=>rfl;rw [this,Hall.sm_zero]
    | true =>
      rw [if_pos rfl];have:Hall.sm rs.length (fun r=>Hall.b2 (true && decide ((r:Int)+1∈gv.getD q [])))=Hall.sm rs.length (fun r=>Hall.b2 (decide ((r:Int)+1∈gv.getD q []))):=Hall.sm_congr fun i _=>rfl;rw [this];exact ziD (V.nd q (by omega)) fun r hr=>by have:=V.ar q (by omega) r (V.sub q (by omega) r hr);omega
   refine Hall.sm_lt (p:=p) hp (fun q hq=>?_) ?_
   ·rw [each q hq];have:=h2 q hq;split <;> omega
   ·have hsp:S p=true:=by simp [S]
    rw [each p hp,if_pos hsp,if_pos hsp];exact hp2
  omega
 intro rows;rw [Bool.eq_false_iff];intro z;exact key ((ziw h0).mpr ((zea h0).mp ⟨rows,z⟩))
end Prf
namespace L2
open PySem PySem.Spec PyProof.Rows
section
variable {X:Cx} {K:PySem.W.Frag} {o e value:Expr} {f:Str} {pos pos' tpos:Pos} {ta tv:TE}
theorem zaD (hK:X.K=K) (he:PE X e ta) (hb:attributeBase e f X.env (eval e X.env)=eval e X.env:=by rfl):PE X (.Attribute e f pos) (tFld K ta f):=hK▸zlc he hb
theorem zbF (hK:X.K=K) (ha:PE X o ta) (hv:PE X value tv) (hs:swapsWith value (some (.Attribute o f pos')) pos.line X.env=pure false:=by rfl):PS X (.Assign [.Attribute o f pos'] value pos) (sFld K ta tv f):=hK▸zld ha hv hs
def zlO (K:PySem.W.Frag):V→V→Hp→VK→Prop:=fun x y H Q=>∃ (p:Addr) (ns:List Int) (i:Int),x=.ref p∧y=.int i∧SqL K H p (ns.map V.int)∧0≤i∧i < ns.length∧Q (.int (ns.getD i.toNat 0)) H
theorem ziF (hK:X.K=K):PGet X (zlO K):=by
 subst hK;intro pins s σ H x y v u Q I rx ry h;obtain ⟨p,ns,i,rfl,rfl,hq,h0,h1,q⟩:=h
 cases rx
 obtain ⟨t,rfl⟩:=ry;obtain ⟨its,r,pl,hz⟩:=I.list hq;have hi:i.toNat < ns.length:=by omega
 obtain ⟨w,ew,rw'⟩:=r.get (i:=i.toNat) (x:=.int (ns.getD i.toNat 0)) (by rw [List.getElem?_map,List.getElem?_eq_getElem hi,List.getD_eq_getElem?_getD,List.getElem?_eq_getElem hi];rfl);have hn:=line63;rw [List.length_map] at hz;exact getItem_listL pl.isList h0 (by omega) ew ⟨_,H,I,rw',q⟩
theorem zfB {α β:Type} (f:α→β):∀ (l:List α) (k:Nat),(l.map f).eraseIdx k=(l.eraseIdx k).map f
 | [],_=>rfl
 | _::_,0=>rfl
 | a::l,k+1=>congrArg (f a::·) (zfB f l k)
def rRemove:V→List V→Hp→VK→Prop:=fun x vs H Q=>∃ (l:Addr) (ns:List Int) (i:Int),x=.ref l∧vs=[.int i]∧H l=some (.lst (ns.map V.int))∧i∈ns∧Q .non (upd H l (.lst ((ns.erase i).map V.int)))
theorem erase_at:∀ {ns:List Int} {i:Int},i∈ns→∃ j,∃ hj:j < ns.length,ns[j]=i∧(∀ m (hm:m < ns.length),m < j→ns[m]≠i)∧ns.erase i=ns.eraseIdx j
 | n::ns,i,h=>by
   by_cases e:n=i
   ·subst e;exact ⟨0,by simp,rfl,fun m _ h=>absurd h (by omega),by simp⟩
   ·have h':i∈ns:=by
     rcases List.mem_cons.mp h with z | z
     ·exact absurd z.symm e
     ·exact z
    obtain ⟨j,hj,h1,h2,h3⟩:=erase_at h';refine ⟨j+1,by simp;exact hj,h1,fun m hm hlt=>?_,?_⟩
    ·cases m with
     | zero=>exact e
     | succ m=>exact h2 m (by simpa using hm) (by omega)
    ·rw [List.erase_cons_tail (by simpa using e),h3];rfl
theorem vals_int_at:∀ {ns:List Int} {its:List Value},Vals (ns.map V.int) its→∀ (m:Nat) (h1:m < ns.length) (h2:m < its.length),∃ t,its[m]=.int ns[m] t:=fun {ns its} r m h1 h2=>by
 obtain ⟨u,hu,t,rfl⟩:=r.get (i:=m) (x:=.int ns[m]) (by simp [h1]);rw [List.getElem?_eq_getElem h2] at hu;exact ⟨t,Option.some.inj hu⟩
theorem vals_erase:∀ {xs:List V} {us:List Value} (k:Nat),Vals xs us→Vals (xs.eraseIdx k) (us.eraseIdx k)
 | _,_,_,.nil=>.nil
 | _,_,0,.cons _ t=>t
 | _,_,k+1,.cons r t=>.cons r (vals_erase k t)
theorem mt_remove:MtM X "list.remove" rRemove:=by
 intro pins s σ H x vs v us Q I rx rv h;obtain ⟨l,ns,i,rfl,rfl,hH,hi,q⟩:=h
 cases rx
 obtain ⟨u,rfl,t,rfl⟩:=rv.one;obtain ⟨z,its,n,r,hl,e⟩:=I.lstM hH;rw [List.length_map] at hl z;obtain ⟨j,hj,e1,e2,e3⟩:=erase_at hi;have at_:∀ (m:Nat) (h:m < its.length),∃ t,its[m]=.int (ns[m]'(by omega)) t:=fun m h=>vals_int_at r m (by omega) h;refine call_meets F.slot_list_remove ⟨_,e,rfl⟩ F.entry_list_remove (F.args_list_remove_2 _ _)
  (MeetsSeq.list_remove l its.toArray n (.int i t) (fun y=>match y with | .int a _=>a == i | _=>false) (fun y hy=>?_) j (by simpa using (show j < its.length by omega)) ?_ (fun m hm hlt=>?_) (by rw [List.size_toArray];omega)) ⟨e,?_⟩
 ·obtain ⟨m,hm,rfl⟩:=List.getElem_of_mem (by simpa using hy:y∈its);obtain ⟨t',et⟩:=at_ m hm;rw [et];exact MeetsSeq.EqGives.int _ _ _ _
 ·obtain ⟨t',et⟩:=at_ j (by omega);rw [List.getElem_toArray,et];simpa using e1
 ·have hm':m < its.length:=by simpa using hm
  obtain ⟨t',et⟩:=at_ m hm';rw [List.getElem_toArray,et];simpa using e2 m (by omega) hlt
 ·refine ⟨.non,_,I.lset (its':=its.eraseIdx j) (ys:=(ns.erase i).map V.int) hH e ?_ ?_ ?_,rfl,q⟩
  ·show its.toArray.eraseIdxIfInBounds j=(its.eraseIdx j).toArray;rw [List.eraseIdxIfInBounds_toArray]
  ·rw [e3,← zfB];exact vals_erase j r
  ·rw [List.length_map];have:=List.length_erase_le (a:=i) (l:=ns);omega
end
section
variable {σ:St} {H:Hp} {Q:VK} {D:Ends} {K:PySem.W.Frag} {ta tv to ti te tb:TE} {f m:Str} {tl:TA} {C a p x:Addr} {nx bk ct:St→Hp→Prop} {rt:VK} {sp:Sp} {E:XK} {fs:List (Str×V)} {dx:Addr} {v:V} {i:Int} {xs:List V} {ns:List Int}
def ziG (K:PySem.W.Frag) (f:Str) (x:V) (H1:Hp) (Q:VK):Prop:=∃ a C dx fs v,x=.ref a∧H1 a=some (.ins C dx fs)∧Cls K C∧zbx K C f∧fs.lookup f=some v∧Q v H1
theorem zmK (h:ta σ H fun x H1=>ziG K f x H1 Q):tFld K ta f σ H Q:=h
theorem zjB (h:H a=some (.ins C dx fs)) (c:Cls K C) (n:zbx K C f) (l:fs.lookup f=some v) (q:Q v H):ziG K f (.ref a) H Q:=⟨a,C,dx,fs,v,rfl,h,c,n,l,q⟩
def zgP (K:PySem.W.Frag) (f:Str) (y x:V) (H2:Hp) (N:Hp→Prop):Prop:=∃ a C dx fs,x=.ref a∧H2 a=some (.ins C dx fs)∧Cls K C∧zbx K C f∧fs.length < 1000∧N (upd H2 a (.ins C dx (putF f y fs)))
theorem zlP (h:tv σ H fun y H1=>ta σ H1 fun x H2=>zgP K f y x H2 fun H3=>nx σ H3):sFld K ta tv f ⟨nx,rt,bk,ct⟩ σ H:=h
theorem za3 {y:V} {N:Hp→Prop} (h:H a=some (.ins C dx fs)) (c:Cls K C) (n:zbx K C f) (l:fs.length < 1000) (q:∀ H2,But a H H2→H2 a=some (.ins C dx (putF f y fs))→N H2):zgP K f y (.ref a) H N:=⟨a,C,dx,fs,rfl,h,c,n,l,q _ But.upd zas⟩
def zby (C:Addr) (m:Str) (sp:Sp) (E:XK) (t:TA) (σ:St) (x:V) (H1:Hp) (Q:VK):Prop:=∃ a dx fs,x=.ref a∧H1 a=some (.ins C dx fs)∧fs.lookup m=none∧t σ H1 fun vs H2=>sp (x::(vs++[])) H2 Q E
theorem zlQ (h:ta σ H fun x H1=>zby C m sp E tl σ x H1 Q):zkn C m sp [] E ta tl σ H Q:=h
theorem zaM (h:H a=some (.ins C dx fs)) (l:fs.lookup m=none) (q:tl σ H fun vs H2=>sp (.ref a::(vs++[])) H2 Q E):zby C m sp E tl σ (.ref a) H Q:=⟨a,dx,fs,rfl,h,l,q⟩
def zgQ (C:Addr) (sp:Sp) (E:XK) (vs:List V) (H1:Hp) (Q:VK):Prop:=∀ x dx,H1 x=none→H1 dx=none→dx≠x→sp (.ref x::(vs++[])) (upd (upd H1 dx (.own x)) x (.ins C dx [])) (fun v H2=>v=.non∧Q (.ref x) H2) E
theorem zlR (h:tl σ H fun vs H1=>zgQ C sp E vs H1 Q):zko C sp [] E tl σ H Q:=h
theorem zfC {vs:List V} (h:∀ x dx H2,H x=none→H dx=none→dx≠x→Same H H2→H2 x=some (.ins C dx [])→sp (.ref x::(vs++[])) H2 (fun v H3=>v=.non∧Q (.ref x) H3) E):zgQ C sp E vs H Q :=
 fun x dx hx hd ne=>h x dx _ hx hd ne (fun b u z=>by rw [zaJ (zai z hx),zaJ (zai z hd)];exact z) zas
theorem zlS {tget:V→V→Hp→VK→Prop} {tip:TIp} {tset:TSet} (h:to σ H fun o H1=>ti σ H1 fun i H2=>tget o i H2 fun x H3=>te σ H3 fun y H4=>tip x y H4 fun z H5=>tset o i z H5 fun H6=>nx σ H6):zk8 to ti te tget tip tset ⟨nx,rt,bk,ct⟩ σ H:=h
theorem zlT (h:SqL K H p (ns.map V.int)) (h0:0≤i) (h1:i < ns.length) (q:Q (.int (ns.getD i.toNat 0)) H):zlO K (.ref p) (.int i) H Q:=⟨p,ns,i,rfl,rfl,h,h0,h1,q⟩
theorem zmL {g:Int→Int→Int} {j:Int} (q:Q (.int (g i j)) H):ipI g (.int i) (.int j) H Q:=⟨i,j,rfl,rfl,q⟩
theorem zge (h:H p=some (.lst (ns.map V.int))) (hi:i∈ns) (q:∀ H2,But p H H2→H2 p=some (.lst ((ns.erase i).map V.int))→Q .non H2):rRemove (.ref p) [.int i] H Q:=⟨p,ns,i,rfl,rfl,h,hi,q _ But.upd zas⟩
def kvT (ks:List Int):List (Key×V):=ks.map fun k=>(Sum.inl k,.bl true)
theorem zgR (ks:List Int) (k:Int):(valV (kvT ks) (Sum.inl k:Key)).isSome=decide (k∈ks):=by
 induction ks with
 | nil=>rfl
 | cons y ys ih =>
   show (valV (((Sum.inl y:Key),V.bl true)::kvT ys) (Sum.inl k:Key)).isSome=_
   by_cases e:y=k
   ·subst e;rw [zbn rfl];simp
   ·rw [zbo (fun z=>e (Sum.inl.inj z)),ih,decide_eq_decide];simp [Ne.symm e]
theorem zjC {ks:List Int} {k:Int} (h:k∉ks):putK (kvT ks) (Sum.inl k:Key) (.bl true)=kvT (ks++[k]):=by
 have:valV (kvT ks) (Sum.inl k:Key)=none:=by
  have:=zgR ks k;rw [decide_eq_false h] at this
  cases e:valV (kvT ks) (Sum.inl k:Key) with
  | none=>rfl
  | some v=>rw [e] at this;cases this
 rw [zjg _ this];unfold kvT;rw [List.map_append];rfl
def ziH (y x:V) (H2:Hp) (Q:VK):Prop:=∃ a o,x=.ref a∧DGet H2 a y o∧Q (.bl o.isSome) H2
theorem zmM (h:ta σ H fun y H1=>tb σ H1 fun x H2=>ziH y x H2 Q):tDIn ta tb σ H Q:=h
theorem zjD {ks:List Int} (h:H a=some (.dK (kvT ks))) (q:Q (.bl (decide (i∈ks))) H):ziH (.int i) (.ref a) H Q :=
 ⟨a,_,rfl,DGet.k (k:=(Sum.inl i:Key)) h,by rw [zgR];exact q⟩
def ze0 (v x y:V) (H3:Hp) (N:Hp→Prop):Prop:=∃ a H4,x=.ref a∧DPut H3 a y v H4∧N H4
theorem zlU (h:tv σ H fun v H1=>ta σ H1 fun x H2=>tb σ H2 fun y H3=>ze0 v x y H3 fun H4=>nx σ H4):zlj ta tb tv ⟨nx,rt,bk,ct⟩ σ H:=h
theorem ziI {ks:List Int} {N:Hp→Prop} (h:H a=some (.dK (kvT ks))) (hz:ks.length≤1000) (hn:i∉ks) (q:∀ H2,But a H H2→H2 a=some (.dK (kvT (ks++[i])))→N H2):ze0 (.bl true) (.ref a) (.int i) H N:=by
 refine ⟨a,_,rfl,DPut.k (k:=(Sum.inl i:Key)) h (by unfold kvT;rw [List.length_map];exact za2 hz),q _ But.upd ?_⟩;rw [zas,zjC hn]
theorem zfD (h:∀ p H2,H p=none→Same H H2→H2 p=some (.dK (kvT []))→Q (.ref p) H2):tDNewK σ H Q:=fun p hp=>h p _ hp (zaY hp) zas
end
end L2
namespace Prf
open PySem PySem.Spec PyProof.Rows L2
def prsB:List Int→List (List Int)
 | []=>[]
 | x::xs=>(xs.map fun y=>[x,y])++prsB xs
def zjE (a b:List Int):Prop:=a.getD 0 0 < b.getD 0 0∨a.getD 0 0=b.getD 0 0∧a.getD 1 0≤b.getD 1 0
theorem prs_mem:∀ {ns:List Int} {r:List Int},ns.Pairwise (· < ·)→(r∈prsB ns↔∃ x y,r=[x,y]∧x∈ns∧y∈ns∧x < y)
 | [],r,_=>by simp [prsB]
 | n::ns,r,h=>by
   obtain ⟨h1,h2⟩:=List.pairwise_cons.mp h;unfold prsB;rw [List.mem_append,prs_mem h2,List.mem_map];constructor
   ·rintro (⟨y,hy,rfl⟩ | ⟨x,y,rfl,hx,hy,hlt⟩)
    ·exact ⟨n,y,rfl,by simp,by simp [hy],h1 y hy⟩
    ·exact ⟨x,y,rfl,by simp [hx],by simp [hy],hlt⟩
   ·rintro ⟨x,y,rfl,hx,hy,hlt⟩;rcases List.mem_cons.mp hx with rfl | hx'
    ·rcases List.mem_cons.mp hy with rfl | hy'
     ·omega
     ·exact .inl ⟨y,hy',rfl⟩
    ·rcases List.mem_cons.mp hy with rfl | hy'
     ·have:=h1 x hx';omega
     ·exact .inr ⟨x,y,rfl,hx',hy',hlt⟩
theorem prs_ord:∀ {ns:List Int},ns.Pairwise (· < ·)→(prsB ns).Pairwise zjE
 | [],_=>List.Pairwise.nil
 | n::ns,h=>by
   obtain ⟨h1,h2⟩:=List.pairwise_cons.mp h;unfold prsB;refine List.pairwise_append.mpr ⟨?_,prs_ord h2,fun a ha b hb=>?_⟩
   ·rw [List.pairwise_map];exact h2.imp fun h=>.inr ⟨rfl,Int.le_of_lt h⟩
   ·obtain ⟨y,hy,rfl⟩:=List.mem_map.mp ha;obtain ⟨x,z,rfl,hx,_,_⟩:=(prs_mem h2).mp hb;exact .inl (h1 x hx)
theorem zjF {ns:List Int} {i:Nat} (h:i < ns.length):prsB (ns.drop i)=((ns.drop (i+1)).map fun y=>[ns.getD i 0,y])++prsB (ns.drop (i+1)):=by
 rw [List.drop_eq_getElem_cons h,List.getD_eq_getElem?_getD,List.getElem?_eq_getElem h];rfl
theorem prs_len:∀ (ns:List Int),(prsB ns).length≤ns.length * ns.length
 | []=>Nat.le_refl _
 | n::ns=>by
   unfold prsB;rw [List.length_append,List.length_map,List.length_cons,Nat.add_mul,Nat.mul_add];have:=prs_len ns;omega
theorem cnt_append (a b:List (List Int)) (x:Int):cntB (a++b) x=cntB a x+cntB b x:=by
 unfold cntB;rw [List.filter_append,List.length_append]
def zfE (rs:List (List Int)) (ls:List Int):List (List Int):=(List.range rs.length).map fun i=>[(rs.getD i []).getD 0 0,ls.getD i 0]
theorem zch (rs:List (List Int)) (ls:List Int):(zfE rs ls).length=rs.length:=by unfold zfE;rw [List.length_map,List.length_range]
theorem zcB {rs:List (List Int)} {ls:List Int} {i:Nat} (h:i < rs.length):(zfE rs ls).getD i []=[(rs.getD i []).getD 0 0,ls.getD i 0]:=zaE h
theorem ze1 {rs rows:List (List Int)} {i:Nat} (h:i < rs.length):(zaZ rs rows).getD i 0=(rs.getD i []).getD 1 0-(cntB rows ((i:Int)+1):Int):=zaE h
theorem zfF {rs:List (List Int)} {ls:List Int} {h:Int} {row:List Int}:zb8 (zfE rs ls) h row=true↔zb8 rs h row=true:=by
 rw [zbQ,zbQ,zch];constructor
 ·rintro ⟨h1,h2,h3,h4,h5,h6⟩;rw [zcB (by omega)] at h5 h6;exact ⟨h1,h2,h3,h4,h5,h6⟩
 ·rintro ⟨h1,h2,h3,h4,h5,h6⟩;refine ⟨h1,h2,h3,h4,?_,?_⟩
  ·rw [zcB (by omega)];exact h5
  ·rw [zcB (by omega)];exact h6
def zb3 (hs:List Int) (rs rows:List (List Int)):Prop:=rows.length≤hs.length∧∀ k,k < rows.length→zb8 rs (hs.getD k 0) (rows.getD k [])=true
def Ext (hs:List Int) (rs rows:List (List Int)):Prop:=∃ more,zaT hs rs (rows++more)=true
theorem zbi {hs:List Int} {rs rows:List (List Int)}:zaT hs rs rows=true↔rows.length=hs.length∧(∀ k,k < hs.length→zb8 rs (hs.getD k 0) (rows.getD k [])=true)∧∀ k,k < rs.length→(cntB rows ((k:Int)+1):Int)≤(rs.getD k []).getD 1 0:=by
 unfold zaT;simp only [Bool.and_eq_true,decide_eq_true_eq,List.all_eq_true,List.mem_range];have e0:∀ k:Nat,(0:Int)+(k:Int)+1=(k:Int)+1:=fun k=>by omega
 constructor
 ·rintro ⟨⟨h1,h2⟩,h3⟩;exact ⟨h1,h2,fun k hk=>by have:=h3 k hk;rwa [e0] at this⟩
 ·rintro ⟨h1,h2,h3⟩;exact ⟨⟨h1,h2⟩,fun k hk=>by rw [e0];exact h3 k hk⟩
theorem zci {α:Type} {xs ys:List α} {d:α} {i:Nat} (h:xs.length≤i):(xs++ys).getD i d=ys.getD (i-xs.length) d:=by
 rw [List.getD_eq_getElem?_getD,List.getD_eq_getElem?_getD,List.getElem?_append_right h]
theorem zec {α:Type} {xs:List α} {d:α} {i k:Nat}:(xs.drop k).getD i d=xs.getD (k+i) d:=by
 rw [List.getD_eq_getElem?_getD,List.getD_eq_getElem?_getD,List.getElem?_drop]
theorem zlV {hs:List Int} {rs rows:List (List Int)} (P:zb3 hs rs rows):Ext hs rs rows↔(∀ k,k < rs.length→(cntB rows ((k:Int)+1):Int)≤(rs.getD k []).getD 1 0)∧∃ more,zaT (hs.drop rows.length) (zfE rs (zaZ rs rows)) more=true:=by
 obtain ⟨pl,pp⟩:=P;constructor
 ·rintro ⟨more,h⟩;obtain ⟨h1,h2,h3⟩:=zbi.mp h;rw [List.length_append] at h1;refine ⟨fun k hk=>?_,more,zbi.mpr ⟨by rw [List.length_drop];omega,fun k hk=>?_,fun k hk=>?_⟩⟩
  ·have:=h3 k hk;rw [cnt_append] at this;omega
  ·rw [List.length_drop] at hk;have:=h2 (rows.length+k) (by omega);rw [zci (by omega),Nat.add_sub_cancel_left] at this;rw [zec];exact zfF.mpr this
  ·rw [zch] at hk;have:=h3 k hk;rw [cnt_append] at this;rw [zcB hk,ze1 hk];show (cntB more ((k:Int)+1):Int)≤(rs.getD k []).getD 1 0-(cntB rows ((k:Int)+1):Int);omega
 ·rintro ⟨h0,more,h⟩;obtain ⟨h1,h2,h3⟩:=zbi.mp h;rw [List.length_drop] at h1 h2;refine ⟨more,zbi.mpr ⟨by rw [List.length_append];omega,fun k hk=>?_,fun k hk=>?_⟩⟩
  ·by_cases e:k < rows.length
   ·rw [zaw e];exact pp k e
   ·rw [zci (by omega)];have:=h2 (k-rows.length) (by omega);rw [zec] at this;have e2:rows.length+(k-rows.length)=k:=by omega
    rw [e2] at this;exact zfF.mp this
  ·have:=h3 k (by rw [zch];exact hk);rw [zcB hk,ze1 hk] at this;have t2:(cntB more ((k:Int)+1):Int)≤(rs.getD k []).getD 1 0-(cntB rows ((k:Int)+1):Int):=this;rw [cnt_append];omega
theorem zlW {hs:List Int} {rs rows:List (List Int)} (B:InB hs rs) (h0:∀ k,k < rs.length→(cntB rows ((k:Int)+1):Int)≤(rs.getD k []).getD 1 0) (n:Nat):InB (hs.drop n) (zfE rs (zaZ rs rows)):=by
 have lp:=B.lp;have lr:=B.lr;refine ⟨by rw [List.length_drop];omega,by rw [zch];exact lr,fun i hi=>?_,fun i hi=>?_,fun i hi=>?_,fun i hi=>?_⟩
 ·rw [List.length_drop] at hi;rw [zec];exact B.hh _ (by omega)
 ·rw [zch] at hi;rw [zcB hi];rfl
 ·rw [zch] at hi;rw [zcB hi];exact B.rh i hi
 ·rw [zch] at hi;have:=h0 i hi;have:=B.rl i hi;rw [zcB hi,ze1 hi];show 0≤(rs.getD i []).getD 1 0-(cntB rows ((i:Int)+1):Int)∧(rs.getD i []).getD 1 0-(cntB rows ((i:Int)+1):Int)≤30;omega
theorem zgS {row:List Int}:∀ {t full:List (List Int)},nbB t full=true→((∀ j,j < t.length→(t.getD j []).getD 0 0=(full.getD j []).getD 0 0∧(t.getD j []).getD 1 0=(full.getD j []).getD 1 0)→t.length < full.length→zjE row (full.getD t.length []))→nbB (t++[row]) full=true
 | [],[],_,_=>rfl
 | [],f::fs,_,h=>by
   have h1:=h (fun j hj=>absurd hj (by simp)) (by simp);have h2:zjE row f:=h1;show (if row.getD 0 0=f.getD 0 0 then (if row.getD 1 0=f.getD 1 0 then nbB [] fs else decide (row.getD 1 0 < f.getD 1 0)) else decide (row.getD 0 0 < f.getD 0 0))=true;unfold zjE at h2
   by_cases e:row.getD 0 0=f.getD 0 0
   ·rw [if_pos e]
    by_cases e2:row.getD 1 0=f.getD 1 0
    ·rw [if_pos e2];rfl
    ·rw [if_neg e2];exact decide_eq_true (by omega)
   ·rw [if_neg e];exact decide_eq_true (by omega)
 | t::ts,[],_,_=>rfl
 | t::ts,f::fs,hn,h=>by
   have hn':(if t.getD 0 0=f.getD 0 0 then (if t.getD 1 0=f.getD 1 0 then nbB ts fs else decide (t.getD 1 0 < f.getD 1 0)) else decide (t.getD 0 0 < f.getD 0 0))=true:=hn;show (if t.getD 0 0=f.getD 0 0 then (if t.getD 1 0=f.getD 1 0 then nbB (ts++[row]) fs else decide (t.getD 1 0 < f.getD 1 0)) else decide (t.getD 0 0 < f.getD 0 0))=true
   by_cases e:t.getD 0 0=f.getD 0 0
   ·rw [if_pos e] at hn' ⊢
    by_cases e2:t.getD 1 0=f.getD 1 0
    ·rw [if_pos e2] at hn' ⊢;refine zgS hn' fun hj hl=>?_;refine h (fun j hj'=>?_) (by simpa using hl)
     cases j with
     | zero=>exact ⟨e,e2⟩
     | succ j=>exact hj j (by simpa using hj')
    ·rw [if_neg e2] at hn' ⊢;exact hn'
   ·rw [if_neg e] at hn' ⊢;exact hn'
theorem zlX {a b:List Int} (ha:a.length=2) (hb:b.length=2) (h0:a.getD 0 0=b.getD 0 0) (h1:a.getD 1 0=b.getD 1 0):a=b:=by
 rw [len2 ha,len2 hb,h0,h1]
end Prf
namespace L2
open PySem PySem.Spec PyProof.Rows
section
variable {σ:St} {H:Hp} {Q:VK} {K:PySem.W.Frag} {ta tb:TE} {a:Addr} {i:Int} {v:V}
def zgT (y x:V) (H2:Hp) (Q:VK):Prop:=∃ a o,x=.ref a∧DGet H2 a y o∧Q (.bl (!o.isSome)) H2
theorem zlY (h:ta σ H fun y H1=>tb σ H1 fun x H2=>zgT y x H2 Q):zie ta tb σ H Q:=h
theorem ziJ {kvs:List (Key×V)} (h:H a=some (.dK kvs)) (q:Q (.bl (!(valV kvs (Sum.inl i:Key)).isSome)) H):zgT (.int i) (.ref a) H Q:=⟨a,_,rfl,DGet.k (k:=Sum.inl i) h,q⟩
def zgU (x y:V) (H2:Hp) (Q:VK):Prop:=∃ a v,x=.ref a∧DGet H2 a y (some v)∧Q v H2
theorem zlZ (h:ta σ H fun x H1=>tb σ H1 fun y H2=>zgU x y H2 Q):zli ta tb σ H Q:=h
theorem ziK {kvs:List (Key×V)} (h:H a=some (.dK kvs)) (e:valV kvs (Sum.inl i:Key)=some v) (q:Q v H):zgU (.ref a) (.int i) H Q:=⟨a,v,rfl,e▸DGet.k (k:=Sum.inl i) h,q⟩
theorem zhs {kvs:List (Key×V)} {N:Hp→Prop} (h:H a=some (.dK kvs)) (hz:kvs.length≤1000) (q:∀ H2,But a H H2→H2 a=some (.dK (putK kvs (Sum.inl i:Key) v))→N H2):ze0 v (.ref a) (.int i) H N :=
 ⟨a,_,rfl,DPut.k (k:=Sum.inl i) h (za2 hz),q _ But.upd zas⟩
end
end L2
namespace Prf
open PySem PySem.Spec PyProof.Rows L2
structure ExS where
 hs:List Int
 rs:List (List Int)
 step:Int
 dl:Option (List (List Int)×List (List Int))
def ExS.nm (s:ExS):List (List Int):=(s.dl.map (·.1)).getD []
def ExS.en (s:ExS):List (List Int):=(s.dl.map (·.2)).getD []
def zaH (en:List (List Int)) (k:Nat) (r:Int):Option Int:=((en.filter fun e=>decide (e.getD 0 0=(k:Int)+1) && decide (e.getD 1 0=r)).getLast?).map fun e=>e.getD 2 0
theorem zfG (k:Nat) (r:Int):zaH [] k r=none:=rfl
theorem zcb (en:List (List Int)) (e:List Int) (k:Nat) (r:Int):zaH (en++[e]) k r=if e.getD 0 0=(k:Int)+1∧e.getD 1 0=r then some (e.getD 2 0) else zaH en k r:=by
 unfold zaH;rw [List.filter_append]
 by_cases h:e.getD 0 0=(k:Int)+1∧e.getD 1 0=r
 ·have:(decide (e.getD 0 0=(k:Int)+1) && decide (e.getD 1 0=r))=true:=by rw [decide_eq_true h.1,decide_eq_true h.2];rfl
  rw [if_pos h,List.filter_cons,if_pos this,List.filter_nil,List.getLast?_append];rfl
 ·have:(decide (e.getD 0 0=(k:Int)+1) && decide (e.getD 1 0=r))=false:=by
   rw [Bool.eq_false_iff];intro z;rw [Bool.and_eq_true] at z;exact h ⟨of_decide_eq_true z.1,of_decide_eq_true z.2⟩
  rw [if_neg h,List.filter_cons,this,List.filter_nil];simp
def exFs (va vb vs vd vc ve:V):List (Str×V):=[("paper_houses",va),("reader_rows",vb),("widest_step",vs),("is_dealt",vd),("named_readers",vc),("entered_points",ve)]
section
variable {va vb vs vd vc ve v:V}
theorem exFs_mk:putF "entered_points" ve (putF "named_readers" vc (putF "is_dealt" vd (putF "widest_step" vs (putF "reader_rows" vb (putF "paper_houses" va [])))))=exFs va vb vs vd vc ve:=by
 unfold exFs
 repeat (first | rw [if_neg (by decide +kernel)] | simp only [putF])
theorem exFs_a:(exFs va vb vs vd vc ve).lookup ("paper_houses" : Str)=some va:=by rw [← exFs_mk];simp only [zaz];repeat (first | rw [if_pos trivial] | rw [if_pos rfl] | rw [if_neg (by decide +kernel)])
theorem exFs_b:(exFs va vb vs vd vc ve).lookup ("reader_rows" : Str)=some vb:=by rw [← exFs_mk];simp only [zaz];repeat (first | rw [if_pos trivial] | rw [if_pos rfl] | rw [if_neg (by decide +kernel)])
theorem exFs_s:(exFs va vb vs vd vc ve).lookup ("widest_step" : Str)=some vs:=by rw [← exFs_mk];simp only [zaz];repeat (first | rw [if_pos trivial] | rw [if_pos rfl] | rw [if_neg (by decide +kernel)])
theorem exFs_d:(exFs va vb vs vd vc ve).lookup ("is_dealt" : Str)=some vd:=by rw [← exFs_mk];simp only [zaz];repeat (first | rw [if_pos trivial] | rw [if_pos rfl] | rw [if_neg (by decide +kernel)])
theorem exFs_c:(exFs va vb vs vd vc ve).lookup ("named_readers" : Str)=some vc:=by rw [← exFs_mk];simp only [zaz];repeat (first | rw [if_pos trivial] | rw [if_pos rfl] | rw [if_neg (by decide +kernel)])
theorem exFs_e:(exFs va vb vs vd vc ve).lookup ("entered_points" : Str)=some ve:=by rw [← exFs_mk];simp only [zaz];repeat (first | rw [if_pos trivial] | rw [if_pos rfl] | rw [if_neg (by decide +kernel)])
theorem exFs_ps:putF "widest_step" v (exFs va vb vs vd vc ve)=exFs va vb v vd vc ve:=by
 unfold exFs;simp only [putF];repeat (first | rw [if_pos trivial] | rw [if_pos rfl] | rw [if_neg (by decide +kernel)])
theorem exFs_pd:putF "is_dealt" v (exFs va vb vs vd vc ve)=exFs va vb vs v vc ve:=by
 unfold exFs;simp only [putF];repeat (first | rw [if_pos trivial] | rw [if_pos rfl] | rw [if_neg (by decide +kernel)])
theorem exFs_pc:putF "named_readers" v (exFs va vb vs vd vc ve)=exFs va vb vs vd v ve:=by
 unfold exFs;simp only [putF];repeat (first | rw [if_pos trivial] | rw [if_pos rfl] | rw [if_neg (by decide +kernel)])
theorem exFs_pe:putF "entered_points" v (exFs va vb vs vd vc ve)=exFs va vb vs vd vc v:=by
 unfold exFs;simp only [putF];repeat (first | rw [if_pos trivial] | rw [if_pos rfl] | rw [if_neg (by decide +kernel)])
end
def exFields:List Str:=["paper_houses","reader_rows","widest_step","is_dealt","named_readers","entered_points"]
theorem ziL {va vb vs vd vc ve:V} {m:Str} (h:m∉exFields):(exFs va vb vs vd vc ve).lookup m=none:=by
 have hn:∀ f∈exFields,¬m=f:=fun f hf z=>h (z▸hf);rw [← exFs_mk];simp only [zaz];rw [if_neg (hn _ (by decide +kernel)),if_neg (hn _ (by decide +kernel)),if_neg (hn _ (by decide +kernel)),if_neg (hn _ (by decide +kernel)),if_neg (hn _ (by decide +kernel)),if_neg (hn _ (by decide +kernel))];rfl
def zcC (n:Nat) (en:List (List Int)) (k:Nat) (row:List Int):Prop:=∃ f s:Int,1≤f∧f < s∧s≤n∧(row=[f,s]∨∃ t:Int,row=[f,s,t]∧1≤t∧t≤n∧t≠f∧t≠s∧(zaH en k f).isSome=true∧(zaH en k s).isSome=true)
structure Wf (st:ExS):Prop where
 ln:st.dl.isSome=true→st.nm.length=st.hs.length
 row:∀ k,k < st.nm.length→zcC st.rs.length st.en k (st.nm.getD k [])
 pts:∀ k r p,zaH st.en k r=some p→0≤p∧p≤100
 stp:0≤st.step∧st.step≤100
structure ExAd where
 x:Addr
 dx:Addr
 a:Addr
 b:Addr
 c:Addr
 d:Addr
 ps:List Addr
 qs:List Addr
 ds:List Addr
def ExAd.own (e:ExAd):List Addr:=e.x::e.a::e.b::e.c::e.d::(e.ps++(e.qs++e.ds))
structure ExIn (C:Addr) (H:Hp) (e:ExAd) (st:ExS) (kvs:List (List (Key×V))):Prop where
 ob:H e.x=some (.ins C e.dx (exFs (.ref e.a) (.ref e.b) (.int st.step) (.bl st.dl.isSome) (.ref e.c) (.ref e.d)))
 ha:H e.a=some (.lst (st.hs.map V.int))
 hb:H e.b=some (.lst (e.ps.map V.ref))
 hc:H e.c=some (.lst (e.qs.map V.ref))
 hd:H e.d=some (.lst (e.ds.map V.ref))
 lp:e.ps.length=st.rs.length
 lq:e.qs.length=st.nm.length
 ld:e.ds.length=st.nm.length
 rp:∀ i,i < st.rs.length→H (e.ps.getD i 0)=some (.lst ((st.rs.getD i []).map V.int))
 rq:∀ i,i < st.nm.length→H (e.qs.getD i 0)=some (.lst ((st.nm.getD i []).map V.int))
 rd:∀ i,i < st.nm.length→H (e.ds.getD i 0)=some (.dK (kvs.getD i []))
 vk:∀ i,i < st.nm.length→∀ r:Int,valV (kvs.getD i []) (Sum.inl r:Key)=(zaH st.en i r).map V.int
 sk:∀ i,i < st.nm.length→(kvs.getD i []).length≤st.en.length
 lk:kvs.length=st.nm.length
 nd:e.own.Nodup
 wf:Wf st
def ExAt (C:Addr) (H:Hp) (x:Addr) (F:Addr→Prop) (st:ExS):Prop:=∃ e kvs,e.x=x∧(∀ b,F b↔b∈e.own)∧ExIn C H e st kvs
theorem zcN {ps:List Addr} {i:Nat} (h:i < ps.length):ps.getD i 0∈ps:=by
 rw [List.getD_eq_getElem?_getD,List.getElem?_eq_getElem h];exact List.getElem_mem h
section
variable {C x:Addr} {H H':Hp} {e:ExAd} {st:ExS} {kvs:List (List (Key×V))} {F:Addr→Prop}
theorem own_x:e.x∈e.own:=List.mem_cons_self
theorem own_a:e.a∈e.own:=List.mem_cons_of_mem _ List.mem_cons_self
theorem own_b:e.b∈e.own:=List.mem_cons_of_mem _ (List.mem_cons_of_mem _ List.mem_cons_self)
theorem own_c:e.c∈e.own:=List.mem_cons_of_mem _ (List.mem_cons_of_mem _ (List.mem_cons_of_mem _ List.mem_cons_self))
theorem own_d:e.d∈e.own:=List.mem_cons_of_mem _ (List.mem_cons_of_mem _ (List.mem_cons_of_mem _ (List.mem_cons_of_mem _ List.mem_cons_self)))
theorem zkS {b:Addr} (h:b∈e.ps++(e.qs++e.ds)):b∈e.own:=List.mem_cons_of_mem _ (List.mem_cons_of_mem _ (List.mem_cons_of_mem _ (List.mem_cons_of_mem _ (List.mem_cons_of_mem _ h))))
theorem zjG {b:Addr} (h:b∈e.ps):b∈e.own:=zkS (List.mem_append_left _ h)
theorem zjH {b:Addr} (h:b∈e.qs):b∈e.own:=zkS (List.mem_append_right _ (List.mem_append_left _ h))
theorem zgV {b:Addr} (h:b∈e.ds):b∈e.own:=zkS (List.mem_append_right _ (List.mem_append_right _ h))
theorem ExIn.keep (E:ExIn C H e st kvs) (k:∀ b o,b∈e.own→H b=some o→H' b=some o):ExIn C H' e st kvs :=
 ⟨k _ _ own_x E.ob,k _ _ own_a E.ha,k _ _ own_b E.hb,k _ _ own_c E.hc,k _ _ own_d E.hd,E.lp,E.lq,E.ld,fun i hi=>k _ _ (zjG (zcN (by rw [E.lp];exact hi))) (E.rp i hi),fun i hi=>k _ _ (zjH (zcN (by rw [E.lq];exact hi))) (E.rq i hi),fun i hi=>k _ _ (zgV (zcN (by rw [E.ld];exact hi))) (E.rd i hi),E.vk,E.sk,E.lk,E.nd,E.wf⟩
theorem ExIn.mem (E:ExIn C H e st kvs) {b:Addr} (h:b∈e.own):∃ o,H b=some o:=by
 unfold ExAd.own at h;simp only [List.mem_cons,List.mem_append] at h;rcases h with h | h | h | h | h | h | h | h
 ·exact ⟨_,h▸E.ob⟩
 ·exact ⟨_,h▸E.ha⟩
 ·exact ⟨_,h▸E.hb⟩
 ·exact ⟨_,h▸E.hc⟩
 ·exact ⟨_,h▸E.hd⟩
 ·obtain ⟨i,hi,ei⟩:=L2.mem_getD (d:=0) h;exact ⟨_,ei▸E.rp i (by have:=E.lp;omega)⟩
 ·obtain ⟨i,hi,ei⟩:=L2.mem_getD (d:=0) h;exact ⟨_,ei▸E.rq i (by have:=E.lq;omega)⟩
 ·obtain ⟨i,hi,ei⟩:=L2.mem_getD (d:=0) h;exact ⟨_,ei▸E.rd i (by have:=E.ld;omega)⟩
theorem ExAt.keep (E:ExAt C H x F st) (k:∀ b o,F b→H b=some o→H' b=some o):ExAt C H' x F st:=by
 obtain ⟨e,kvs,hx,hF,I⟩:=E;exact ⟨e,kvs,hx,hF,I.keep fun b o hb eb=>k b o ((hF b).mpr hb) eb⟩
theorem ExAt.mem (E:ExAt C H x F st) {b:Addr} (h:F b):∃ o,H b=some o:=by
 obtain ⟨e,kvs,hx,hF,I⟩:=E;exact I.mem ((hF b).mp h)
def exMeths:List Str:=["bring_paper","bring_reader","set_step","deal","enter","papers","readers","step","dealt","dealing","against","due","marks","left","refuse_behind_dealing","refuse_ahead_of_dealing","refuse_not_due","due_readers","points_for","mark_for","name_third","needs_third"]
theorem zeJ {m:Str} (h:m∈exMeths):m∉exFields:=by
 revert m
 have:exMeths.all (fun m=>!exFields.contains m)=true:=by decide +kernel
 intro m h z;have:=List.all_eq_true.mp this m h;simp only [Bool.not_eq_true',← Bool.not_eq_true,List.contains_iff_mem] at this;exact this z
theorem ExAt.ob (E:ExAt C H x F st):∃ dx fs,H x=some (.ins C dx fs)∧∀ m∈exMeths,fs.lookup m=none:=by
 obtain ⟨e,kvs,rfl,hF,I⟩:=E;exact ⟨_,_,I.ob,fun m hm=>ziL (zeJ hm)⟩
end
structure ExFr (H H':Hp) (F F':Addr→Prop):Prop where
 kp:∀ b o,H b=some o→¬F b→H' b=some o
 fp:∀ b,F' b→F b∨H b=none
section
variable {C x:Addr} {H H':Hp} {e:ExAd} {st:ExS} {kvs:List (List (Key×V))} {F F':Addr→Prop}
theorem ExFr.same (s:Same H H'):ExFr H H' F F:=⟨fun b o e _=>s b o e,fun b h=>.inl h⟩
theorem ExFr.but {p:Addr} (b:But p H H') (hp:F p) (fp:∀ b,F' b→F b∨H b=none):ExFr H H' F F':=⟨fun c o e n=>by rw [b c (fun z=>n (z▸hp))];exact e,fp⟩
theorem ExAt.same (E:ExAt C H x F st) (s:Same H H'):ExAt C H' x F st:=E.keep fun b o _ e=>s b o e
theorem ExAt.new (E:ExAt C H x F st) {b:Addr} (h:H b=none):¬F b:=fun z=>by obtain ⟨o,e⟩:=E.mem z;rw [h] at e;cases e
theorem ExIn.new (E:ExIn C H e st kvs) {b:Addr} (h:H b=none):b∉e.own:=fun z=>by obtain ⟨o,e⟩:=E.mem z;rw [h] at e;cases e
end
def zgf (H:Hp) (F:Addr→Prop) (a:Addr) (ns:List Int):Prop:=H a=some (.lst (ns.map V.int))∧¬F a
theorem zgf.same {H H':Hp} {F:Addr→Prop} {a:Addr} {ns:List Int} (h:zgf H F a ns) (s:Same H H'):zgf H' F a ns:=⟨s _ _ h.1,h.2⟩
theorem zgf.fr {H H':Hp} {F F':Addr→Prop} {a:Addr} {ns:List Int} (h:zgf H F a ns) (f:ExFr H H' F F'):zgf H' F' a ns:=⟨f.kp _ _ h.1 h.2,fun z=>(f.fp a z).elim h.2 fun e=>by rw [h.1] at e;cases e⟩
def zdn (H:Hp) (F:Addr→Prop) (a:Addr) (ps:List Addr) (rs:List (List Int)):Prop:=H a=some (.lst (ps.map V.ref))∧¬F a∧ps.length=rs.length∧∀ i,i < rs.length→zgf H F (ps.getD i 0) (rs.getD i [])
theorem zdn.same {H H':Hp} {F:Addr→Prop} {a:Addr} {ps:List Addr} {rs:List (List Int)} (h:zdn H F a ps rs) (s:Same H H'):zdn H' F a ps rs:=⟨s _ _ h.1,h.2.1,h.2.2.1,fun i hi=>(h.2.2.2 i hi).same s⟩
theorem zdn.fr {H H':Hp} {F F':Addr→Prop} {a:Addr} {ps:List Addr} {rs:List (List Int)} (h:zdn H F a ps rs) (f:ExFr H H' F F'):zdn H' F' a ps rs :=
 ⟨f.kp _ _ h.1 h.2.1,(fun z=>(f.fp a z).elim h.2.1 fun e=>(by rw [h.1] at e;cases e)),h.2.2.1,fun i hi=>(h.2.2.2 i hi).fr f⟩
theorem zdn.ll {K:PySem.W.Frag} {H:Hp} {F:Addr→Prop} {a:Addr} {ps:List Addr} {rs:List (List Int)} (h:zdn H F a ps rs):LL K H a rs:=⟨ps,SqL.of h.1,h.2.2.1,fun i hi=>(h.2.2.2 i hi).1⟩
theorem ExFr.nf {H0 H H':Hp} {F F':Addr→Prop} (f:ExFr H H' F F') (s:Same H0 H) (n:∀ c o,H0 c=some o→¬F c):(∀ c o,H0 c=some o→¬F' c)∧Same H0 H' :=
 ⟨fun c o e z=>(f.fp c z).elim (n c o e) fun z=>(by rw [s c o e] at z;cases z),fun c o e=>f.kp c o (s c o e) (n c o e)⟩
theorem zjI {xs:List V} {v:V}:atI (xs++[v]) (-1)=some v:=by
 have e:ixN (xs++[v]).length (-1)=some xs.length:=by
  unfold ixN;rw [if_neg (by decide),List.length_append,List.length_singleton,if_pos (by omega)]
  congr 1
  omega
 unfold atI;rw [e];show (xs++[v])[xs.length]? = some v;rw [List.getElem?_append_right (Nat.le_refl _)];simp
end Prf
namespace L2
open PySem PySem.Spec PyProof.Rows
section
variable {σ:St} {H:Hp} {Q:VK} {K:PySem.W.Frag} {js:List Nat} {te:TE} {J:It} {n k:Nat} {g:TG} {w:Nat→St} {x:Nat→V}
theorem zjJ (T:zcg J n k js σ g w H) (hz:n≤1000) (R:Addr→Nat→V→Hp→Prop) (S:List V→V→Prop)
  (st:∀ p i v H1 H2,R p i v H1→(∀ b o,H1 b=some o→b≠p→H2 b=some o)→R p i v H2)
  (he:∀ p ys i H' Q',i < n→H p=none→Same H H'→H' p=some (.lst ys)→ys.length=i→(∀ j,j < i→R p j (ys.getD j .non) H')→(∀ v H2,Same H' H2→R p i v H2→S ys v→Q' v H2)→te (w i++capV js σ) H' Q')
  (hq:∀ p vs H2,H p=none→Same H H2→H2 p=some (.lst vs)→vs.length=n→(∀ i,i < n→R p i (vs.getD i .non) H2)→(∀ i,i < n→S (vs.take i) (vs.getD i .non))→Q (.ref p) H2):zga J k js g tTT te σ H Q:=by
 intro p hp;refine ⟨fun i m σc H'=>m=n-i∧i≤n∧(∃ u:St,u.length=k∧σc=u++capV js σ)∧Same H H'∧∃ vs:List V,vs.length=i∧H' p=some (.lst vs)∧(∀ j,j < i→R p j (vs.getD j .non) H')∧∀ j,j < i→S (vs.take j) (vs.getD j .non),⟨n,by simp,Nat.zero_le _,⟨List.replicate k none,List.length_replicate,rfl⟩,zaY hp,[],rfl,zas,fun j hj=>absurd hj (by omega),fun j hj=>absurd hj (by omega)⟩,?_⟩;rintro i m σc H' ⟨rfl,hi,⟨u,hu,rfl⟩,s,vs,hvl,hpp,hR,hS⟩;have hsl:n < sizeLine:=za2 hz
 by_cases hlt:i < n
 ·refine .inr ⟨T.go i _ s hlt,fun σ' H'=>(∃ u:St,u.length=k∧σ'=u++capV js σ)∧Same H H'∧∃ vs:List V,vs.length=i+1∧H' p=some (.lst vs)∧(∀ j,j < i+1→R p j (vs.getD j .non) H')∧∀ j,j < i+1→S (vs.take j) (vs.getD j .non),fun σ' H' ⟨h1,h2,h3⟩=>⟨n-(i+1),by omega,rfl,hlt,h1,h2,h3⟩,fun v H2 hy=>?_⟩;refine T.yld i H' v H2 u _ s hlt hu hy fun H3 s3=>?_;refine r_tt ?_;rw [if_pos rfl];have hpp3:=s3 _ _ hpp;refine he p vs i _ _ hlt hp (s.trans s3) hpp3 hvl (fun j hj=>st p j _ _ _ (hR j hj) fun b o e _=>s3 b o e) fun v H5 s5 hv sv=>?_;refine ⟨vs,s5 _ _ hpp3,by omega,⟨w i,T.len i,rfl⟩,zdZ ((s.trans s3).trans s5) hp,vs++[v],by rw [List.length_append,hvl];rfl,zas,fun j hj=>?_,fun j hj=>?_⟩
  ·by_cases hji:j < i
   ·rw [zaw (by omega)];exact st p j _ _ _ (hR j hji) fun b o e nb=>by rw [zaJ nb];exact s5 _ _ (s3 _ _ e)
   ·have e0:j=vs.length:=by omega
    subst e0;rw [zau];exact st p _ _ _ _ (hvl▸hv) fun b o e nb=>by rw [zaJ nb];exact e
  ·by_cases hji:j < i
   ·rw [zaw (by omega),List.take_append_of_le_length (by omega)];exact hS j hji
   ·have e0:j=vs.length:=by omega
    subst e0;rw [zau,List.take_append_of_le_length (Nat.le_refl _),List.take_length];exact sv
 ·have e:i=n:=by omega
  subst e;exact .inl ⟨T.stop _ s,hq p vs _ hp s hpp hvl hR hS⟩
theorem zed {xs:List Int} {i:Nat} (h:i < xs.length):(xs.map V.int).getD i .non=.int (xs.getD i 0):=by
 rw [List.getD_eq_getElem?_getD,List.getElem?_map,List.getElem?_eq_getElem h,List.getD_eq_getElem?_getD,List.getElem?_eq_getElem h];rfl
theorem zbO {f:Str} {v:V}:∀ {fs:List (Str×V)} {n:Nat},fs.length < n→(putF f v fs).length < n+1
 | [],n,h=>by show 1 < n+1;have:0 < n:=h;omega
 | (g,x)::r,n,h=>by
  show (if g=f then (g,v)::r else (g,x)::putF f v r).length < n+1;have h':r.length+1 < n:=h;split
  ·show r.length+1 < n+1;omega
  ·show (putF f v r).length+1 < n+1;have:=zbO (f:=f) (v:=v) (fs:=r) (n:=n-1) (by omega);omega
theorem zcQ {α:Type} (xs:List α) (d:α):(List.range xs.length).map (fun i=>xs.getD i d)=xs:=by
 refine List.ext_getElem (by simp) fun i h1 h2=>?_;simp at h1 ⊢;rw [List.getElem?_eq_getElem h1];rfl
theorem zjK {p b:Addr} {xs ys:List V} (h:H p=some (.lst xs)) (h':H b=some (.lst ys)) (hz:xs.length+ys.length≤1000000) (q:∀ H2,But p H H2→H2 p=some (.lst (xs++ys))→Q .non H2):rExtend (.ref p) [.ref b] H Q :=
 ⟨p,b,xs,ys,rfl,rfl,h,h',by rw [sizeLine_eq];omega,q _ But.upd zas⟩
theorem RowsAt.ext {B H H2 H3:Hp} {p p2:Addr} {rs rs2:List (List Int)} (R:RowsAt B p rs H) (R2:RowsAt H p2 rs2 H2) :
  ∃ zs zs2:List V,H2 p=some (.lst zs)∧H2 p2=some (.lst zs2)∧zs.length=rs.length∧zs2.length=rs2.length∧(But p H2 H3→H3 p=some (.lst (zs++zs2))→RowsAt B p (rs++rs2) H3):=by
 obtain ⟨sb,hp,ps,h1,h2,nd,h3⟩:=R;obtain ⟨sb2,hp2,qs,k1,k2,nd2,k3⟩:=R2;refine ⟨_,_,sb2 _ _ h1,k1,by rw [List.length_map];exact h2,by rw [List.length_map];exact k2,fun b e=>?_⟩;have ne:∀ i,i < rs2.length→qs.getD i 0≠p:=fun i hi z=>by have:=(k3 i hi).2.1;rw [z,h1] at this;cases this
 refine ⟨(sb.trans sb2).but b hp,hp,ps++qs,by rw [e,List.map_append],by rw [List.length_append,List.length_append,h2,k2],?_,fun i hi=>?_⟩
 ·refine List.nodup_append.mpr ⟨nd,nd2,fun x hx y hy z=>?_⟩;subst z;obtain ⟨i,hi,ei⟩:=L2.mem_getD (d:=0) hx;obtain ⟨j,hj,ej⟩:=L2.mem_getD (d:=0) hy;have a1:=(h3 i (by omega)).1;have a2:=(k3 j (by omega)).2.1;rw [ei] at a1;rw [ej,a1] at a2
  cases a2
 ·rw [List.length_append] at hi
  by_cases hlt:i < rs.length
  ·rw [zaw (by omega),zaw hlt];obtain ⟨a1,a2,a3⟩:=h3 i hlt;exact ⟨by rw [b _ a3];exact sb2 _ _ a1,a2,a3⟩
  ·obtain ⟨j,rfl⟩:∃ j,i=rs.length+j:=⟨i-rs.length,by omega⟩
   have e1:(ps++qs).getD (rs.length+j) 0=qs.getD j 0:=by
    rw [List.getD_eq_getElem?_getD,List.getD_eq_getElem?_getD,List.getElem?_append_right (by omega)]
    congr 2;omega
   have e2:(rs++rs2).getD (rs.length+j) []=rs2.getD j []:=by
    rw [List.getD_eq_getElem?_getD,List.getD_eq_getElem?_getD,List.getElem?_append_right (by omega)]
    congr 2;omega
   rw [e1,e2];obtain ⟨a1,a2,a3⟩:=k3 j (by omega);exact ⟨by rw [b _ (ne j (by omega))];exact a1,sb.free a2,ne j (by omega)⟩
theorem zht (T:zcg J n k js σ g w H) (hz:n≤1000) (he:te=tDNewK)
  (hq:∀ p (ds:List Addr) H2,H p=none→Same H H2→H2 p=some (.lst (ds.map V.ref))→ds.length=n→ds.Nodup→(∀ i,i < n→H2 (ds.getD i 0)=some (.dK [])∧H (ds.getD i 0)=none∧ds.getD i 0≠p)→Q (.ref p) H2):zga J k js g tTT te σ H Q:=by
 subst he;refine zjJ T hz (fun p i v H2=>∃ q,v=.ref q∧H2 q=some (.dK [])∧H q=none∧q≠p) (fun ys v=>v∉ys) ?_ ?_ ?_
 ·rintro p i v H1 H2 ⟨q,rfl,h1,h2,h3⟩ k;exact ⟨q,rfl,k _ _ h1 h3,h2,h3⟩
 ·intro p ys i H' Q' hi hp s hpp hl hR q;refine zfD fun d H2 hd s2 e2=>q _ _ s2 ⟨d,rfl,e2,s.free hd,(zai hpp hd).symm⟩ fun hm=>?_;obtain ⟨j,hj,ej⟩:=L2.mem_getD (d:=V.non) hm;obtain ⟨q',e1,e3,_⟩:=hR j (by omega);rw [ej] at e1;have:d=q':=by injection e1
  rw [← this,hd] at e3
  cases e3
 ·intro p vs H2 hp s hpp hl hR hS;have:∃ ds:List Addr,vs=ds.map V.ref:=by
   refine ⟨vs.map fun v=>match v with | .ref a=>a | _=>0,?_⟩;rw [List.map_map];refine (List.map_id _).symm.trans (List.map_congr_left fun v hv=>?_);obtain ⟨j,hj,ej⟩:=L2.mem_getD (d:=V.non) hv;obtain ⟨q',e1,_⟩:=hR j (by omega);rw [ej] at e1;subst e1;rfl
  obtain ⟨ds,rfl⟩:=this;rw [List.length_map] at hl;have ed:∀ i,i < n→(ds.map V.ref).getD i .non=.ref (ds.getD i 0):=fun i hi=>by
   rw [List.getD_eq_getElem?_getD,List.getElem?_map,List.getElem?_eq_getElem (by omega),List.getD_eq_getElem?_getD,List.getElem?_eq_getElem (by omega)];rfl
  refine hq p ds H2 hp s hpp hl ?_ fun i hi=>?_
  ·refine List.pairwise_iff_getElem.mpr fun i j hi hj hlt e=>?_;have:=hS j (by omega);rw [ed j (by omega)] at this;refine this ?_;rw [← List.map_take];refine List.mem_map.mpr ⟨ds[i],?_,?_⟩
   ·exact List.mem_iff_getElem.mpr ⟨i,by rw [List.length_take];omega,by rw [List.getElem_take]⟩
   ·rw [List.getD_eq_getElem?_getD,List.getElem?_eq_getElem hj,e];rfl
  ·obtain ⟨q',e1,e2,e3,e4⟩:=hR i hi;rw [ed i hi] at e1;have:ds.getD i 0=q':=by injection e1
   rw [this];exact ⟨e2,e3,e4⟩
end
end L2
namespace Prf
open PySem PySem.Spec PyProof.Rows L2
section
variable {C x:Addr} {H H' H1 H2 H3:Hp} {e:ExAd} {st:ExS} {kvs:List (List (Key×V))} {F F':Addr→Prop}
structure ExNd (e:ExAd):Prop where
 xa:e.x≠e.a
 xb:e.x≠e.b
 xc:e.x≠e.c
 xd:e.x≠e.d
 xp:e.x∉e.ps
 xq:e.x∉e.qs
 xs:e.x∉e.ds
 ab:e.a≠e.b
 ac:e.a≠e.c
 ad:e.a≠e.d
 ap:e.a∉e.ps
 aq:e.a∉e.qs
 as:e.a∉e.ds
 bc:e.b≠e.c
 bd:e.b≠e.d
 bp:e.b∉e.ps
 bq:e.b∉e.qs
 bs:e.b∉e.ds
 cd:e.c≠e.d
 cp:e.c∉e.ps
 cq:e.c∉e.qs
 cs:e.c∉e.ds
 dp:e.d∉e.ps
 dq:e.d∉e.qs
 ds:e.d∉e.ds
 np:e.ps.Nodup
 nq:e.qs.Nodup
 nds:e.ds.Nodup
 pq:∀ b,b∈e.ps→b∉e.qs
 pds:∀ b,b∈e.ps→b∉e.ds
 qds:∀ b,b∈e.qs→b∉e.ds
theorem nd_iff:e.own.Nodup↔ExNd e:=by
 unfold ExAd.own;simp only [List.nodup_cons,List.mem_cons,List.mem_append,List.nodup_append,not_or];constructor
 ·rintro ⟨⟨xa,xb,xc,xd,xp,xq,xs⟩,⟨ab,ac,ad,ap,aq,as⟩,⟨bc,bd,bp,bq,bs⟩,⟨cd,cp,cq,cs⟩,⟨dp,dq,ds⟩,np,⟨nq,nds,qd⟩,pqd⟩;exact ⟨xa,xb,xc,xd,xp,xq,xs,ab,ac,ad,ap,aq,as,bc,bd,bp,bq,bs,cd,cp,cq,cs,dp,dq,ds,np,nq,nds,fun b h h'=>pqd b h b (.inl h') rfl,fun b h h'=>pqd b h b (.inr h') rfl,fun b h h'=>qd b h b h' rfl⟩
 ·intro N;exact ⟨⟨N.xa,N.xb,N.xc,N.xd,N.xp,N.xq,N.xs⟩,⟨N.ab,N.ac,N.ad,N.ap,N.aq,N.as⟩,⟨N.bc,N.bd,N.bp,N.bq,N.bs⟩,⟨N.cd,N.cp,N.cq,N.cs⟩,⟨N.dp,N.dq,N.ds⟩,N.np,⟨N.nq,N.nds,fun a h b h' z=>N.qds a h (z▸h')⟩,fun a h b h' z=>h'.elim (fun h'=>N.pq a h (z▸h')) fun h'=>N.pds a h (z▸h')⟩
theorem zcC.mono {n n' k:Nat} {en en':List (List Int)} {row:List Int} (h:zcC n en k row) (hn:n≤n') (he:∀ r,(zaH en k r).isSome=true→(zaH en' k r).isSome=true):zcC n' en' k row:=by
 obtain ⟨f,s,h1,h2,h3,h4⟩:=h;refine ⟨f,s,h1,h2,by omega,?_⟩;rcases h4 with h4 | ⟨t,h4,t1,t2,t3,t4,t5,t6⟩
 ·exact .inl h4
 ·exact .inr ⟨t,h4,t1,by omega,t3,t4,he _ t5,he _ t6⟩
theorem zcC.len {n k:Nat} {en:List (List Int)} {row:List Int} (h:zcC n en k row):row.length=2∨row.length=3:=by
 obtain ⟨f,s,h1,h2,h3,h4 | ⟨t,h4,_⟩⟩:=h
 ·exact .inl (by rw [h4];rfl)
 ·exact .inr (by rw [h4];rfl)
theorem zcC.rng {n k:Nat} {en:List (List Int)} {row:List Int} (h:zcC n en k row) {r:Int} (hr:r∈row):1≤r∧r≤n:=by
 obtain ⟨f,s,h1,h2,h3,h4 | ⟨t,h4,t1,t2,_⟩⟩:=h
 ·rw [h4] at hr;simp only [List.mem_cons,List.not_mem_nil,or_false] at hr;omega
 ·rw [h4] at hr;simp only [List.mem_cons,List.not_mem_nil,or_false] at hr;omega
theorem Wf.ofStep {st:ExS} (w:Wf st) {s:Int} (h:0≤s∧s≤100):Wf { st with step:=s }:=⟨w.ln,w.row,w.pts,h⟩
theorem zkT {st:ExS} (h:st.dl=none):st.nm=[]:=by unfold ExS.nm;rw [h];rfl
theorem Wf.ofPaper {st:ExS} (w:Wf st) (hd:st.dl=none) {h:Int}:Wf { st with hs:=st.hs++[h] }:=⟨fun z=>(by rw [show ({ st with hs:=st.hs++[h] }:ExS).dl=st.dl from rfl,hd] at z;cases z),w.row,w.pts,w.stp⟩
theorem Wf.ofReader {st:ExS} (w:Wf st) {r:List Int}:Wf { st with rs:=st.rs++[r] }:=⟨w.ln,fun k hk=>(w.row k hk).mono (by show _≤(st.rs++[r]).length;rw [List.length_append];omega) fun _ z=>z,w.pts,w.stp⟩
theorem Wf.ofDeal {st:ExS} (w:Wf st) {rows:List (List Int)} (h:zaT st.hs st.rs rows=true):Wf { st with dl:=some (rows,[]) }:=by
 obtain ⟨h1,h2,h3⟩:=zbi.mp h;refine ⟨fun _=>h1,fun k hk=>?_,fun k r p z=>(by cases z),w.stp⟩;have hk':k < rows.length:=hk;have hp:=h2 k (by omega);show zcC st.rs.length [] k (rows.getD k []);unfold zb8 at hp;simp only [Bool.and_eq_true,decide_eq_true_eq,List.all_eq_true] at hp;obtain ⟨⟨l2,ha⟩,hlt⟩:=hp
 match hr:rows.getD k [],l2 with
 | [f,s],_ =>
   rw [hr] at ha hlt;have hf:=ha f (by simp);have hs:=ha s (by simp);have hlt':f < s:=hlt;exact ⟨f,s,by omega,hlt',by omega,.inl rfl⟩
theorem Wf.ofEnter {st:ExS} {nm en:List (List Int)} (w:Wf st) (hdl:st.dl=some (nm,en)) {k r p:Int} (h:0≤p∧p≤100):Wf { st with dl:=some (nm,en++[[k,r,p]]) }:=by
 have enm:st.nm=nm:=by unfold ExS.nm;rw [hdl];rfl
 have een:st.en=en:=by unfold ExS.en;rw [hdl];rfl
 have hs:∀ j r',(zaH en j r').isSome=true→(zaH (en++[[k,r,p]]) j r').isSome=true:=fun j r' z=>by
  rw [zcb];split
  ·rfl
  ·exact z
 refine ⟨fun _=>by show nm.length=_;rw [← enm];exact w.ln (by rw [hdl];rfl),fun j hj=>?_,fun j r' p' z=>?_,w.stp⟩
 ·have:=w.row j (by rw [enm];exact hj);rw [enm,een] at this;exact this.mono (Nat.le_refl _) (hs j)
 ·have z':zaH (en++[[k,r,p]]) j r'=some p':=z;rw [zcb] at z';split at z'
  ·have:p=p':=Option.some.inj z';omega
  ·exact w.pts j r' p' (by rw [een];exact z')
theorem Wf.ofThird {st:ExS} {nm en:List (List Int)} (w:Wf st) (hdl:st.dl=some (nm,en)) {k:Nat} {f s t:Int} (hk:k < nm.length) (hr:nm.getD k []=[f,s]) (ht:1≤t∧t≤st.rs.length) (hn:t∉[f,s]) (hf:(zaH en k f).isSome=true) (hs:(zaH en k s).isSome=true):Wf { st with dl:=some (nm.set k (nm.getD k []++[t]),en) }:=by
 have enm:st.nm=nm:=by unfold ExS.nm;rw [hdl];rfl
 have een:st.en=en:=by unfold ExS.en;rw [hdl];rfl
 have ls:(nm.set k (nm.getD k []++[t])).length=nm.length:=List.length_set;refine ⟨fun _=>by show (nm.set k _).length=_;rw [ls,← enm];exact w.ln (by rw [hdl];rfl),fun j hj=>?_,fun j r' p' z=>w.pts j r' p' (by rw [een];exact z),w.stp⟩;have hj':j < nm.length:=by rw [← ls];exact hj
 have:=w.row j (by rw [enm];exact hj');rw [enm,een] at this;show zcC st.rs.length en j ((nm.set k (nm.getD k []++[t])).getD j []);rw [zbf hk]
 by_cases z:j=k
 ·subst z;rw [if_pos rfl,hr];rw [hr] at this;obtain ⟨f',s',h1,h2,h3,h4 | ⟨t',h4,_⟩⟩:=this
  ·injection h4 with a b;injection b with b c;subst a b;simp only [List.mem_cons,List.not_mem_nil,or_false,not_or] at hn;exact ⟨f,s,h1,h2,h3,.inr ⟨t,rfl,ht.1,ht.2,hn.1,hn.2,hf,hs⟩⟩
  ·simp at h4
 ·rw [if_neg z];exact this
theorem ExIn.N (E:ExIn C H e st kvs):ExNd e:=nd_iff.mp E.nd
theorem ExIn.at (E:ExIn C H e st kvs):ExAt C H e.x (fun b=>b∈e.own) st:=⟨e,kvs,rfl,fun _=>Iff.rfl,E⟩
theorem zbj {b p:Addr} {l:List Addr} (h:p∉l) (hb:b∈l):b≠p:=fun z=>h (z▸hb)
theorem ExIn.ip (E:ExIn C H e st kvs) {i:Nat} (hi:i < st.rs.length):e.ps.getD i 0∈e.ps:=zcN (by have:=E.lp;omega)
theorem ExIn.iq (E:ExIn C H e st kvs) {i:Nat} (hi:i < st.nm.length):e.qs.getD i 0∈e.qs:=zcN (by have:=E.lq;omega)
theorem ExIn.is (E:ExIn C H e st kvs) {i:Nat} (hi:i < st.nm.length):e.ds.getD i 0∈e.ds:=zcN (by have:=E.ld;omega)
theorem ExIn.setStep (E:ExIn C H e st kvs) {s:Int} (b:But e.x H H') (h:H' e.x=some (.ins C e.dx (putF "widest_step" (.int s) (exFs (.ref e.a) (.ref e.b) (.int st.step) (.bl st.dl.isSome) (.ref e.c) (.ref e.d))))) (wf:0≤s∧s≤100):ExIn C H' e { st with step:=s } kvs:=by
 have N:=E.N;rw [exFs_ps] at h;exact ⟨h,by rw [b _ N.xa.symm];exact E.ha,by rw [b _ N.xb.symm];exact E.hb,by rw [b _ N.xc.symm];exact E.hc,by rw [b _ N.xd.symm];exact E.hd,E.lp,E.lq,E.ld,fun i hi=>by rw [b _ (zbj N.xp (E.ip hi))];exact E.rp i hi,fun i hi=>by rw [b _ (zbj N.xq (E.iq hi))];exact E.rq i hi,fun i hi=>by rw [b _ (zbj N.xs (E.is hi))];exact E.rd i hi,E.vk,E.sk,E.lk,E.nd,E.wf.ofStep wf⟩
theorem ExIn.paper (E:ExIn C H e st kvs) (hd:st.dl=none) {h:Int} (b:But e.a H H') (h1:H' e.a=some (.lst (st.hs.map V.int++[.int h]))):ExIn C H' e { st with hs:=st.hs++[h] } kvs:=by
 have N:=E.N;exact ⟨by rw [b _ N.xa];exact E.ob,by rw [h1,List.map_append];rfl,by rw [b _ N.ab.symm];exact E.hb,by rw [b _ N.ac.symm];exact E.hc,by rw [b _ N.ad.symm];exact E.hd,E.lp,E.lq,E.ld,fun i hi=>by rw [b _ (zbj N.ap (E.ip hi))];exact E.rp i hi,fun i hi=>by rw [b _ (zbj N.aq (E.iq hi))];exact E.rq i hi,fun i hi=>by rw [b _ (zbj N.as (E.is hi))];exact E.rd i hi,E.vk,E.sk,E.lk,E.nd,E.wf.ofPaper hd⟩
theorem ExIn.reader (E:ExIn C H e st kvs) {row:List Int} {r:Addr} (hr:r∉e.own) (er:H r=some (.lst (row.map V.int))) (b:But e.b H H') (h1:H' e.b=some (.lst (e.ps.map V.ref++[.ref r]))):ExIn C H' { e with ps:=e.ps++[r] } { st with rs:=st.rs++[row] } kvs:=by
 have N:=E.N;have lp:=E.lp;have nrb:r≠e.b:=fun z=>hr (z▸own_b);refine ⟨by rw [b _ N.xb];exact E.ob,by rw [b _ N.ab];exact E.ha,by rw [h1,List.map_append];rfl,by rw [b _ N.bc.symm];exact E.hc,by rw [b _ N.bd.symm];exact E.hd,by show (e.ps++[r]).length=(st.rs++[row]).length;rw [List.length_append,List.length_append,lp];rfl,E.lq,E.ld,fun i hi=>?_,fun i hi=>by rw [b _ (zbj N.bq (E.iq hi))];exact E.rq i hi,fun i hi=>by rw [b _ (zbj N.bs (E.is hi))];exact E.rd i hi,E.vk,E.sk,E.lk,?_,E.wf.ofReader⟩
 ·have hi':i < (st.rs++[row]).length:=hi;rw [List.length_append,List.length_singleton] at hi';show H' ((e.ps++[r]).getD i 0)=some (.lst (((st.rs++[row]).getD i []).map V.int))
  by_cases z:i < st.rs.length
  ·rw [zaw (by omega),zaw z,b _ (zbj N.bp (E.ip z))];exact E.rp i z
  ·have z':i=st.rs.length:=by omega
   subst z';rw [zau,← lp,zau,b _ nrb];exact er
 ·refine nd_iff.mpr ⟨N.xa,N.xb,N.xc,N.xd,?_,N.xq,N.xs,N.ab,N.ac,N.ad,?_,N.aq,N.as,N.bc,N.bd,?_,N.bq,N.bs,N.cd,?_,N.cq,N.cs,?_,N.dq,N.ds,?_,N.nq,N.nds,?_,?_,N.qds⟩
  ·exact fun h=>(List.mem_append.mp h).elim N.xp fun h=>hr (List.mem_singleton.mp h▸own_x)
  ·exact fun h=>(List.mem_append.mp h).elim N.ap fun h=>hr (List.mem_singleton.mp h▸own_a)
  ·exact fun h=>(List.mem_append.mp h).elim N.bp fun h=>hr (List.mem_singleton.mp h▸own_b)
  ·exact fun h=>(List.mem_append.mp h).elim N.cp fun h=>hr (List.mem_singleton.mp h▸own_c)
  ·exact fun h=>(List.mem_append.mp h).elim N.dp fun h=>hr (List.mem_singleton.mp h▸own_d)
  ·exact List.nodup_append.mpr ⟨N.np,by simp,fun c hc d hd z=>hr (by rw [← List.mem_singleton.mp hd,← z];exact zjG hc)⟩
  ·exact fun c hc=>(List.mem_append.mp hc).elim (N.pq c) fun h z=>hr (by rw [← List.mem_singleton.mp h];exact zjH z)
  ·exact fun c hc=>(List.mem_append.mp hc).elim (N.pds c) fun h z=>hr (by rw [← List.mem_singleton.mp h];exact zgV z)
theorem zhu {r b:Addr} (h:b∈({ e with ps:=e.ps++[r] }:ExAd).own):b∈e.own∨b=r:=by
 unfold ExAd.own at h ⊢;simp only [List.mem_cons,List.mem_append,List.not_mem_nil,or_false] at h ⊢;rcases h with h | h | h | h | h | (h | h) | h | h <;> simp [h]
theorem ze2 (E:ExIn C H e st kvs) {b:Addr} (h:H b=none):b≠e.x∧b≠e.a∧b≠e.b∧b≠e.c∧b≠e.d∧b∉e.ps∧b∉e.qs∧b∉e.ds:=by
 have n:=E.new h;exact ⟨fun z=>n (z▸own_x),fun z=>n (z▸own_a),fun z=>n (z▸own_b),fun z=>n (z▸own_c),fun z=>n (z▸own_d),fun z=>n (zjG z),fun z=>n (zjH z),fun z=>n (zgV z)⟩
theorem ExIn.deal {p q:Addr} {rows:List (List Int)} {ds:List Addr} {H5:Hp} (E:ExIn C H e st kvs) (hr:zaT st.hs st.rs rows=true) (R:RowsAt H p rows H1) (k:∀ b o,H1 b=some o→b≠e.x→H5 b=some o)
  (hx:H5 e.x=some (.ins C e.dx (exFs (.ref e.a) (.ref e.b) (.int st.step) (.bl true) (.ref p) (.ref q)))) (hq:H5 q=some (.lst (ds.map V.ref))) (nq:H1 q=none) (ld:ds.length=rows.length) (nd:ds.Nodup)
  (hd:∀ i,i < rows.length→H5 (ds.getD i 0)=some (.dK [])∧H1 (ds.getD i 0)=none∧ds.getD i 0≠q) :
  ∃ e',e'.x=e.x∧ExIn C H5 e' { st with dl:=some (rows,[]) } (rows.map fun _=>[])∧∀ b∈e'.own,b∈e.own∨H b=none:=by
 obtain ⟨s,np,qs,hp,lq,ndq,hrow⟩:=R;have N:=E.N;have hf:∀ {b o},H b=some o→b≠e.x→H5 b=some o:=fun h n=>k _ _ (s _ _ h) n;have mq:∀ b∈qs,H b=none∧b≠p∧∃ o,H1 b=some o:=fun b hb=>by
  obtain ⟨i,hi,ei⟩:=L2.mem_getD (d:=0) hb;obtain ⟨h1,h2,h3⟩:=hrow i (by omega);rw [ei] at h1 h2 h3;exact ⟨h2,h3,_,h1⟩
 have md:∀ b∈ds,H1 b=none∧b≠q:=fun b hb=>by
  obtain ⟨i,hi,ei⟩:=L2.mem_getD (d:=0) hb;obtain ⟨h1,h2,h3⟩:=hd i (by omega);rw [ei] at h1 h2 h3;exact ⟨h2,h3⟩
 have nqH:H q=none:=s.free nq;have P:=ze2 E np;have Q:=ze2 E nqH;have D:=fun {b} hb=>ze2 E (s.free (md b hb).1);have M:=fun {b} hb=>ze2 E (mq b hb).1;refine ⟨{ e with c:=p,d:=q,qs:=qs,ds:=ds },rfl,⟨hx,hf E.ha N.xa.symm,hf E.hb N.xb.symm,k _ _ hp P.1,hq,E.lp,lq,ld,fun i hi=>hf (E.rp i hi) (zbj N.xp (E.ip hi)),fun i hi=>?_,fun i hi=>?_,fun i hi r=>?_,fun i hi=>?_,by show (rows.map fun _=>_).length=rows.length;rw [List.length_map],nd_iff.mpr ?_,E.wf.ofDeal hr⟩,?_⟩
 ·exact k _ _ (hrow i hi).1 (M (zcN (show i < qs.length by rw [lq];exact hi))).1
 ·have hi':i < rows.length:=hi;have e0:(rows.map fun _=>([]:List (Key×V))).getD i []=[]:=by rw [List.getD_eq_getElem?_getD,List.getElem?_map,List.getElem?_eq_getElem hi'];rfl
  rw [e0];exact (hd i hi).1
 ·have hi':i < rows.length:=hi;have e0:(rows.map fun _=>([]:List (Key×V))).getD i []=[]:=by rw [List.getD_eq_getElem?_getD,List.getElem?_map,List.getElem?_eq_getElem hi'];rfl
  rw [e0];rfl
 ·have hi':i < rows.length:=hi;have e0:(rows.map fun _=>([]:List (Key×V))).getD i []=[]:=by rw [List.getD_eq_getElem?_getD,List.getElem?_map,List.getElem?_eq_getElem hi'];rfl
  rw [e0];exact Nat.zero_le _
 ·exact ⟨N.xa,N.xb,P.1.symm,Q.1.symm,N.xp,fun h=>(M h).1 rfl,fun h=>(D h).1 rfl,N.ab,P.2.1.symm,Q.2.1.symm,N.ap,fun h=>(M h).2.1 rfl,fun h=>(D h).2.1 rfl,P.2.2.1.symm,Q.2.2.1.symm,N.bp,fun h=>(M h).2.2.1 rfl,fun h=>(D h).2.2.1 rfl,
   fun z=>(by rw [← show p=q from z,hp] at nq;cases nq),P.2.2.2.2.2.1,fun h=>(mq _ h).2.1 rfl,fun h=>(by have:=(md _ h).1;rw [hp] at this;cases this),Q.2.2.2.2.2.1,fun h=>(by obtain ⟨o,z⟩:=(mq _ h).2.2;rw [nq] at z;cases z),fun h=>(md _ h).2 rfl,N.np,ndq,nd,
   fun b h h'=>(M h').2.2.2.2.2.1 h,fun b h h'=>(D h').2.2.2.2.2.1 h,fun b h h'=>(by obtain ⟨o,z⟩:=(mq _ h).2.2;rw [(md _ h').1] at z;cases z)⟩
 ·intro b hb;unfold ExAd.own at hb;simp only [List.mem_cons,List.mem_append] at hb;rcases hb with h | h | h | h | h | h | h | h
  ·exact .inl (h▸own_x)
  ·exact .inl (h▸own_a)
  ·exact .inl (h▸own_b)
  ·exact .inr (h▸np)
  ·exact .inr (h▸nqH)
  ·exact .inl (zjG h)
  ·exact .inr (mq _ h).1
  ·exact .inr (s.free (md _ h).1)
theorem za0 {α:Type} {xs:List α} {k i:Nat} {v d:α} (hk:k < xs.length):(xs.set k v).getD i d=if i=k then v else xs.getD i d:=by
 rw [List.getD_eq_getElem?_getD,List.getElem?_set]
 by_cases h:i=k
 ·subst h;rw [if_pos rfl,if_pos rfl,if_pos hk];rfl
 ·rw [if_neg (fun z=>h z.symm),if_neg h,List.getD_eq_getElem?_getD]
theorem zcj {ps:List Addr} (nd:ps.Nodup) {i j:Nat} (hi:i < ps.length) (hj:j < ps.length) (h:ps.getD i 0=ps.getD j 0):i=j:=by
 rw [List.getD_eq_getElem?_getD,List.getD_eq_getElem?_getD,List.getElem?_eq_getElem hi,List.getElem?_eq_getElem hj] at h;exact (List.getElem_inj nd).mp h
theorem ExIn.enter {nm en:List (List Int)} {k:Nat} {r pts:Int} (E:ExIn C H e st kvs) (hdl:st.dl=some (nm,en)) (hk:k < nm.length) (hpt:0≤pts∧pts≤100) (b:But (e.ds.getD k 0) H H')
  (h1:H' (e.ds.getD k 0)=some (.dK (putK (kvs.getD k []) (Sum.inl r:Key) (.int pts)))) :
  ExIn C H' e { st with dl:=some (nm,en++[[(k:Int)+1,r,pts]]) } (kvs.set k (putK (kvs.getD k []) (Sum.inl r:Key) (.int pts))):=by
 have N:=E.N;have enm:st.nm=nm:=by unfold ExS.nm;rw [hdl];rfl
 have een:st.en=en:=by unfold ExS.en;rw [hdl];rfl
 have ld:=E.ld;have lk:=E.lk;rw [enm] at ld lk;have hm:e.ds.getD k 0∈e.ds:=zcN (by omega);have ne:∀ {l},l∉e.ds→l≠e.ds.getD k 0:=fun h z=>h (z▸hm);have hs:st.dl.isSome=true:=by rw [hdl];rfl
 have ob:=E.ob;rw [hs] at ob;refine ⟨by rw [b _ (ne N.xs)];exact ob,by rw [b _ (ne N.as)];exact E.ha,by rw [b _ (ne N.bs)];exact E.hb,by rw [b _ (ne N.cs)];exact E.hc,by rw [b _ (ne N.ds)];exact E.hd,E.lp,by have:=E.lq;rw [enm] at this;exact this,ld,fun i hi=>?_,fun i hi=>?_,fun i hi=>?_,fun i hi r'=>?_,fun i hi=>?_,by rw [List.length_set];exact lk,E.nd,E.wf.ofEnter hdl hpt⟩
 ·rw [b _ (ne (N.pds _ (E.ip hi)))];exact E.rp i hi
 ·have hi':i < st.nm.length:=by rw [enm];exact hi
  have:=E.rq i hi';rw [enm] at this;rw [b _ (ne (N.qds _ (E.iq hi')))];exact this
 ·have hi':i < nm.length:=hi;rw [za0 (by omega)]
  by_cases z:i=k
  ·subst z;rw [if_pos rfl];exact h1
  ·rw [if_neg z,b _ (fun w=>z (zcj N.nds (by omega) (by omega) w))];exact E.rd i (by rw [enm];exact hi)
 ·have hi':i < nm.length:=hi;have hv:=E.vk i (by rw [enm];exact hi) r';rw [een] at hv;show valV _ _=(zaH (en++[[(k:Int)+1,r,pts]]) i r').map V.int;rw [za0 (by omega),zcb]
  by_cases z:i=k
  ·subst z;rw [if_pos rfl,zjf]
   by_cases zr:r'=r
   ·subst zr;rw [if_pos rfl,if_pos ⟨rfl,rfl⟩];rfl
   ·rw [if_neg (fun w=>zr (Sum.inl.inj w)),if_neg (fun w=>zr w.2.symm)];exact hv
  ·rw [if_neg z,if_neg (fun w=>z (by have h2:(k:Int)+1=(i:Int)+1:=w.1;omega))];exact hv
 ·have hi':i < nm.length:=hi;have hv:=E.sk i (by rw [enm];exact hi);rw [een] at hv;show _≤(en++[_]).length;rw [za0 (by omega),List.length_append,List.length_singleton]
  by_cases z:i=k
  ·subst z;rw [if_pos rfl];have:=zc1 (kvs.getD i []) (Sum.inl r:Key) (.int pts);omega
  ·rw [if_neg z];omega
theorem ExIn.third {nm en:List (List Int)} {k:Nat} {t:Int} (E:ExIn C H e st kvs) (hdl:st.dl=some (nm,en)) (hk:k < nm.length) {f s:Int} (hrow:nm.getD k []=[f,s]) (ht:1≤t∧t≤st.rs.length) (hn:t∉[f,s]) (hf:(zaH en k f).isSome=true) (hs':(zaH en k s).isSome=true) (b:But (e.qs.getD k 0) H H')
  (h1:H' (e.qs.getD k 0)=some (.lst ((nm.getD k []).map V.int++[.int t]))) :
  ExIn C H' e { st with dl:=some (nm.set k (nm.getD k []++[t]),en) } kvs:=by
 have N:=E.N;have enm:st.nm=nm:=by unfold ExS.nm;rw [hdl];rfl
 have een:st.en=en:=by unfold ExS.en;rw [hdl];rfl
 have lq:=E.lq;have lk:=E.lk;rw [enm] at lq lk;have hm:e.qs.getD k 0∈e.qs:=zcN (by omega);have ne:∀ {l},l∉e.qs→l≠e.qs.getD k 0:=fun h z=>h (z▸hm);have hs:st.dl.isSome=true:=by rw [hdl];rfl
 have ob:=E.ob;rw [hs] at ob;have ls:(nm.set k (nm.getD k []++[t])).length=nm.length:=List.length_set;refine ⟨by rw [b _ (ne N.xq)];exact ob,by rw [b _ (ne N.aq)];exact E.ha,by rw [b _ (ne N.bq)];exact E.hb,by rw [b _ (ne N.cq)];exact E.hc,by rw [b _ (ne N.dq)];exact E.hd,E.lp,lq.trans ls.symm,by have:=E.ld;rw [enm] at this;exact this.trans ls.symm,fun i hi=>?_,fun i hi=>?_,fun i hi=>?_,fun i hi r'=>?_,fun i hi=>?_,lk.trans ls.symm,E.nd,E.wf.ofThird hdl hk hrow ht hn hf hs'⟩
 ·rw [b _ (ne (N.pq _ (E.ip hi)))];exact E.rp i hi
 ·have hi':i < nm.length:=by rw [← ls];exact hi
  show H' _=some (.lst (((nm.set k (nm.getD k []++[t])).getD i []).map V.int));rw [za0 hk]
  by_cases z:i=k
  ·subst z;rw [if_pos rfl,h1,List.map_append];rfl
  ·rw [if_neg z,b _ (fun w=>z (zcj N.nq (by omega) (by omega) w))];have:=E.rq i (by rw [enm];exact hi');rw [enm] at this;exact this
 ·have hi':i < nm.length:=by rw [← ls];exact hi
  rw [b _ (fun w=>N.qds _ hm (by rw [← w];exact E.is (by rw [enm];exact hi')))];exact E.rd i (by rw [enm];exact hi')
 ·have hi':i < nm.length:=by rw [← ls];exact hi
  have hv:=E.vk i (by rw [enm];exact hi') r';rw [een] at hv;exact hv
 ·have hi':i < nm.length:=by rw [← ls];exact hi
  have hv:=E.sk i (by rw [enm];exact hi');rw [een] at hv;exact hv
end
theorem Wf.n10 {st:ExS} (w:Wf st) (B:InB st.hs st.rs):st.nm.length≤10:=by
 cases h:st.dl with
 | none=>rw [zkT h];exact Nat.zero_le _
 | some d=>rw [w.ln (by rw [h];rfl)];exact B.lp
theorem ExAt.wf {C x:Addr} {H:Hp} {F:Addr→Prop} {st:ExS} (E:ExAt C H x F st):Wf st:=by
 obtain ⟨e,kvs,_,_,I⟩:=E;exact I.wf
def zaQ (nm en:List (List Int)) (k:Nat):List Int:=(nm.getD k []).filter fun r=>(zaH en k r).isNone
def dueB (nm en:List (List Int)):List (List Int):=(List.range nm.length).flatMap fun k=>(zaQ nm en k).map fun r=>[(k:Int)+1,r]
def dueS (st:ExS):List (List Int):=dueB st.nm st.en
def zdV (nm en:List (List Int)) (k:Nat):List Int:=(nm.getD k []).map fun r=>(zaH en k r).getD 0
def zgg (st:ExS):List Int:=zaZ st.rs st.nm
theorem zcD (nm en:List (List Int)) (i:Nat) (h:i < nm.length):((List.range (i+1)).flatMap fun k=>(zaQ nm en k).map fun r=>[(k:Int)+1,r])=((List.range i).flatMap fun k=>(zaQ nm en k).map fun r=>[(k:Int)+1,r])++(zaQ nm en i).map fun r=>[(i:Int)+1,r]:=by
 rw [List.range_succ,List.flatMap_append,List.flatMap_singleton]
theorem zgh (nm en:List (List Int)) (k:Nat):(zaQ nm en k).length≤(nm.getD k []).length:=List.length_filter_le _ _
theorem zkU (nm en:List (List Int)) (k:Nat):(zdV nm en k).length=(nm.getD k []).length:=by unfold zdV;rw [List.length_map]
theorem zgW {nm en:List (List Int)} {k:Nat} (h:zaQ nm en k=[]) {r:Int} (hr:r∈nm.getD k []):∃ p,zaH en k r=some p:=by
 cases e:zaH en k r with
 | some p=>exact ⟨p,rfl⟩
 | none =>
   have:r∈zaQ nm en k:=List.mem_filter.mpr ⟨hr,by rw [e];rfl⟩;rw [h] at this
   cases this
end Prf
namespace L2
open PySem PySem.Spec PyProof.Rows
section
variable {X:Cx} {K:PySem.W.Frag}
variable {H:Hp} {Q:VK} {a:Addr} {ns:List Int}
end
end L2
namespace Prf
open PySem PySem.Spec PyProof.Rows L2
theorem zcC.sorted {n k:Nat} {nm en:List (List Int)} (h:zcC n en k (nm.getD k [])):(zaQ nm en k).Pairwise (·≤·):=by
 unfold zaQ;obtain ⟨f,s,h1,h2,h3,h4 | ⟨t,h4,_,_,_,_,t5,t6⟩⟩:=h
 ·rw [h4];refine List.Pairwise.filter _ ?_;simp;omega
 ·rw [h4];have e1:(zaH en k f).isNone=false:=by rw [← Option.not_isSome,t5];rfl
  have e2:(zaH en k s).isNone=false:=by rw [← Option.not_isSome,t6];rfl
  rw [List.filter_cons,e1,List.filter_cons,e2];refine List.Pairwise.filter _ ?_;simp
theorem zcC.nodup {n k:Nat} {en:List (List Int)} {row:List Int} (h:zcC n en k row):row.Nodup:=by
 obtain ⟨f,s,h1,h2,h3,h4 | ⟨t,h4,_,_,t1,t2,_⟩⟩:=h
 ·rw [h4];simp;omega
 ·rw [h4];simp;exact ⟨⟨by omega,fun z=>t1 z.symm⟩,fun z=>t2 z.symm⟩
theorem ziM {xs ys:List Int} (p:xs.Perm ys) (h1:xs.Pairwise (·≤·)) (h2:ys.Pairwise (·≤·)):xs=ys:=List.Perm.eq_of_pairwise (le:=(·≤·)) (fun a b _ _=>Int.le_antisymm) h1 h2 p
theorem ziN {nm en:List (List Int)} {x:List Int} (h:x∈dueB nm en):∃ k r,k < nm.length∧r∈zaQ nm en k∧x=[(k:Int)+1,r]:=by
 unfold dueB at h;obtain ⟨k,hk,h2⟩:=List.mem_flatMap.mp h;obtain ⟨r,hr,e⟩:=List.mem_map.mp h2;exact ⟨k,r,List.mem_range.mp hk,hr,e.symm⟩
theorem zl0 {st:ExS} (w:Wf st):(dueB st.nm st.en).length≤3 * st.nm.length:=by
 have key:∀ i,i≤st.nm.length→((List.range i).flatMap fun k=>(zaQ st.nm st.en k).map fun r=>[(k:Int)+1,r]).length≤3 * i:=fun i=>by
  induction i with
  | zero=>intro _;simp
  | succ i ih =>
    intro hi;rw [zcD _ _ _ (by omega),List.length_append,List.length_map];have h1:=ih (by omega);have h2:=zgh st.nm st.en i;have h3:=(w.row i (by omega)).len;omega
 exact key st.nm.length (Nat.le_refl _)
theorem _root_.L2.RowsAt.mono {B H H':Hp} {p:Addr} {rs:List (List Int)} (R:RowsAt B p rs H) (s:Same H H'):RowsAt B p rs H':=by
 obtain ⟨a,b,ps,h1,h2,h3,h4⟩:=R;exact ⟨a.trans s,b,ps,s _ _ h1,h2,h3,fun i hi=>⟨s _ _ (h4 i hi).1,(h4 i hi).2⟩⟩
section
variable {H H':Hp} {l:LdA} {hs:List Int} {rs nm en:List (List Int)} {K:PySem.W.Frag}
end
end Prf
namespace L2
open PySem PySem.Spec PyProof.Rows
section
variable {X:Cx} {K:PySem.W.Frag}
def rEqE (K:PySem.W.Frag):R2:=fun x y H Q=>∃ a b xs,x=.ref a∧y=.ref b∧SqL K H a xs∧SqL K H b []∧Q (.bl (decide (xs=[]))) H
def rNeE (K:PySem.W.Frag):R2:=fun x y H Q=>∃ a b xs,x=.ref a∧y=.ref b∧SqL K H a xs∧SqL K H b []∧Q (.bl (!decide (xs=[]))) H
theorem zl1 (hu:X.A.units < cLine):OpR X (compareOp .Eq) (rEqE X.K):=by
 intro pins s σ H x y v u Q I rx ry h;obtain ⟨a,b,xs,rfl,rfl,h1,h2,q⟩:=h
 cases rx
 cases ry
 obtain ⟨its1,r1,p1,z1⟩:=I.list h1;obtain ⟨its2,r2,p2,z2⟩:=I.list h2;have l1:=r1.length;have l2:its2.length=0:=r2.length.symm
 by_cases hl:xs=[]
 ·subst hl;have l1':its1.length=0:=l1.symm;refine SeqAt.eq_listAt (e:=fun _=>true) p1.isList p2.isList (by simp;omega) hu (fun j h1 h2=>by simp at h1;omega) ⟨.bl _,H,I,rfl,?_⟩;rw [List.size_toArray,l1'];rw [decide_eq_true rfl] at q;exact q
 ·have:xs.length≠0:=fun z=>hl (List.eq_nil_of_length_eq_zero z);refine SeqAt.eq_list_lengthsAt p1.isList p2.isList (by simp;omega) hu ⟨.bl false,H,I,rfl,?_⟩;rw [decide_eq_false hl] at q;exact q
theorem zl2 (hu:X.A.units < cLine):OpR X (compareOp .NotEq) (rNeE X.K):=by
 intro pins s σ H x y v u Q I rx ry h;obtain ⟨a,b,xs,rfl,rfl,h1,h2,q⟩:=h
 cases rx
 cases ry
 obtain ⟨its1,r1,p1,z1⟩:=I.list h1;obtain ⟨its2,r2,p2,z2⟩:=I.list h2;have l1:=r1.length;have l2:its2.length=0:=r2.length.symm
 by_cases hl:xs=[]
 ·subst hl;have l1':its1.length=0:=l1.symm;refine SeqAt.RcNeAt.lists (e:=fun _=>true) p1.isList p2.isList (by simp;omega) hu (fun j h1 h2=>by simp at h1;omega) _ _ _ _ ⟨.bl _,H,I,rfl,?_⟩;rw [List.size_toArray,l1'];rw [decide_eq_true rfl] at q;exact q
 ·have:xs.length≠0:=fun z=>hl (List.eq_nil_of_length_eq_zero z);refine SeqAt.RcNeAt.lists_lengths p1.isList p2.isList (by simp;omega) hu _ _ _ _ ⟨.bl true,H,I,rfl,?_⟩;rw [decide_eq_false hl] at q;exact q
def rEq2 (K:PySem.W.Frag):R2:=fun x y H Q=>zjn K x y H Q∨rEqE K x y H Q
def rNe2 (K:PySem.W.Frag):R2:=fun x y H Q=>rNeG K x y H Q∨rNeE K x y H Q
theorem zcR (h:X.K=K) (hu:X.A.units < cLine):OpR X (compareOp .Eq) (rEq2 K):=(zkF h hu).or (h▸zl1 hu)
theorem zcS (h:X.K=K) (hu:X.A.units < cLine):OpR X (compareOp .NotEq) (rNe2 K):=(zlm h).or (h▸zl2 hu)
section
variable {H:Hp} {Q:VK} {i j:Int}
theorem zl3 (q:Q (.bl (decide (i=j))) H):rEq2 K (.int i) (.int j) H Q:=.inl (zkG q)
theorem zl4 {a b:Bool} (q:Q (.bl (decide (a=b))) H):rEq2 K (.bl a) (.bl b) H Q:=.inl (zkH q)
theorem zl6 {a b:Addr} {xs:List V} (h1:SqL K H a xs) (h2:SqL K H b []) (q:Q (.bl (decide (xs=[]))) H):rEq2 K (.ref a) (.ref b) H Q:=.inr ⟨a,b,xs,rfl,rfl,h1,h2,q⟩
theorem zl7 (q:Q (.bl (!decide (i=j))) H):rNe2 K (.int i) (.int j) H Q:=.inl (zj5 q)
theorem zl8 {a b:Bool} (q:Q (.bl (!decide (a=b))) H):rNe2 K (.bl a) (.bl b) H Q:=.inl (zj6 q)
end
end
end L2
namespace Prf
open PySem PySem.Spec PyProof.Rows L2
def fitT (hs:List Int) (rs:List (List Int)) (left:List Int) (k:Int) (row:List Int) (i:Nat):Bool :=
 !decide ((rs.getD i []).getD 0 0=hs.getD (k-1).toNat 0) && decide (1≤left.getD i 0) && !decide ((i:Int)+1∈row)
def trd (fit:Nat→Bool) (n:Nat):Nat→Int
 | 0=>0
 | i+1=>if fit (n-(i+1))=true then ((n-(i+1):Nat):Int)+1 else trd fit n i
theorem zj7 {fit:Nat→Bool} {n k:Nat} (h:k < n):trd fit n (n-k)=if fit k=true then (k:Int)+1 else trd fit n (n-(k+1)):=by
 have e:n-k=(n-(k+1))+1:=by omega
 rw [e];show (if fit (n-(n-(k+1)+1))=true then ((n-(n-(k+1)+1):Nat):Int)+1 else _)=_;have e2:n-(n-(k+1)+1)=k:=by omega
 rw [e2]
theorem ziO {fit:Nat→Bool} {n:Nat}:∀ i,i≤n→0≤trd fit n i∧trd fit n i≤n
 | 0,_=>⟨Int.le_refl _,by show (0:Int)≤n;omega⟩
 | i+1,h=>by
   unfold trd;split
   ·omega
   ·exact ziO i (by omega)
def za5 (hs:List Int) (rs:List (List Int)) (left:List Int) (k:Int) (row:List Int):Int:=trd (fitT hs rs left k row) rs.length rs.length
theorem ze3 {fit:Nat→Bool} {n:Nat}:∀ k,k≤n→(∀ j,j < k→fit j=false)→trd fit n n=trd fit n (n-k)
 | 0,_,_=>rfl
 | k+1,h,hb=>by
   rw [ze3 k (by omega) (fun j hj=>hb j (by omega)),zj7 (by omega),hb k (by omega)];rfl
theorem zfH {fit:Nat→Bool} {n k:Nat} (hk:k < n) (h:fit k=true) (hb:∀ j,j < k→fit j=false):trd fit n n=(k:Int)+1:=by
 rw [ze3 k (by omega) hb,zj7 hk,if_pos h]
theorem zgX {fit:Nat→Bool} {n:Nat} (hb:∀ j,j < n→fit j=false):trd fit n n=0:=by
 rw [ze3 n (Nat.le_refl _) hb,Nat.sub_self];rfl
def zbz (st:ExS) (k:Nat):Bool:=decide ((st.nm.getD k []).length=2) && decide (zaQ st.nm st.en k=[]) && !zb9 ((zdV st.nm st.en k).getD 0 0) ((zdV st.nm st.en k).getD 1 0) st.step
theorem ziP {fit:Nat→Bool} {n:Nat}:∀ i,i≤n→0 < trd fit n i→∃ j,j < n∧fit j=true∧trd fit n i=(j:Int)+1
 | 0,_,h=>absurd h (by show ¬(0:Int) < 0;decide)
 | i+1,hi,h=>by
   unfold trd at h ⊢;split
   ·rename_i hf
    exact ⟨n-(i+1),by omega,hf,rfl⟩
   ·rename_i hf
    rw [if_neg hf] at h;exact ziP i (by omega) h
theorem zcL {hs:List Int} {rs:List (List Int)} {left row:List Int} {k:Int} (h:0 < za5 hs rs left k row):1≤za5 hs rs left k row∧za5 hs rs left k row≤rs.length∧za5 hs rs left k row∉row∧1≤left.getD (za5 hs rs left k row-1).toNat 0∧¬(rs.getD (za5 hs rs left k row-1).toNat []).getD 0 0=hs.getD (k-1).toNat 0:=by
 obtain ⟨j,hj,hf,e⟩:=ziP (fit:=fitT hs rs left k row) rs.length (Nat.le_refl _) h;have e':za5 hs rs left k row=(j:Int)+1:=e;rw [e'];unfold fitT at hf;simp only [Bool.and_eq_true,Bool.not_eq_true',decide_eq_false_iff_not,decide_eq_true_eq] at hf;have ej:((j:Int)+1-1).toNat=j:=by omega
 rw [ej];exact ⟨by omega,by omega,hf.2,hf.1.2,hf.1.1⟩
def zaF (st:ExS) (k:Nat):Int:=if zbz st k=true then za5 st.hs st.rs (zgg st) ((k:Int)+1) (st.nm.getD k []) else 0
def zaK (st:ExS) (k:Nat):ExS:=if 0 < zaF st k then { st with dl:=some (st.nm.set k (st.nm.getD k []++[zaF st k]),st.en) } else st
def entS (st:ExS) (k:Nat) (r p:Int):ExS:={ st with dl:=some (st.nm,st.en++[[(k:Int)+1,r,p]]) }
theorem ExFr.trans {H H1 H2:Hp} {F F1 F2:Addr→Prop} (a:ExFr H H1 F F1) (b:ExFr H1 H2 F1 F2):ExFr H H2 F F2 :=
 ⟨fun c o e n=>b.kp c o (a.kp c o e n) (fun z=>(a.fp c z).elim n fun z=>by rw [e] at z;cases z),fun c z=>(b.fp c z).elim (a.fp c) fun z=>by
  by_cases h:F c
  ·exact .inl h
  ·right
   cases hc:H c with
   | none=>rfl
   | some o=>rw [a.kp c o hc h] at z;cases z⟩
theorem zgY {hs:List Int} {rs tt:List (List Int)} (h:zaT hs rs tt=true):tt.map (List.take 2)=tt:=by
 have RP:=zdm.mp h;refine (List.map_congr_left fun r hr=>?_).trans (List.map_id tt);obtain ⟨i,hi,e⟩:=L2.mem_getD (d:=[]) hr;have:=RP.two i (by rw [← RP.len];exact hi);rw [e] at this;show r.take 2=r;rw [List.take_of_length_le (by omega)]
def cntE (nm en:List (List Int)) (k:Nat):Nat:=((nm.getD k []).filter fun r=>(zaH en k r).isSome).length
def sumE (nm en:List (List Int)):Nat→Nat
 | 0=>0
 | k+1=>sumE nm en k+cntE nm en k
theorem zfI (nm en:List (List Int)) (k:Nat):cntE nm en k+(zaQ nm en k).length=(nm.getD k []).length:=by
 unfold cntE zaQ
 induction nm.getD k [] with
 | nil=>rfl
 | cons r rs ih =>
   rw [List.filter_cons,List.filter_cons,List.length_cons]
   cases zaH en k r with
   | none=>simp at ih ⊢;omega
   | some p=>simp at ih ⊢;omega
theorem zdE {nm nm' en en':List (List Int)}:∀ n,(∀ k,k < n→cntE nm' en' k=cntE nm en k)→sumE nm' en' n=sumE nm en n
 | 0,_=>rfl
 | n+1,h=>by
   show sumE nm' en' n+cntE nm' en' n=sumE nm en n+cntE nm en n;rw [zdE n (fun k hk=>h k (by omega)),h n (by omega)]
theorem zgZ {nm nm' en en':List (List Int)} {k:Nat}:∀ n,k < n→(∀ j,j < n→j≠k→cntE nm' en' j=cntE nm en j)→cntE nm' en' k=cntE nm en k+1→sumE nm' en' n=sumE nm en n+1
 | 0,h,_,_=>absurd h (by omega)
 | n+1,h,ho,hk=>by
   show sumE nm' en' n+cntE nm' en' n=sumE nm en n+cntE nm en n+1
   by_cases e:k=n
   ·subst e;rw [zdE k (fun j hj=>ho j (by omega) (by omega)),hk];omega
   ·rw [zgZ n (by omega) (fun j hj=>ho j (by omega)) hk,ho n (by omega) (fun z=>e z.symm)];omega
theorem zbk {en:List (List Int)} {k j:Nat} {r p r':Int} (h:j≠k∨r'≠r):zaH (en++[[(k:Int)+1,r,p]]) j r'=zaH en j r':=by
 rw [zcb,if_neg];rintro ⟨z1,z2⟩;have z1':(k:Int)+1=(j:Int)+1:=z1;have z2':r=r':=z2;rcases h with h | h
 ·exact h (by omega)
 ·exact h z2'.symm
theorem zdo {en:List (List Int)} {k:Nat} {r p:Int}:zaH (en++[[(k:Int)+1,r,p]]) k r=some p:=by
 rw [zcb,if_pos ⟨rfl,rfl⟩];rfl
theorem ziQ {row:List Int} {c c':Int→Bool} {r:Int} (nd:row.Nodup) (hr:r∈row) (h0:c r=false) (h1:c' r=true) (ho:∀ x,x≠r→c' x=c x):(row.filter c').length=(row.filter c).length+1:=by
 induction row with
 | nil=>cases hr
 | cons x xs ih =>
   rw [List.filter_cons,List.filter_cons];rw [List.nodup_cons] at nd
   by_cases e:x=r
   ·subst e;rw [if_pos h1,if_neg (by rw [h0];decide)];have:xs.filter c'=xs.filter c:=List.filter_congr fun y hy=>ho y (fun z=>nd.1 (z▸hy));rw [this];rfl
   ·have hr':r∈xs:=by
     rcases List.mem_cons.mp hr with z | z
     ·exact absurd z.symm e
     ·exact z
    rw [ho x e];have:=ih nd.2 hr';split
    ·rw [List.length_cons,List.length_cons,this]
    ·exact this
def Nam (st:ExS):Prop:=∀ k r,(zaH st.en k r).isSome=true→r∈st.nm.getD k []
theorem ziR {st:ExS} (W:Wf st) (N:Nam st) {k:Nat} {r p:Int} (hk:k < st.nm.length) (hr:r∈zaQ st.nm st.en k):sumE (zaK (entS st k r p) k).nm (st.en++[[(k:Int)+1,r,p]]) st.nm.length=sumE st.nm st.en st.nm.length+1:=by
 obtain ⟨hr1,hr2⟩:=List.mem_filter.mp hr;have hrn:(zaH st.en k r).isSome=false:=by cases h:zaH st.en k r <;> simp_all
 have key:cntE st.nm (st.en++[[(k:Int)+1,r,p]]) k=cntE st.nm st.en k+1:=by
  unfold cntE;exact ziQ (W.row k hk).nodup hr1 hrn (by rw [zdo];rfl) (fun x hx=>by rw [zbk (.inr hx)])
 have oth:∀ j,j < st.nm.length→j≠k→cntE st.nm (st.en++[[(k:Int)+1,r,p]]) j=cntE st.nm st.en j:=fun j _ hj=>by
  unfold cntE
  congr 1
  exact List.filter_congr fun x _=>by rw [zbk (.inl hj)]
 have base:=zgZ (nm:=st.nm) (nm':=st.nm) (en:=st.en) (en':=st.en++[[(k:Int)+1,r,p]]) st.nm.length hk oth key;rw [← base];refine zdE _ fun j hj=>?_;unfold zaK;split
 ·rename_i h0
  show cntE (st.nm.set k (st.nm.getD k []++[zaF (entS st k r p) k])) _ j=_;unfold cntE;rw [za0 hk]
  by_cases e:j=k
  ·subst e;rw [if_pos rfl,List.filter_append,List.length_append];have hneed:zbz (entS st j r p) j=true:=by
    unfold zaF at h0
    cases hn:zbz (entS st j r p) j with
    | true=>rfl
    | false=>rw [hn,if_neg (by decide)] at h0;exact absurd h0 (by decide)
   have ht:zaF (entS st j r p) j=za5 st.hs st.rs (zaZ st.rs st.nm) ((j:Int)+1) (st.nm.getD j []):=by unfold zaF;rw [hneed];rfl
   have h0':0 < za5 st.hs st.rs (zaZ st.rs st.nm) ((j:Int)+1) (st.nm.getD j []):=by rw [← ht];exact h0
   have sp:=zcL h0';rw [← ht] at sp;have hno:zaH (st.en++[[(j:Int)+1,r,p]]) j (zaF (entS st j r p) j)=none:=by
    rw [zbk (.inr (fun z=>sp.2.2.1 (by rw [z];exact hr1)))]
    cases hh:zaH st.en j (zaF (entS st j r p) j) with
    | none=>rfl
    | some q=>exact absurd (N j _ (by rw [hh];rfl)) sp.2.2.1
   have:([zaF (entS st j r p) j].filter fun r'=>(zaH (st.en++[[(j:Int)+1,r,p]]) j r').isSome)=[]:=by
    rw [List.filter_cons,hno];rfl
   rw [this];rfl
  ·rw [if_neg e]
 ·rfl
theorem ze4 {st:ExS} {k:Nat}:(zaK st k).en=st.en:=by
 unfold zaK;split
 ·rfl
 ·rfl
theorem zee {st:ExS} {k:Nat}:(zaK st k).nm.length=st.nm.length:=by
 unfold zaK;split
 ·show (st.nm.set k _).length=_;rw [List.length_set]
 ·rfl
theorem zg0 {st:ExS} {k:Nat}:(zaK st k).hs=st.hs:=by unfold zaK;split <;> rfl
theorem zg1 {st:ExS} {k:Nat}:(zaK st k).rs=st.rs:=by unfold zaK;split <;> rfl
theorem zhv {st:ExS} {k:Nat}:(zaK st k).step=st.step:=by unfold zaK;split <;> rfl
theorem zjL {st:ExS} {k:Nat} (h:st.dl.isSome=true):(zaK st k).dl.isSome=true:=by unfold zaK;split;rfl;exact h
theorem zfJ {st:ExS} {k j:Nat} (hk:k < st.nm.length):(zaK st k).nm.getD j []=if j=k∧0 < zaF st k then st.nm.getD k []++[zaF st k] else st.nm.getD j []:=by
 unfold zaK;split
 ·rename_i h0
  show (st.nm.set k _).getD j []=_;rw [za0 hk]
  by_cases e:j=k
  ·rw [if_pos e,if_pos ⟨e,h0⟩]
  ·rw [if_neg e,if_neg (fun z=>e z.1)]
 ·rename_i h0
  rw [if_neg (fun z=>h0 z.2)]
structure Run (st:ExS) (i:Nat):Prop where
 nam:Nam st
 sum:sumE st.nm st.en st.nm.length=st.en.length
 len:st.en.length=i
 e3:∀ j,j < st.en.length→(st.en.getD j []).length=3
theorem Run.new {hs:List Int} {rs tt:List (List Int)} {stp:Int}:Run ⟨hs,rs,stp,some (tt,[])⟩ 0:=by
 refine ⟨fun k r h=>(by cases h),?_,rfl,fun j hj=>absurd hj (by simp [ExS.en])⟩;show sumE tt [] tt.length=0;have:∀ n,sumE tt [] n=0:=fun n=>by
  induction n with
  | zero=>rfl
  | succ n ih =>
    show sumE tt [] n+cntE tt [] n=0;rw [ih];unfold cntE;rw [List.filter_eq_nil_iff.mpr (fun r _=>by simp [zfG])];rfl
 exact this _
theorem Run.enter {st:ExS} {i k:Nat} {r p:Int} (R:Run st i) (W:Wf st) (hk:k < st.nm.length) (hr:r∈zaQ st.nm st.en k):Run (zaK (entS st k r p) k) (i+1):=by
 obtain ⟨hr1,_⟩:=List.mem_filter.mp hr;have een:(zaK (entS st k r p) k).en=st.en++[[(k:Int)+1,r,p]]:=by rw [ze4];rfl
 refine ⟨fun j r' h=>?_,?_,?_,?_⟩
 ·rw [zfJ (st:=entS st k r p) hk];rw [een] at h;have key:r'∈st.nm.getD j []:=by
   by_cases e:j=k∧r'=r
   ·obtain ⟨rfl,rfl⟩:=e;exact hr1
   ·rw [zbk (by
     by_cases e1:j=k
     ·exact .inr fun z=>e ⟨e1,z⟩
     ·exact .inl e1)] at h
    exact R.nam j r' h
  split
  ·rename_i h2
   rw [h2.1] at key;exact List.mem_append_left _ key
  ·exact key
 ·rw [een,zee];show sumE _ _ st.nm.length=_;rw [ziR W R.nam hk hr,R.sum,List.length_append];rfl
 ·rw [een,List.length_append,R.len];rfl
 ·rw [een];intro j hj;rw [List.length_append,List.length_singleton] at hj
  by_cases e:j < st.en.length
  ·rw [zaw e];exact R.e3 j e
  ·have:j=st.en.length:=by omega
   subst this;rw [zau];rfl
theorem ziS {α:Type} {xs:List α} {i:Nat} {d:α} (h:i < xs.length):xs.take (i+1)=xs.take i++[xs.getD i d]:=by rw [List.take_add_one,List.getElem?_eq_getElem h,List.getD_eq_getElem?_getD,List.getElem?_eq_getElem h];rfl
end Prf
namespace L2
open PySem PySem.Spec PyProof.Rows
section
variable {X:Cx} {K:PySem.W.Frag}
def rInN (K:PySem.W.Frag) (neg:Bool):R2:=fun x y H Q=>x=.non∧∃ p vs,y=.ref p∧SqL K H p vs∧(∀ v∈vs,∃ q ys,v=.ref q∧SqL K H q ys)∧Q (.bl neg) H
def rInR (K:PySem.W.Frag) (neg:Bool):R2:=fun x y H Q=>∃ (a p:Addr) (xs:List Int) (rows:List (List Int)),x=.ref a∧y=.ref p∧H a=some (.lst (xs.map V.int))∧LL K H p rows∧Q (.bl (if neg then !decide (xs∈rows) else decide (xs∈rows))) H
theorem zj8 {pins:List (Addr×Obj)} {σ:St} {H:Hp} {s:Shared} {vs:List V} {its:List Value} (hu:X.A.units+1 < cLine) (I:Inv X pins σ H s) (r:Vals vs its) (h:∀ v∈vs,∃ q ys,v=.ref q∧SqL X.K H q ys):∀ y∈its.toArray,SeqAt.EqAt X.A.in1 s y .none false:=fun y hy=>by
 have hy':y∈its:=by simpa using hy
 obtain ⟨i,hi,e⟩:=List.getElem_of_mem hy';have hl:=r.length;obtain ⟨u,hu1,hu2⟩:=r.get (i:=i) (x:=vs[i]'(by omega)) (List.getElem?_eq_getElem (by omega));rw [List.getElem?_eq_getElem hi] at hu1;have e2:u=y:=by rw [← e];exact (Option.some.inj hu1).symm
 subst e2;obtain ⟨q,ys,hq,hs⟩:=h _ (List.getElem_mem (show i < vs.length by omega));rw [hq] at hu2
 cases hu2
 obtain ⟨_,_,pl,_⟩:=I.list hs;exact SeqAt.EqAt.list_none pl.isList hu
theorem zl9 (hu:X.A.units+1 < cLine):OpR X (compareOp .In) (rInN X.K false):=by
 intro pins s σ H x y v u Q I rx ry h;obtain ⟨rfl,p,vs,rfl,hq,hv,q⟩:=h
 cases rx
 cases ry
 obtain ⟨its,r,pl,hz⟩:=I.list hq;refine SeqAt.in_listAt (fun _=>false) pl.isList (zj8 hu I r hv) ⟨.bl _,H,I,rfl,?_⟩;rw [show its.toArray.any (fun _=>false)=false by simp];exact q
theorem ziT (hu:X.A.units+1 < cLine):OpR X (compareOp .NotIn) (rInN X.K true):=by
 intro pins s σ H x y v u Q I rx ry h;obtain ⟨rfl,p,vs,rfl,hq,hv,q⟩:=h
 cases rx
 cases ry
 obtain ⟨its,r,pl,hz⟩:=I.list hq;refine SeqAt.notIn_listAt (fun _=>false) pl.isList (zj8 hu I r hv) ⟨.bl _,H,I,rfl,?_⟩;rw [show its.toArray.any (fun _=>false)=false by simp];exact q
def rowE (H:Hp) (xs:List Int):Value→Bool
 | .ref q=>match H q with
   | some (.lst vs)=>decide (vs=xs.map V.int)
   | _=>false
 | _=>false
theorem map_int_inj:∀ {xs ys:List Int},xs.map V.int=ys.map V.int→xs=ys
 | [],[],_=>rfl
 | [],_::_,h=>by simp at h
 | _::_,[],h=>by simp at h
 | x::xs,y::ys,h=>by
   rw [List.map_cons,List.map_cons] at h;injection h with h1 h2;injection h1 with h1;rw [h1,map_int_inj h2]
theorem zmN {pins:List (Addr×Obj)} {σ:St} {H:Hp} {s:Shared} {a q:Addr} {xs ys:List Int} {A:Around} (hu:A.units < cLine) (I:Inv X pins σ H s) (ha:H a=some (.lst (xs.map V.int))) (hq:H q=some (.lst (ys.map V.int))):SeqAt.EqAt A s (.ref q) (.ref a) (decide (ys=xs)):=by
 by_cases e:q=a
 ·subst e;rw [ha] at hq;have:=map_int_inj (HO.lst.inj (Option.some.inj hq));rw [decide_eq_true this.symm];exact SeqAt.EqAt.same _
 ·obtain ⟨its1,r1,p1,z1⟩:=I.list (SqL.of (K:=X.K) hq);obtain ⟨its2,r2,p2,z2⟩:=I.list (SqL.of (K:=X.K) ha);have l1:=r1.length;have l2:=r2.length;rw [List.length_map] at l1 l2;refine SeqAt.EqAt.of_refs e ?_
  by_cases hl:ys.length=xs.length
  ·have key:=SeqAt.RcAt.lists (A:=A) (e:=fun j=>eqV ((ys.map V.int).getD j .non) ((xs.map V.int).getD j .non)) p1.isList p2.isList (by simp;omega) hu (fun j h1 h2=>?_)
   ·have e1:its1.toArray.size=(ys.map V.int).length:=by simp;omega
    rw [e1,eqVs_all (by simp;omega),eqVs_ints] at key;exact key
   ·simp only [List.size_toArray] at h1 h2;have e1:(ys.map V.int)[j]? = some ((ys.map V.int).getD j .non):=by rw [List.getD_eq_getElem?_getD,List.getElem?_eq_getElem (by simp;omega)];rfl
    have e2:(xs.map V.int)[j]? = some ((xs.map V.int).getD j .non):=by rw [List.getD_eq_getElem?_getD,List.getElem?_eq_getElem (by simp;omega)];rfl
    obtain ⟨u1,a1,b1⟩:=r1.get e1;obtain ⟨u2,a2,b2⟩:=r2.get e2;have c1:its1.toArray[j]=u1:=by simpa [List.getElem?_eq_getElem h1] using a1
    have c2:its2.toArray[j]=u2:=by simpa [List.getElem?_eq_getElem h2] using a2
    rw [c1,c2];have fl:∀ zs:List Int,(zs.map V.int).all flatV=true:=fun zs=>by simp [flatV]
    exact zh5 b1 b2 (List.all_eq_true.mp (fl _) _ (List.mem_of_getElem? e1)) (List.all_eq_true.mp (fl _) _ (List.mem_of_getElem? e2))
  ·rw [decide_eq_false (fun z=>hl (by rw [z]))];exact SeqAt.RcAt.lists_lengths p1.isList p2.isList (by simp;omega) hu
theorem zeK {pins:List (Addr×Obj)} {σ:St} {H:Hp} {s:Shared} {a:Addr} {xs:List Int} {rows:List (List Int)} {ps:List Addr} {its:List Value} (hu:X.A.units+1 < cLine) (I:Inv X pins σ H s) (ha:H a=some (.lst (xs.map V.int))) (r:Vals (ps.map V.ref) its) (hl:ps.length=rows.length)
  (hr:∀ i,i < rows.length→H (ps.getD i 0)=some (.lst ((rows.getD i []).map V.int))):(∀ y∈its.toArray,SeqAt.EqAt X.A.in1 s y (.ref a) (rowE H xs y))∧its.toArray.any (rowE H xs)=decide (xs∈rows):=by
 have hlen:=r.length;rw [List.length_map] at hlen;have at_:∀ i (hi:i < its.length),its[i]=.ref (ps.getD i 0):=fun i hi=>by
  obtain ⟨u,hu1,hu2⟩:=r.get (i:=i) (x:=.ref (ps.getD i 0)) (by rw [List.getElem?_map,List.getElem?_eq_getElem (by omega),List.getD_eq_getElem?_getD,List.getElem?_eq_getElem (by omega)];rfl);rw [List.getElem?_eq_getElem hi] at hu1
  cases hu2
  exact Option.some.inj hu1
 have ev:∀ i,i < rows.length→rowE H xs (.ref (ps.getD i 0))=decide (rows.getD i []=xs):=fun i hi=>by
  unfold rowE;simp only [hr i hi];rw [decide_eq_decide];exact ⟨map_int_inj,fun z=>by rw [z]⟩
 refine ⟨fun y hy=>?_,?_⟩
 ·obtain ⟨i,hi,e⟩:=List.getElem_of_mem (show y∈its by simpa using hy);rw [← e,at_ i hi,ev i (by omega)];exact zmN (A:=X.A.in1) hu I ha (hr i (by omega))
 ·rw [show its.toArray.any (rowE H xs)=its.any (rowE H xs) by simp,Bool.eq_iff_iff,List.any_eq_true,decide_eq_true_eq];constructor
  ·rintro ⟨y,hy,e⟩;obtain ⟨i,hi,e'⟩:=List.getElem_of_mem hy;rw [← e',at_ i hi,ev i (by omega)] at e;rw [← of_decide_eq_true e];rw [List.getD_eq_getElem?_getD,List.getElem?_eq_getElem (show i < rows.length by omega)];exact List.getElem_mem _
  ·intro h;obtain ⟨i,hi,e⟩:=L2.mem_getD (d:=[]) h;refine ⟨its[i]'(by omega),List.getElem_mem _,?_⟩;rw [at_ i (by omega),ev i hi,decide_eq_true e]
theorem zma (hu:X.A.units+1 < cLine):OpR X (compareOp .In) (rInR X.K false):=by
 intro pins s σ H x y v u Q I rx ry h;obtain ⟨a,p,xs,rows,rfl,rfl,ha,⟨ps,hp,hl,hr⟩,q⟩:=h
 cases rx
 cases ry
 obtain ⟨its,r,pl,hz⟩:=I.list hp;obtain ⟨h1,h2⟩:=zeK hu I ha r hl hr;refine SeqAt.in_listAt (rowE H xs) pl.isList h1 ⟨.bl _,H,I,rfl,?_⟩;rw [h2];exact q
theorem ziU (hu:X.A.units+1 < cLine):OpR X (compareOp .NotIn) (rInR X.K true):=by
 intro pins s σ H x y v u Q I rx ry h;obtain ⟨a,p,xs,rows,rfl,rfl,ha,⟨ps,hp,hl,hr⟩,q⟩:=h
 cases rx
 cases ry
 obtain ⟨its,r,pl,hz⟩:=I.list hp;obtain ⟨h1,h2⟩:=zeK hu I ha r hl hr;refine SeqAt.notIn_listAt (rowE H xs) pl.isList h1 ⟨.bl _,H,I,rfl,?_⟩;rw [h2];exact q
def rIn2 (K:PySem.W.Frag) (neg:Bool):R2:=fun x y H Q=>rIn K neg x y H Q∨(rInN K neg x y H Q∨rInR K neg x y H Q)
theorem zeL (h:X.K=K) (hu:X.A.units+1 < cLine):OpR X (compareOp .In) (rIn2 K false):=(zll h).or ((h▸zl9 hu).or (h▸zma hu))
theorem zdp (h:X.K=K) (hu:X.A.units+1 < cLine):OpR X (compareOp .NotIn) (rIn2 K true):=(zih h).or ((h▸ziT hu).or (h▸ziU hu))
end
section
variable {H:Hp} {K:PySem.W.Frag} {Q:VK} {i:Int} {a p:Addr}
theorem zkV {nx bk ct:St→Hp→Prop} {rt:VK} {σ:St} (h:bk σ H):tBreak ⟨nx,rt,bk,ct⟩ σ H:=h
theorem zmb {xs:List Int} (h:SqL K H a (xs.map V.int)) (q:Q (.bl (decide (i∈xs))) H):rIn2 K false (.int i) (.ref a) H Q:=.inl (zmI h q)
theorem ziV {xs:List Int} (h:SqL K H a (xs.map V.int)) (q:Q (.bl (!decide (i∈xs))) H):rIn2 K true (.int i) (.ref a) H Q:=.inl (zjo h q)
theorem ziW {xs:List Int} {rows:List (List Int)} (ha:H a=some (.lst (xs.map V.int))) (h:LL K H p rows) (q:Q (.bl (!decide (xs∈rows))) H):rIn2 K true (.ref a) (.ref p) H Q:=.inr (.inr ⟨a,p,xs,rows,rfl,rfl,ha,h,q⟩)
end
end L2
namespace Prf
open PySem PySem.Spec PyProof.Rows L2
theorem zjM {B H:Hp} {p:Addr} {rs:List (List Int)} (R:RowsAt B p rs H):∃ zs:List V,H p=some (.lst zs)∧(zs=[]↔rs=[]):=by
 obtain ⟨zs,h1,h2⟩:=R.lst;refine ⟨zs,h1,fun h=>?_,fun h=>?_⟩
 ·rw [h] at h2;exact List.eq_nil_of_length_eq_zero h2.symm
 ·rw [h] at h2;exact List.eq_nil_of_length_eq_zero h2
end Prf
namespace L2
open PySem PySem.Spec PyProof.Rows
section
variable {X:Cx} {K:PySem.W.Frag} {H:Hp} {Q:VK} {i:Int} {b:Bool}
end
end L2
namespace Prf
open PySem PySem.Spec PyProof.Rows L2
end Prf
namespace Prf
open PySem PySem.Spec PyProof.Rows L2
theorem zg2 {x:Int} {r':List Int}:∀ {rows:List (List Int)} {k:Nat},k < rows.length→cntB (rows.set k r') x+(if x∈rows.getD k [] then 1 else 0)=cntB rows x+(if x∈r' then 1 else 0)
 | [],k,h=>absurd h (by simp)
 | r::rs,0,_=>by
   show ((r'::rs).filter _).length+(if x∈r then 1 else 0)=((r::rs).filter _).length+_;rw [List.filter_cons,List.filter_cons]
   by_cases h1:x∈r <;> by_cases h2:x∈r' <;> simp [h1,h2]
 | r::rs,k+1,h=>by
   have ih:=zg2 (x:=x) (r':=r') (rows:=rs) (k:=k) (by simpa using h);unfold cntB at ih ⊢;show ((r::rs.set k r').filter _).length+(if x∈rs.getD k [] then 1 else 0)=((r::rs).filter _).length+_;rw [List.filter_cons,List.filter_cons];split
   ·rw [List.length_cons,List.length_cons];omega
   ·exact ih
def inOf (en:List (List Int)) (k:Nat):Nat:=(en.filter fun r=>decide (r.getD 0 0=(k:Int)+1)).length
def Knw (st:ExS):Prop:=∀ k,k < st.nm.length→inOf st.en k=cntE st.nm st.en k
theorem Knw.new {hs:List Int} {rs tt:List (List Int)} {stp:Int}:Knw ⟨hs,rs,stp,some (tt,[])⟩:=fun k _=>by
 show 0=cntE tt [] k;unfold cntE;rw [List.filter_eq_nil_iff.mpr (fun r _=>by simp [zfG])];rfl
theorem ziX {st:ExS} (W:Wf st) (N:Nam st) {k:Nat} {r p:Int} (hk:k < st.nm.length) (hr:r∈zaQ st.nm st.en k) {j:Nat} (hj:j < st.nm.length):cntE (zaK (entS st k r p) k).nm (st.en++[[(k:Int)+1,r,p]]) j=cntE st.nm st.en j+if j=k then 1 else 0:=by
 obtain ⟨hr1,hr2⟩:=List.mem_filter.mp hr;have hrn:(zaH st.en k r).isSome=false:=by cases h:zaH st.en k r <;> simp_all
 have key:cntE st.nm (st.en++[[(k:Int)+1,r,p]]) k=cntE st.nm st.en k+1:=by
  unfold cntE;exact ziQ (W.row k hk).nodup hr1 hrn (by rw [zdo];rfl) (fun x hx=>by rw [zbk (.inr hx)])
 have oth:j≠k→cntE st.nm (st.en++[[(k:Int)+1,r,p]]) j=cntE st.nm st.en j:=fun hj=>by
  unfold cntE
  congr 1
  exact List.filter_congr fun x _=>by rw [zbk (.inl hj)]
 have base:cntE st.nm (st.en++[[(k:Int)+1,r,p]]) j=cntE st.nm st.en j+if j=k then 1 else 0:=by
  by_cases e:j=k
  ·subst e;rw [if_pos rfl];exact key
  ·rw [if_neg e];exact oth e
 rw [← base];unfold cntE;rw [zfJ (st:=entS st k r p) hk];split
 ·rename_i h2
  obtain ⟨rfl,h0⟩:=h2;rw [List.filter_append,List.length_append];have hneed:zbz (entS st j r p) j=true:=by
   unfold zaF at h0
   cases hn:zbz (entS st j r p) j with
   | true=>rfl
   | false=>rw [hn,if_neg (by decide)] at h0;exact absurd h0 (by decide)
  have ht:zaF (entS st j r p) j=za5 st.hs st.rs (zaZ st.rs st.nm) ((j:Int)+1) (st.nm.getD j []):=by unfold zaF;rw [hneed];rfl
  have h0':0 < za5 st.hs st.rs (zaZ st.rs st.nm) ((j:Int)+1) (st.nm.getD j []):=by rw [← ht];exact h0
  have sp:=zcL h0';rw [← ht] at sp;have hno:zaH (st.en++[[(j:Int)+1,r,p]]) j (zaF (entS st j r p) j)=none:=by
   rw [zbk (.inr (fun z=>sp.2.2.1 (by rw [z];exact hr1)))]
   cases hh:zaH st.en j (zaF (entS st j r p) j) with
   | none=>rfl
   | some q=>exact absurd (N j _ (by rw [hh];rfl)) sp.2.2.1
  have:([zaF (entS st j r p) j].filter fun r'=>(zaH (st.en++[[(j:Int)+1,r,p]]) j r').isSome)=[]:=by
   rw [List.filter_cons,hno];rfl
  rw [this];rfl
 ·rfl
theorem Knw.enter {st:ExS} (N:Knw st) (R:Nam st) (W:Wf st) {k:Nat} {r p:Int} (hk:k < st.nm.length) (hr:r∈zaQ st.nm st.en k):Knw (zaK (entS st k r p) k):=fun j hj=>by
 rw [zee] at hj;have een:(zaK (entS st k r p) k).en=st.en++[[(k:Int)+1,r,p]]:=by rw [ze4];rfl
 rw [een,ziX W R hk hr hj,← N j hj];unfold inOf;rw [List.filter_append,List.length_append]
 congr 1
 rw [List.filter_cons];show (if decide ((k:Int)+1=(j:Int)+1)=true then _ else _:List (List Int)).length=_
 by_cases e:j=k
 ·subst e;rw [if_pos rfl,decide_eq_true rfl];rfl
 ·rw [if_neg e,decide_eq_false (by omega)];rfl
theorem Knw.lt {st:ExS} (N:Knw st) (W:Wf st) {k:Nat} {r:Int} (hk:k < st.nm.length) (hr:r∈zaQ st.nm st.en k):inOf st.en k < (st.nm.getD k []).length:=by
 rw [N k hk];have:=zfI st.nm st.en k;have:0 < (zaQ st.nm st.en k).length:=List.length_pos_of_mem hr;omega
theorem Knw.one {st:ExS} (N:Knw st) (R:Nam st) (W:Wf st) {k:Nat} {r p:Int} (hk:k < st.nm.length) (hr:r∈zaQ st.nm st.en k) (h:zbz (entS st k r p) k=true):inOf st.en k=1∧(st.nm.getD k []).length=2:=by
 unfold zbz at h;simp only [Bool.and_eq_true,decide_eq_true_eq] at h;obtain ⟨⟨h1,h2⟩,_⟩:=h;have h1':(st.nm.getD k []).length=2:=h1;have h2':zaQ st.nm (st.en++[[(k:Int)+1,r,p]]) k=[]:=h2;obtain ⟨hr1,hr2⟩:=List.mem_filter.mp hr;have hrn:(zaH st.en k r).isSome=false:=by cases h:zaH st.en k r <;> simp_all
 have key:cntE st.nm (st.en++[[(k:Int)+1,r,p]]) k=cntE st.nm st.en k+1:=by
  unfold cntE;exact ziQ (W.row k hk).nodup hr1 hrn (by rw [zdo];rfl) (fun x hx=>by rw [zbk (.inr hx)])
 have:=zfI st.nm (st.en++[[(k:Int)+1,r,p]]) k;rw [h2',List.length_nil] at this;refine ⟨?_,h1'⟩;rw [N k hk];omega
end Prf
namespace Prf
open PySem PySem.Spec PyProof.Rows L2
def zcE (en:List (List Int)) (k:Nat):List Int:=(en.filter fun r=>decide (r.getD 0 0=(k:Int)+1)).map fun e=>e.getD 2 0
def gotB (en:List (List Int)) (n:Nat):List (List Int):=(List.range n).map (zcE en)
theorem zgi (en:List (List Int)) (k:Nat):(zcE en k).length=inOf en k:=by unfold zcE inOf;rw [List.length_map]
theorem zjN (en:List (List Int)) (k j:Nat) (r p:Int):zcE (en++[[(k:Int)+1,r,p]]) j=zcE en j++if j=k then [p] else []:=by
 unfold zcE;rw [List.filter_append,List.map_append]
 congr 1
 by_cases h:j=k
 ·subst h;rw [if_pos rfl,List.filter_cons,if_pos (by simp)];rfl
 ·rw [if_neg h,List.filter_cons,if_neg (by simp;omega)];rfl
theorem zjO (en:List (List Int)) (n:Nat):(gotB en n).length=n:=by unfold gotB;rw [List.length_map,List.length_range]
theorem zgj {en:List (List Int)} {n k:Nat} (h:k < n):(gotB en n).getD k []=zcE en k:=by
 unfold gotB;rw [List.getD_eq_getElem?_getD,List.getElem?_map,List.getElem?_range h];rfl
theorem zjP {en:List (List Int)} {n k:Nat} {r p:Int} (h:k < n):gotB (en++[[(k:Int)+1,r,p]]) n=(gotB en n).set k (zcE en k++[p]):=by
 refine List.ext_getElem? fun j=>?_;unfold gotB
 by_cases hj:j < n
 ·rw [List.getElem?_map,List.getElem?_range hj,List.getElem?_set,List.length_map,List.length_range,List.getElem?_map,List.getElem?_range hj];show some (zcE _ j)=_;rw [zjN]
  by_cases e:k=j
  ·subst e;rw [if_pos rfl,if_pos rfl,if_pos h]
  ·rw [if_neg (fun z=>e z.symm),if_neg e,List.append_nil];rfl
 ·rw [List.getElem?_eq_none (by simp;omega),List.getElem?_eq_none (by simp;omega)]
theorem ziY {en:List (List Int)} (e3:∀ i,i < en.length→(en.getD i []).length=3) (k:Nat) (r:Int):[(k:Int)+1,r]∈en.map (List.take 2)↔(zaH en k r).isSome=true:=by
 have h3:∀ e∈en,e.length=3:=fun e he=>by
  obtain ⟨i,hi,ei⟩:=L2.mem_getD (d:=[]) he;rw [← ei];exact e3 i hi
 have key:(zaH en k r).isSome=true↔∃ e∈en,e.getD 0 0=(k:Int)+1∧e.getD 1 0=r:=by
  unfold zaH;rw [Option.isSome_map];constructor
  ·intro h;obtain ⟨e,he⟩:=Option.isSome_iff_exists.mp h;have hm:=List.mem_filter.mp (List.mem_of_getLast? he);exact ⟨e,hm.1,by simpa using hm.2⟩
  ·rintro ⟨e,he,h1,h2⟩;have:e∈en.filter fun e=>decide (e.getD 0 0=(k:Int)+1) && decide (e.getD 1 0=r):=List.mem_filter.mpr ⟨he,by rw [decide_eq_true h1,decide_eq_true h2];rfl⟩
   cases hh:(en.filter fun e=>decide (e.getD 0 0=(k:Int)+1) && decide (e.getD 1 0=r)).getLast? with
   | none=>rw [List.getLast?_eq_none_iff] at hh;rw [hh] at this;cases this
   | some _=>rfl
 rw [key];constructor
 ·intro h;obtain ⟨e,he,h2⟩:=List.mem_map.mp h
  match e,h3 e he,h2 with
  | [a,b,c],_,h2 =>
    have h2:[a,b]=[(k:Int)+1,r]:=h2;injection h2 with h4 h5;injection h5 with h5;exact ⟨_,he,h4,h5⟩
 ·rintro ⟨e,he,h1,h2⟩;refine List.mem_map.mpr ⟨e,he,?_⟩
  match e,h3 e he,h1,h2 with
  | [a,b,c],_,h1,h2 =>
    have h1:a=(k:Int)+1:=h1;have h2:b=r:=h2;rw [h1,h2];rfl
theorem zhw {n k:Nat} {nm en:List (List Int)} {ns:List Int} (h:zcC n en k (nm.getD k [])) (hp:ns.Perm (nm.getD k [])) (hs:ns.Pairwise (·≤·)) (e3:∀ i,i < en.length→(en.getD i []).length=3):(ns.filter fun r=>!decide ([(k:Int)+1,r]∈en.map (List.take 2)))=zaQ nm en k:=by
 refine ziM ?_ (List.Pairwise.filter _ hs) h.sorted;refine (hp.filter _).trans ?_;unfold zaQ;rw [List.filter_congr (q:=fun r=>(zaH en k r).isNone) fun r _=>?_];rw [← Option.not_isSome]
 congr 1
 cases hh:(zaH en k r).isSome with
 | true=>exact decide_eq_true ((ziY e3 k r).mpr hh)
 | false=>exact decide_eq_false fun z=>by rw [(ziY e3 k r).mp z] at hh;cases hh
theorem zhx (x y s:Int):zb9 x y s=zb9 y x s:=by
 unfold zb9;exact decide_eq_decide.mpr (by omega)
theorem zjQ {st:ExS} (N:Knw st) (R:Nam st) (W:Wf st) {k:Nat} {r p g:Int} (hk:k < st.nm.length) (hr:r∈zaQ st.nm st.en k) (hg:zcE st.en k=[g]):zbz (entS st k r p) k = !zb9 g p st.step:=by
 have h1:inOf st.en k=1:=by rw [← zgi,hg];rfl
 have h2:=N k hk;rw [h1] at h2;obtain ⟨hr1,hr2⟩:=List.mem_filter.mp hr;have hrn:zaH st.en k r=none:=Option.isNone_iff_eq_none.mp hr2;have hone:∀ x q,zaH st.en k x=some q→q=g:=fun x q hq=>by
  unfold zaH at hq;obtain ⟨e,he,hq'⟩:=Option.map_eq_some_iff.mp hq;have hm:=List.mem_filter.mp (List.mem_of_getLast? he);have h0:e.getD 0 0=(k:Int)+1:=by have:=hm.2;simp at this;simpa using this.1
  have:e.getD 2 0∈zcE st.en k:=List.mem_map.mpr ⟨e,List.mem_filter.mpr ⟨hm.1,decide_eq_true h0⟩,rfl⟩;rw [hg] at this;rw [← hq'];exact List.mem_singleton.mp this
 obtain ⟨f,s,f1,f2,f3,hrow | ⟨t,hrow,_,_,_,_,t5,t6⟩⟩:=W.row k hk
 ·unfold cntE at h2;rw [hrow] at h2 hr1;unfold zbz;rw [show (entS st k r p).nm=st.nm from rfl,show (entS st k r p).en=st.en++[[(k:Int)+1,r,p]] from rfl,show (entS st k r p).step=st.step from rfl];unfold zaQ zdV;rw [hrow];have hfs:f≠s:=by omega
  rcases List.mem_cons.mp hr1 with z | z
  ·subst z;rw [List.filter_cons,hrn,List.filter_cons] at h2
   cases hs:zaH st.en k s with
   | none=>rw [hs] at h2;simp at h2
   | some q =>
     have:=hone s q hs;subst this;have e1:zaH (st.en++[[(k:Int)+1,r,p]]) k r=some p:=zdo;have e2:zaH (st.en++[[(k:Int)+1,r,p]]) k s=some q:=by rw [zbk (.inr (fun z=>hfs z.symm)),hs]
     simp only [List.filter_cons,e1,e2,List.map_cons,List.map_nil,List.filter_nil];show (decide _ && decide _ && !zb9 p q st.step)=_;rw [zhx];simp
  ·have z:=List.mem_singleton.mp z;subst z;rw [List.filter_cons,List.filter_cons,hrn] at h2
   cases hs:zaH st.en k f with
   | none=>rw [hs] at h2;simp at h2
   | some q =>
     have:=hone f q hs;subst this;have e1:zaH (st.en++[[(k:Int)+1,r,p]]) k r=some p:=zdo;have e2:zaH (st.en++[[(k:Int)+1,r,p]]) k f=some q:=by rw [zbk (.inr hfs),hs]
     simp only [List.filter_cons,e1,e2,List.map_cons,List.map_nil,List.filter_nil];show (decide _ && decide _ && !zb9 q p st.step)=_;simp
 ·unfold cntE at h2;rw [hrow,List.filter_cons,t5,List.filter_cons,t6] at h2;simp at h2
theorem zjR {st:ExS} (N:Knw st) (R:Nam st) (W:Wf st) {k:Nat} {r p:Int} (hk:k < st.nm.length) (hr:r∈zaQ st.nm st.en k) (hg:(zcE st.en k).length≠1):zbz (entS st k r p) k=false:=by
 cases h:zbz (entS st k r p) k with
 | false=>rfl
 | true=>exact absurd ((zgi _ _).trans (Knw.one N R W hk hr h).1) hg
theorem zkW {fit:Nat→Bool} {n k:Nat} (hk:k < n) (h:fit k=true):0 < trd fit n n:=by
 have:∀ m,m≤n→(∀ j,j < m→fit j=false)∨0 < trd fit n n:=fun m=>by
  induction m with
  | zero=>intro _;exact .inl fun j hj=>absurd hj (by omega)
  | succ m ih =>
    intro hm;rcases ih (by omega) with z | z
    ·cases hf:fit m with
     | true=>exact .inr (by rw [zfH (by omega) hf z];omega)
     | false=>exact .inl fun j hj=>(by
        by_cases e:j=m
        ·rw [e];exact hf
        ·exact z j (by omega))
    ·exact .inr z
 rcases this n (Nat.le_refl _) with z | z
 ·rw [z k hk] at h;cases h
 ·exact z
theorem zdn.but {H H':Hp} {F:Addr→Prop} {a b:Addr} {ps:List Addr} {rs:List (List Int)} (h:zdn H F a ps rs) (b1:But b H H') (na:a≠b) (np:b∉ps):zdn H' F a ps rs :=
 ⟨by rw [b1 _ na];exact h.1,h.2.1,h.2.2.1,fun i hi=>⟨by rw [b1 _ (fun z=>np (z▸zcN (by rw [h.2.2.1];exact hi)))];exact (h.2.2.2 i hi).1,(h.2.2.2 i hi).2⟩⟩
structure Nvr (C:Addr) (H0 H:Hp) (x p8 p9 pg:Addr) (gs:List Addr) (F:Addr→Prop) (st:ExS) (nm en got:List (List Int)):Prop where
 same:Same H0 H
 nf:∀ c o,H0 c=some o→¬F c
 ex:ExAt C H x F st
 inb:InB st.hs st.rs
 new:∀ y∈p8::p9::pg::gs,H0 y=none
 nd:(p8::p9::pg::gs).Nodup
 names:∃ qs,zdn H F p8 qs nm∧∀ y∈qs,y∉p8::p9::pg::gs
 ents:∃ es,zdn H F p9 es en∧∀ y∈es,y∉p8::p9::pg::gs
 got:zdn H F pg gs got
section
variable {C:Addr} {H0 H H' H1 H2:Hp} {x p8 p9 pg:Addr} {gs:List Addr} {F F':Addr→Prop} {st st':ExS} {nm en got:List (List Int)}
theorem Nvr.grow (L:Nvr C H0 H x p8 p9 pg gs F st nm en got) (s:Same H H'):Nvr C H0 H' x p8 p9 pg gs F st nm en got:=by
 obtain ⟨qs,h1,h2⟩:=L.names;obtain ⟨es,h3,h4⟩:=L.ents;exact ⟨L.same.trans s,L.nf,L.ex.same s,L.inb,L.new,L.nd,⟨qs,h1.same s,h2⟩,⟨es,h3.same s,h4⟩,L.got.same s⟩
theorem Nvr.nn (L:Nvr C H0 H x p8 p9 pg gs F st nm en got):p8≠p9∧p8≠pg∧p8∉gs∧p9≠pg∧p9∉gs∧pg∉gs∧gs.Nodup:=by
 have h:=L.nd;simp only [List.nodup_cons,List.mem_cons,not_or] at h;exact ⟨h.1.1,h.1.2.1,h.1.2.2,h.2.1.1,h.2.1.2,h.2.2.1,h.2.2.2⟩
theorem Nvr.lc (L:Nvr C H0 H x p8 p9 pg gs F st nm en got) {K:PySem.W.Frag}:LL K H p8 nm:=by
 obtain ⟨qs,h1,h2⟩:=L.names;exact h1.ll
theorem Nvr.le (L:Nvr C H0 H x p8 p9 pg gs F st nm en got) {K:PySem.W.Frag}:LL K H p9 en:=by
 obtain ⟨es,h1,h2⟩:=L.ents;exact h1.ll
theorem Nvr.note (L:Nvr C H0 H x p8 p9 pg gs F st nm en got) {k:Nat} {v:Int} (hk:k < got.length) (b1:But (gs.getD k 0) H H') (e1:H' (gs.getD k 0)=some (.lst ((got.getD k []).map V.int++[.int v]))):Nvr C H0 H' x p8 p9 pg gs F st nm en (got.set k (got.getD k []++[v])):=by
 obtain ⟨n1,n2,n3,n4,n5,n6,n7⟩:=L.nn;obtain ⟨g1,g2,g3,g4⟩:=L.got;have hm:gs.getD k 0∈gs:=zcN (by omega);have hm':gs.getD k 0∈p8::p9::pg::gs:=by simp [List.mem_cons];exact .inr (.inr (.inr hm))
 have nF:¬F (gs.getD k 0):=(g4 k hk).2;obtain ⟨qs,h1,h2⟩:=L.names;obtain ⟨es,h3,h4⟩:=L.ents;refine ⟨L.same.but b1 (L.new _ hm'),L.nf,L.ex.keep fun c o hc e=>(by rw [b1 c (fun z=>nF (z▸hc))];exact e),L.inb,L.new,L.nd,⟨qs,h1.but b1 (fun z=>n3 (z▸hm)) (fun z=>h2 _ z hm'),h2⟩,⟨es,h3.but b1 (fun z=>n5 (z▸hm)) (fun z=>h4 _ z hm'),h4⟩,?_⟩;refine ⟨by rw [b1 pg (fun z=>n6 (by rw [z];exact hm))];exact g1,g2,by rw [List.length_set];exact g3,fun i hi=>?_⟩;rw [List.length_set] at hi;rw [za0 hk]
 by_cases e:i=k
 ·subst e;rw [if_pos rfl];exact ⟨by rw [e1,List.map_append];rfl,nF⟩
 ·rw [if_neg e];exact ⟨by rw [b1 _ (fun z=>e (zcj n7 (by omega) (by omega) z))];exact (g4 i hi).1,(g4 i hi).2⟩
theorem Nvr.deed (L:Nvr C H0 H x p8 p9 pg gs F st nm en got) (f:ExFr H H' F F') (E:ExAt C H' x F' st') (i:InB st'.hs st'.rs):Nvr C H0 H' x p8 p9 pg gs F' st' nm en got:=by
 obtain ⟨n,s⟩:=f.nf L.same L.nf;obtain ⟨qs,h1,h2⟩:=L.names;obtain ⟨es,h3,h4⟩:=L.ents;exact ⟨s,n,E,i,L.new,L.nd,⟨qs,h1.fr f,h2⟩,⟨es,h3.fr f,h4⟩,L.got.fr f⟩
theorem Nvr.entry (L:Nvr C H0 H x p8 p9 pg gs F st nm en got) {o:Addr} {row:List Int} {es:List Addr} (eo:H o=some (.lst (row.map V.int))) (nF:¬F o) (no:o∉p8::p9::pg::gs) (h9:H p9=some (.lst (es.map V.ref))) (b1:But p9 H H') (e1:H' p9=some (.lst (es.map V.ref++[.ref o]))):Nvr C H0 H' x p8 p9 pg gs F st nm (en++[row]) got:=by
 obtain ⟨n1,n2,n3,n4,n5,n6,n7⟩:=L.nn;obtain ⟨qs,h1,h2⟩:=L.names;obtain ⟨es',h3,h4⟩:=L.ents;have:es'=es:=by
  have:=h3.1;rw [h9] at this;exact (map_ref_inj (HO.lst.inj (Option.some.inj this))).symm
 subst this;have m9:p9∈p8::p9::pg::gs:=by simp
 have no9:o≠p9:=fun z=>no (z▸m9);refine ⟨L.same.but b1 (L.new _ m9),L.nf,L.ex.keep fun c o hc e=>(by rw [b1 c (fun z=>h3.2.1 (z▸hc))];exact e),L.inb,L.new,L.nd,⟨qs,h1.but b1 n1 (fun z=>h2 _ z m9),h2⟩,⟨es'++[o],⟨by rw [e1,List.map_append];rfl,h3.2.1,by rw [List.length_append,List.length_append,h3.2.2.1];rfl,fun i hi=>?_⟩,fun y hy=>?_⟩,L.got.but b1 n4.symm n5⟩
 ·rw [List.length_append,List.length_singleton] at hi
  by_cases e:i < en.length
  ·rw [zaw (by rw [h3.2.2.1];exact e),zaw e];exact ⟨by rw [b1 _ (fun z=>h4 _ (zcN (by rw [h3.2.2.1];exact e)) (by rw [z];exact m9))];exact (h3.2.2.2 i e).1,(h3.2.2.2 i e).2⟩
  ·have e:i=es'.length:=by rw [h3.2.2.1];omega
   subst e;rw [zau,h3.2.2.1,zau];exact ⟨by rw [b1 _ no9];exact eo,nF⟩
 ·rcases List.mem_append.mp hy with z | z
  ·exact h4 y z
  ·rw [List.mem_singleton.mp z];exact no
theorem Nvr.name (L:Nvr C H0 H x p8 p9 pg gs F st nm en got) {o:Addr} {row:List Int} {qs:List Addr} {k:Nat} (hk:k < nm.length) (eo:H o=some (.lst (row.map V.int))) (nF:¬F o) (no:o∉p8::p9::pg::gs) (h8:H p8=some (.lst (qs.map V.ref))) (b1:But p8 H H') (e1:H' p8=some (.lst ((qs.set k o).map V.ref))):Nvr C H0 H' x p8 p9 pg gs F st (nm.set k row) en got:=by
 obtain ⟨n1,n2,n3,n4,n5,n6,n7⟩:=L.nn;obtain ⟨qs',h1,h2⟩:=L.names;obtain ⟨es,h3,h4⟩:=L.ents;have:qs'=qs:=by
  have:=h1.1;rw [h8] at this;exact (map_ref_inj (HO.lst.inj (Option.some.inj this))).symm
 subst this;have m8:p8∈p8::p9::pg::gs:=by simp
 have no8:o≠p8:=fun z=>no (z▸m8);refine ⟨L.same.but b1 (L.new _ m8),L.nf,L.ex.keep fun c o hc e=>(by rw [b1 c (fun z=>h1.2.1 (z▸hc))];exact e),L.inb,L.new,L.nd,⟨qs'.set k o,⟨e1,h1.2.1,by rw [List.length_set,List.length_set,h1.2.2.1],fun i hi=>?_⟩,fun y hy=>?_⟩,⟨es,h3.but b1 n1.symm (fun z=>h4 _ z m8),h4⟩,L.got.but b1 n2.symm n3⟩
 ·rw [List.length_set] at hi;rw [za0 (by rw [h1.2.2.1];exact hk),za0 hk]
  by_cases e:i=k
  ·rw [if_pos e,if_pos e];exact ⟨by rw [b1 _ no8];exact eo,nF⟩
  ·rw [if_neg e,if_neg e];exact ⟨by rw [b1 _ (fun z=>h2 _ (zcN (by rw [h1.2.2.1];exact hi)) (by rw [z];exact m8))];exact (h1.2.2.2 i hi).1,(h1.2.2.2 i hi).2⟩
 ·rcases List.mem_or_eq_of_mem_set hy with z | z
  ·exact h2 y z
  ·rw [z];exact no
end
end Prf
open PySem PySem.Spec PyProof.Rows L2
local macro_rules | `(tactic| walk_at "ne")=>`(tactic| first | assumption | (exact Ne.symm (by assumption)) | (exact zai (by assumption) (by assumption)) | (exact Ne.symm (zai (by assumption) (by assumption))))
local macro_rules | `(tactic| walk_at "hp")=>`(tactic| first | assumption | (exact zas) | (exact SqL.of zas) | (exact SqL.of (by assumption)) | (exact Eq.trans (zaJ (by walk_at "ne")) (by walk_at "hp")) | (exact SqL.of (Eq.trans (zaJ (by walk_at "ne")) (by walk_at "hp"))))
local macro_rules | `(tactic| walk_at "ty")=>`(tactic| first | (exact TyOf.int _) | (exact TyOf.bl _) | (exact TyOf.non) | (exact TyOf.str _) | (exact TyOf.lst (by walk_at "hp")))
local macro_rules | `(tactic| walk_at "ix")=>`(tactic| first | (exact zdk (by omega) (by omega)) | (exact zjj (by omega) (by omega)) | (exact rfl))
local macro_rules | `(tactic| walk_at "rd1")=>`(tactic| first
 | (with_reducible refine zjk ?_) | (with_reducible refine zmB ?_) | (with_reducible refine zmC ?_) | (with_reducible refine zmA ?_) | (with_reducible refine zlt ?_) | (with_reducible refine zlu ?_) | (with_reducible refine zkV ?_) | (with_reducible refine r_intI ?_) | (with_reducible refine r_intB ?_) | (with_reducible refine zkx ?_)
 | (with_reducible refine r_op ?_) | ((with_reducible refine' zeV ?rv ?_);(case rv=>exact rfl)) | (with_reducible refine r_c ?_)
 | (with_reducible refine r_I0 ?_) | (with_reducible refine zlz ?_) | (with_reducible refine zl3 ?_) | (with_reducible refine zl4 ?_) | (with_reducible refine zl7 ?_) | (with_reducible refine zl8 ?_) | (with_reducible refine r_eqGI ?_) | (with_reducible refine zj5 ?_) | (with_reducible refine r_eqGB ?_) | (with_reducible refine zj6 ?_)
 | (with_reducible refine r_cb ?_) | (with_reducible refine zfo ?_) | (with_reducible refine zes ?_) | (with_reducible refine zln ?_) | (with_reducible refine zmx ?_) | (with_reducible refine r_bm ?_)
 | (with_reducible refine zlp ?_) | (with_reducible refine r_orV ?_) | (with_reducible refine zlq ?_) | (with_reducible refine zlr ?_) | (with_reducible refine zls ?_) | (with_reducible refine r_tB ?_)
 | (with_reducible refine zmy ?_) | (with_reducible refine r_or ?_) | (with_reducible refine zmz ?_) | (with_reducible refine r_if ?_) | (with_reducible refine r_tt ?_) | (with_reducible refine zky ?_) | (with_reducible refine zkz ?_)
 | ((with_reducible refine' zmb ?h1 ?_);(case h1=>walk_at "hp")) | ((with_reducible refine' ziV ?h1 ?_);(case h1=>walk_at "hp")) | (with_reducible refine r_forZ ?_)
 | (with_reducible refine zmJ ?_) | (with_reducible refine r_notN ?_)
 | (with_reducible refine zlD ?_) | (with_reducible refine zlE ?_) | ((with_reducible refine' zlF ?h1 ?h2 ?_);(case h1=>omega);(case h2=>omega)) | ((with_reducible refine' r_pow ?h1 ?_);(case h1=>exact ⟨by decide,by decide,by decide⟩))
 | ((with_reducible refine' r_mulB ?h1 ?_);(case h1=>first | (exact .inl (.inr ⟨by decide,by decide⟩)) | (exact .inl (.inl ⟨by omega,by omega⟩)) | (exact .inl (.inr ⟨by omega,by omega⟩)) | (exact .inr ⟨⟨by omega,by omega⟩,by omega,by omega⟩)))
 | (with_reducible refine r_lr ?_) | (with_reducible refine r_sl ?_) | (with_reducible refine zkI ?_) | (with_reducible refine zlG ?_) | (with_reducible refine zkJ ?_) | (with_reducible refine zjp ?_) | (with_reducible refine zlH ?_)
 | (with_reducible refine r_maxD ?_) | ((with_reducible refine' leaf_max ?h1 ?_);(case h1=>walk_at "hp"))
 | (with_reducible refine r_for3 ?_) | (with_reducible refine zmH ?_) | (with_reducible refine r_un ?_)
 | (with_reducible refine zlv ?_) | (with_reducible refine zlw ?_) | (with_reducible refine zlA ?_) | (with_reducible refine zkA ?_) | (with_reducible refine zkB ?_) | (with_reducible refine zkC ?_) | (with_reducible refine zlM ?_) | (with_reducible refine zkP ?_) | (with_reducible refine zkQ ?_)
 | (with_reducible refine zmK ?_) | (with_reducible refine zlP ?_) | (with_reducible refine zlQ ?_) | (with_reducible refine zlR ?_) | (with_reducible refine zlS ?_) | (with_reducible refine zmL ?_) | (with_reducible refine zmM ?_) | (with_reducible refine zlY ?_) | (with_reducible refine zlZ ?_) | (with_reducible refine zlU ?_)
 | ((with_reducible refine' zjB ?h1 ?h2 ?h3 ?h4 ?_);(case h1=>assumption);(case h2=>assumption);(case h3=>assumption);(case h4=>assumption))
 | ((with_reducible refine' zmF ?h1 ?_);(case h1=>omega)) | ((with_reducible refine' r_div ?h1 ?h2 ?_);(case h1=>omega);(case h2=>omega)) | ((with_reducible refine' r_mul ?h1 ?_);(case h1=>first | (exact .inr ⟨by decide,by decide⟩) | (exact .inl ⟨by omega,by omega⟩) | (exact .inr ⟨by omega,by omega⟩))) | ((with_reducible refine' zmG ?h1 ?_);(case h1=>walk_at "hp"))
 | ((with_reducible refine' zhh ?h1 ?h2 ?_);(case h1=>walk_at "hp");(case h2=>walk_at "ix"))
 | ((with_reducible refine' zlx ?h1 ?_);(case h1=>walk_at "hp")) | ((with_reducible refine' zly ?h1 ?_);(case h1=>walk_at "hp")) | ((with_reducible refine' zmD ?h1 ?_);(case h1=>walk_at "hp"))
 | ((with_reducible refine' zmE ?h1 ?h2 ?_);(case h1=>walk_at "ty");(case h2=>rfl)))
local macro_rules | `(tactic| walk_at "rd")=>`(tactic| repeat (walk_at "rd1"))
local macro_rules | `(tactic| walk_at "st")=>`(tactic| repeat ((fail_if_success (with_reducible refine zjk ?_));walk_at "rd1"))
local macro_rules | `(tactic| walk_at "rdk")=>`(tactic| repeat (first | walk_at "rd1" | (with_reducible refine iteF ?_) | (with_reducible refine iteT ?_) | (refine zbN (fun h=>absurd h (by omega)) (fun _=>?_)) | (refine zbN (fun _=>?_) (fun h=>absurd (by omega) h))))
local macro_rules | `(tactic| symm)=>`(tactic| walk_at "rd")
set_option hygiene false
local macro_rules | `(tactic| walk_at "hd")=>`(tactic| (obtain ⟨e,kvs,rfl,hF,I⟩:=E0;have hcl:=T.cl_Exam;have nA:=T.n_Exam_paper_houses;have nB:=T.n_Exam_reader_rows;have nS:=T.n_Exam_widest_step;have nD:=T.n_Exam_is_dealt;have nC:=T.n_Exam_named_readers;have nE:=T.n_Exam_entered_points;have hob:=I.ob;have fA:=@exFs_a (.ref e.a) (.ref e.b) (.int st.step) (.bl st.dl.isSome) (.ref e.c) (.ref e.d);have fB:=@exFs_b (.ref e.a) (.ref e.b) (.int st.step) (.bl st.dl.isSome) (.ref e.c) (.ref e.d);have fS:=@exFs_s (.ref e.a) (.ref e.b) (.int st.step) (.bl st.dl.isSome) (.ref e.c) (.ref e.d);have fD:=@exFs_d (.ref e.a) (.ref e.b) (.int st.step) (.bl st.dl.isSome) (.ref e.c) (.ref e.d);have fC:=@exFs_c (.ref e.a) (.ref e.b) (.int st.step) (.bl st.dl.isSome) (.ref e.c) (.ref e.d);have fE:=@exFs_e (.ref e.a) (.ref e.b) (.int st.step) (.bl st.dl.isSome) (.ref e.c) (.ref e.d);have hha:=I.ha;have hhb:=I.hb;have hhc:=I.hc;have hhd:=I.hd))
set_option hygiene true
namespace Prf
open PySem PySem.Spec PyProof.Rows L2
def top (i:Nat):Stmt:=PySem.Challenge.pw_secondread_k38_whole_never_beyond.main.body.getD i (.Pass ⟨0,0,0,0⟩)
abbrev s_43:Stmt:=top 41
theorem sc_43:zao ["_law_script","_law_k"] ["_law_script","_law_k"] (zab s_43):=⟨rfl,rfl,rfl,by decide +kernel,rfl,by decide +kernel,by decide +kernel⟩
abbrev s_48:Stmt:=top 46
theorem sc_48:zao ["_law_script","_law_first","_law_least","_law_shape","_law_count","_law_few","_law_spare_here","_law_staff","_law_homes","_law_rows_here","_law_k","_law_cell","_law_one","_law_two","_law_fit","_law_used"] ["_law_script","_law_first","_law_least"] (zab s_48):=⟨rfl,rfl,rfl,by decide +kernel,rfl,by decide +kernel,by decide +kernel⟩
abbrev s_53:Stmt:=top 51
theorem sc_53:zao ["_law_cell"] ["_law_cell"] (zab s_53):=⟨rfl,rfl,rfl,by decide +kernel,rfl,by decide +kernel,by decide +kernel⟩
abbrev s_20:Stmt:=za6 (top 39) 0
theorem sc_20:zao ["self"] ["self"] (zab s_20):=⟨rfl,rfl,rfl,by decide +kernel,rfl,by decide +kernel,by decide +kernel⟩
abbrev s_35:Stmt:=za6 (top 39) 15
theorem sc_35:zao ["self"] ["self"] (zab s_35):=⟨rfl,rfl,rfl,by decide +kernel,rfl,by decide +kernel,by decide +kernel⟩
abbrev s_17:Stmt:=top 34
theorem sc_17:zao ["number","most"] ["number","most"] (zab s_17):=⟨rfl,rfl,rfl,by decide +kernel,rfl,by decide +kernel,by decide +kernel⟩
abbrev s_23:Stmt:=za6 (top 39) 3
theorem sc_23:zao ["self","step"] ["self","step"] (zab s_23):=⟨rfl,rfl,rfl,by decide +kernel,rfl,by decide +kernel,by decide +kernel⟩
abbrev s_16:Stmt:=top 33
theorem sc_16:zao ["number","least","most"] ["number","least","most"] (zab s_16):=⟨rfl,rfl,rfl,by decide +kernel,rfl,by decide +kernel,by decide +kernel⟩
abbrev s_18:Stmt:=top 35
theorem sc_18:zao ["many","most"] ["many","most"] (zab s_18):=⟨rfl,rfl,rfl,by decide +kernel,rfl,by decide +kernel,by decide +kernel⟩
abbrev s_21:Stmt:=za6 (top 39) 1
theorem sc_21:zao ["self","house"] ["self","house"] (zab s_21):=⟨rfl,rfl,rfl,by decide +kernel,rfl,by decide +kernel,by decide +kernel⟩
abbrev s_22:Stmt:=za6 (top 39) 2
theorem sc_22:zao ["self","house","limit"] ["self","house","limit"] (zab s_22):=⟨rfl,rfl,rfl,by decide +kernel,rfl,by decide +kernel,by decide +kernel⟩
abbrev s_51:Stmt:=top 49
theorem sc_51:zao ["_law_homes","_law_staff","_law_step_here","_law_turn","_law_exam_here","_law_house","_law_one"] ["_law_homes","_law_staff","_law_step_here","_law_turn"] (zab s_51):=⟨rfl,rfl,rfl,by decide +kernel,rfl,by decide +kernel,by decide +kernel⟩
abbrev s_44:Stmt:=top 42
theorem sc_44:zao ["_law_found"] ["_law_found"] (zab s_44):=⟨rfl,rfl,rfl,by decide +kernel,rfl,by decide +kernel,by decide +kernel⟩
abbrev s_49:Stmt:=top 47
theorem sc_49:zao ["_law_staff","_law_house","_law_row_here","_law_one"] ["_law_staff","_law_house","_law_row_here"] (zab s_49):=⟨rfl,rfl,rfl,by decide +kernel,rfl,by decide +kernel,by decide +kernel⟩
abbrev s_50:Stmt:=top 48
theorem sc_50:zao ["_law_homes","_law_staff","_law_rows_here","_law_k"] ["_law_homes","_law_staff","_law_rows_here"] (zab s_50):=⟨rfl,rfl,rfl,by decide +kernel,rfl,by decide +kernel,by decide +kernel⟩
abbrev s_30:Stmt:=za6 (top 39) 10
theorem sc_30:zao ["self"] ["self"] (zab s_30):=⟨rfl,rfl,rfl,by decide +kernel,rfl,by decide +kernel,by decide +kernel⟩
abbrev s_45:Stmt:=top 43
theorem sc_45:zao ["_law_found","_law_due"] ["_law_found","_law_due"] (zab s_45):=⟨rfl,rfl,rfl,by decide +kernel,rfl,by decide +kernel,by decide +kernel⟩
abbrev s_12:Stmt:=top 20
theorem sc_12:zao ["numbers","pairs","place","first","second"] ["numbers"] (zab s_12):=⟨rfl,rfl,rfl,by decide +kernel,rfl,by decide +kernel,by decide +kernel⟩
abbrev s_1:Stmt:=top 2
theorem sc_1:zao ["papers","readers","paper","reader","reader_house"] ["papers","readers","paper","reader"] (zab s_1):=⟨rfl,rfl,rfl,by decide +kernel,rfl,by decide +kernel,by decide +kernel⟩
abbrev s_2:Stmt:=top 3
theorem sc_2:zao ["papers","readers","paper"] ["papers","readers","paper"] (zab s_2):=⟨rfl,rfl,rfl,by decide +kernel,rfl,by decide +kernel,by decide +kernel⟩
abbrev s_9:Stmt:=top 17
theorem sc_9:zao ["rows","reader"] ["rows","reader"] (zab s_9):=⟨rfl,rfl,rfl,by decide +kernel,rfl,by decide +kernel,by decide +kernel⟩
abbrev s_8:Stmt:=top 16
theorem sc_8:zao ["readers","rows"] ["readers","rows"] (zab s_8):=⟨rfl,rfl,rfl,by decide +kernel,rfl,by decide +kernel,by decide +kernel⟩
abbrev s_7:Stmt:=top 15
theorem sc_7:zao ["readers","rows"] ["readers","rows"] (zab s_7):=⟨rfl,rfl,rfl,by decide +kernel,rfl,by decide +kernel,by decide +kernel⟩
abbrev s_Attempt___init__:Stmt:=za6 (top 13) 0
theorem sc_Attempt___init__:zao ["self","papers","readers"] ["self","papers","readers"] (zab s_Attempt___init__):=⟨rfl,rfl,rfl,by decide +kernel,rfl,by decide +kernel,by decide +kernel⟩
abbrev s_Attempt_free_reading:Stmt:=za6 (top 13) 2
theorem sc_Attempt_free_reading:zao ["self","reader","asked","paper"] ["self","reader","asked"] (zab s_Attempt_free_reading):=⟨rfl,rfl,rfl,by decide +kernel,rfl,by decide +kernel,by decide +kernel⟩
abbrev s_Attempt_find_reader:Stmt:=za6 (top 13) 1
theorem sc_Attempt_find_reader:zao ["self","paper","asked","reader"] ["self","paper","asked"] (zab s_Attempt_find_reader):=⟨rfl,rfl,rfl,by decide +kernel,rfl,by decide +kernel,by decide +kernel⟩
abbrev s_3:Stmt:=top 12
theorem sc_3:zao ["papers","readers","attempt","paper","turn"] ["papers","readers"] (zab s_3):=⟨rfl,rfl,rfl,by decide +kernel,rfl,by decide +kernel,by decide +kernel⟩
abbrev s_14:Stmt:=top 22
theorem sc_14:zao ["readers","limits"] ["readers","limits"] (zab s_14):=⟨rfl,rfl,rfl,by decide +kernel,rfl,by decide +kernel,by decide +kernel⟩
abbrev s_13:Stmt:=top 21
theorem sc_13:zao ["papers","readers","rows"] ["papers","readers","rows"] (zab s_13):=⟨rfl,rfl,rfl,by decide +kernel,rfl,by decide +kernel,by decide +kernel⟩
abbrev s_11:Stmt:=top 19
theorem sc_11:zao ["papers","readers","rows","paper","row"] ["papers","readers","rows"] (zab s_11):=⟨rfl,rfl,rfl,by decide +kernel,rfl,by decide +kernel,by decide +kernel⟩
abbrev s_10:Stmt:=top 18
theorem sc_10:zao ["papers","readers","rows","row"] ["papers","readers"] (zab s_10):=⟨rfl,rfl,rfl,by decide +kernel,rfl,by decide +kernel,by decide +kernel⟩
abbrev s_24:Stmt:=za6 (top 39) 4
theorem sc_24:zao ["self","rows"] ["self"] (zab s_24):=⟨rfl,rfl,rfl,by decide +kernel,rfl,by decide +kernel,by decide +kernel⟩
abbrev s_52:Stmt:=top 50
theorem sc_52:zao ["_law_staff","_law_names","_law_left","_law_k"] ["_law_staff","_law_names"] (zab s_52):=⟨rfl,rfl,rfl,by decide +kernel,rfl,by decide +kernel,by decide +kernel⟩
abbrev s_54:Stmt:=top 52
theorem sc_54:zao ["_law_names","_law_entered","_law_rows_here","_law_k","_law_reader"] ["_law_names","_law_entered"] (zab s_54):=⟨rfl,rfl,rfl,by decide +kernel,rfl,by decide +kernel,by decide +kernel⟩
abbrev s_46:Stmt:=top 44
theorem sc_46:zao ["_law_found","_law_due","_law_k"] ["_law_found","_law_due"] (zab s_46):=⟨rfl,rfl,rfl,by decide +kernel,rfl,by decide +kernel,by decide +kernel⟩
abbrev s_47:Stmt:=top 45
theorem sc_47:zao ["_law_found","_law_due","_law_k"] ["_law_found","_law_due"] (zab s_47):=⟨rfl,rfl,rfl,by decide +kernel,rfl,by decide +kernel,by decide +kernel⟩
abbrev s_38:Stmt:=za6 (top 39) 18
theorem sc_38:zao ["self","paper","entered"] ["self","paper"] (zab s_38):=⟨rfl,rfl,rfl,by decide +kernel,rfl,by decide +kernel,by decide +kernel⟩
abbrev s_32:Stmt:=za6 (top 39) 12
theorem sc_32:zao ["self","rows","paper"] ["self"] (zab s_32):=⟨rfl,rfl,rfl,by decide +kernel,rfl,by decide +kernel,by decide +kernel⟩
abbrev s_34:Stmt:=za6 (top 39) 14
theorem sc_34:zao ["self"] ["self"] (zab s_34):=⟨rfl,rfl,rfl,by decide +kernel,rfl,by decide +kernel,by decide +kernel⟩
abbrev s_55:Stmt:=top 53
theorem sc_55:zao ["_law_cell","_law_before"] ["_law_cell","_law_before"] (zab s_55):=⟨rfl,rfl,rfl,by decide +kernel,rfl,by decide +kernel,by decide +kernel⟩
abbrev s_36:Stmt:=za6 (top 39) 16
theorem sc_36:zao ["self"] ["self"] (zab s_36):=⟨rfl,rfl,rfl,by decide +kernel,rfl,by decide +kernel,by decide +kernel⟩
abbrev s_37:Stmt:=za6 (top 39) 17
theorem sc_37:zao ["self","paper","reader"] ["self","paper","reader"] (zab s_37):=⟨rfl,rfl,rfl,by decide +kernel,rfl,by decide +kernel,by decide +kernel⟩
abbrev s_39:Stmt:=za6 (top 39) 19
theorem sc_39:zao ["self","paper","entered"] ["self","paper"] (zab s_39):=⟨rfl,rfl,rfl,by decide +kernel,rfl,by decide +kernel,by decide +kernel⟩
abbrev s_15:Stmt:=top 31
theorem sc_15:zao ["one","other","step"] ["one","other","step"] (zab s_15):=⟨rfl,rfl,rfl,by decide +kernel,rfl,by decide +kernel,by decide +kernel⟩
abbrev s_42:Stmt:=za6 (top 39) 22
theorem sc_42:zao ["self","paper","points"] ["self","paper"] (zab s_42):=⟨rfl,rfl,rfl,by decide +kernel,rfl,by decide +kernel,by decide +kernel⟩
abbrev s_19:Stmt:=top 37
theorem sc_19:zao ["papers","readers","left","paper","row","reader"] ["papers","readers","left","paper","row"] (zab s_19):=⟨rfl,rfl,rfl,by decide +kernel,rfl,by decide +kernel,by decide +kernel⟩
abbrev s_41:Stmt:=za6 (top 39) 21
theorem sc_41:zao ["self","paper","named","third"] ["self","paper"] (zab s_41):=⟨rfl,rfl,rfl,by decide +kernel,rfl,by decide +kernel,by decide +kernel⟩
abbrev s_25:Stmt:=za6 (top 39) 5
theorem sc_25:zao ["self","paper","reader","points"] ["self","paper","reader","points"] (zab s_25):=⟨rfl,rfl,rfl,by decide +kernel,rfl,by decide +kernel,by decide +kernel⟩
abbrev s_56:Stmt:=top 54
theorem sc_56:zao ["_law_homes","_law_staff","_law_left","_law_names","_law_paper","_law_k"] ["_law_homes","_law_staff","_law_left","_law_names","_law_paper"] (zab s_56):=⟨rfl,rfl,rfl,by decide +kernel,rfl,by decide +kernel,by decide +kernel⟩
abbrev s_57:Stmt:=top 55
theorem sc_57:zao ["_law_script","_law_made","_law_step_here","_law_exam_here","_law_names","_law_entered","_law_got","_law_k","_law_left","_law_waiting","_law_cell","_law_one","_law_mine","_law_third","_law_apart_here"] ["_law_script"] (zab s_57):=⟨rfl,rfl,rfl,by decide +kernel,rfl,by decide +kernel,by decide +kernel⟩
set_option genInjectivity false in
set_option genSizeOf false in
structure Adr where
 f_43:Addr
 d_43:FuncData
 f_48:Addr
 d_48:FuncData
 f_53:Addr
 d_53:FuncData
 f_20:Addr
 d_20:FuncData
 f_35:Addr
 d_35:FuncData
 f_17:Addr
 d_17:FuncData
 f_23:Addr
 d_23:FuncData
 f_16:Addr
 d_16:FuncData
 f_18:Addr
 d_18:FuncData
 f_21:Addr
 d_21:FuncData
 f_22:Addr
 d_22:FuncData
 f_51:Addr
 d_51:FuncData
 f_44:Addr
 d_44:FuncData
 f_49:Addr
 d_49:FuncData
 f_50:Addr
 d_50:FuncData
 f_30:Addr
 d_30:FuncData
 f_45:Addr
 d_45:FuncData
 f_12:Addr
 d_12:FuncData
 f_1:Addr
 d_1:FuncData
 f_2:Addr
 d_2:FuncData
 f_9:Addr
 d_9:FuncData
 f_8:Addr
 d_8:FuncData
 f_7:Addr
 d_7:FuncData
 f_Attempt___init__:Addr
 d_Attempt___init__:FuncData
 f_Attempt_free_reading:Addr
 d_Attempt_free_reading:FuncData
 f_Attempt_find_reader:Addr
 d_Attempt_find_reader:FuncData
 f_3:Addr
 d_3:FuncData
 f_14:Addr
 d_14:FuncData
 f_13:Addr
 d_13:FuncData
 f_11:Addr
 d_11:FuncData
 f_10:Addr
 d_10:FuncData
 f_24:Addr
 d_24:FuncData
 f_52:Addr
 d_52:FuncData
 f_54:Addr
 d_54:FuncData
 f_46:Addr
 d_46:FuncData
 f_47:Addr
 d_47:FuncData
 f_38:Addr
 d_38:FuncData
 f_32:Addr
 d_32:FuncData
 f_34:Addr
 d_34:FuncData
 f_55:Addr
 d_55:FuncData
 f_36:Addr
 d_36:FuncData
 f_37:Addr
 d_37:FuncData
 f_39:Addr
 d_39:FuncData
 f_15:Addr
 d_15:FuncData
 f_42:Addr
 d_42:FuncData
 f_19:Addr
 d_19:FuncData
 f_41:Addr
 d_41:FuncData
 f_25:Addr
 d_25:FuncData
 f_56:Addr
 d_56:FuncData
 f_57:Addr
 d_57:FuncData
 C_Attempt:Addr
 C_Exam:Addr
 k_READERS_EACH:Value
 k_MOST_HOUSES:Value
 k_MOST_PAPERS:Value
 k_MOST_LIMIT:Value
 k_MOST_READERS:Value
 k_MOST_STEP:Value
 k_MOST_POINTS:Value
set_option genInjectivity false in
set_option genSizeOf false in
structure Txt (K:PySem.W.Frag) (mg:Str→Option Value) (t:Adr):Prop where
 F_43:Fun K "_law_at" "_law_at" s_43 t.f_43 t.d_43
 b_43:Binds K t.d_43 ["_law_script","_law_k"] []
 m_43:mg "_law_at" = some (.ref t.f_43)
 F_48:Fun K "_law_planted" "_law_planted" s_48 t.f_48 t.d_48
 b_48:Binds K t.d_48 ["_law_script","_law_first","_law_least"] []
 m_48:mg "_law_planted" = some (.ref t.f_48)
 F_53:Fun K "_law_step" "_law_step" s_53 t.f_53 t.d_53
 b_53:Binds K t.d_53 ["_law_cell"] []
 m_53:mg "_law_step" = some (.ref t.f_53)
 F_20:Fun K "__init__" "Exam.__init__" s_20 t.f_20 t.d_20
 b_20:Binds K t.d_20 ["self"] []
 mk_Exam:Mk K t.C_Exam t.f_20
 F_35:Fun K "refuse_behind_dealing" "Exam.refuse_behind_dealing" s_35 t.f_35 t.d_35
 b_35:Binds K t.d_35 ["self"] []
 me_35:Meth K t.C_Exam "refuse_behind_dealing" t.f_35
 F_17:Fun K "refuse_out_of_bounds" "refuse_out_of_bounds" s_17 t.f_17 t.d_17
 b_17:Binds K t.d_17 ["number","most"] []
 m_17:mg "refuse_out_of_bounds" = some (.ref t.f_17)
 F_23:Fun K "set_step" "Exam.set_step" s_23 t.f_23 t.d_23
 b_23:Binds K t.d_23 ["self","step"] []
 me_23:Meth K t.C_Exam "set_step" t.f_23
 F_16:Fun K "refuse_unknown" "refuse_unknown" s_16 t.f_16 t.d_16
 b_16:Binds K t.d_16 ["number","least","most"] []
 m_16:mg "refuse_unknown" = some (.ref t.f_16)
 F_18:Fun K "refuse_full" "refuse_full" s_18 t.f_18 t.d_18
 b_18:Binds K t.d_18 ["many","most"] []
 m_18:mg "refuse_full" = some (.ref t.f_18)
 F_21:Fun K "bring_paper" "Exam.bring_paper" s_21 t.f_21 t.d_21
 b_21:Binds K t.d_21 ["self","house"] []
 me_21:Meth K t.C_Exam "bring_paper" t.f_21
 F_22:Fun K "bring_reader" "Exam.bring_reader" s_22 t.f_22 t.d_22
 b_22:Binds K t.d_22 ["self","house","limit"] []
 me_22:Meth K t.C_Exam "bring_reader" t.f_22
 F_51:Fun K "_law_exam" "_law_exam" s_51 t.f_51 t.d_51
 b_51:Binds K t.d_51 ["_law_homes","_law_staff","_law_step_here","_law_turn"] []
 m_51:mg "_law_exam" = some (.ref t.f_51)
 F_44:Fun K "_law_whole" "_law_whole" s_44 t.f_44 t.d_44
 b_44:Binds K t.d_44 ["_law_found"] []
 m_44:mg "_law_whole" = some (.ref t.f_44)
 F_49:Fun K "_law_pair" "_law_pair" s_49 t.f_49 t.d_49
 b_49:Binds K t.d_49 ["_law_staff","_law_house","_law_row_here"] []
 m_49:mg "_law_pair" = some (.ref t.f_49)
 F_50:Fun K "_law_right" "_law_right" s_50 t.f_50 t.d_50
 b_50:Binds K t.d_50 ["_law_homes","_law_staff","_law_rows_here"] []
 m_50:mg "_law_right" = some (.ref t.f_50)
 F_30:Fun K "dealing" "Exam.dealing" s_30 t.f_30 t.d_30
 b_30:Binds K t.d_30 ["self"] []
 me_30:Meth K t.C_Exam "dealing" t.f_30
 F_45:Fun K "_law_truth" "_law_truth" s_45 t.f_45 t.d_45
 b_45:Binds K t.d_45 ["_law_found","_law_due"] []
 m_45:mg "_law_truth" = some (.ref t.f_45)
 F_12:Fun K "pairs_of" "pairs_of" s_12 t.f_12 t.d_12
 b_12:Binds K t.d_12 ["numbers"] []
 m_12:mg "pairs_of" = some (.ref t.f_12)
 F_1:Fun K "may_read" "may_read" s_1 t.f_1 t.d_1
 b_1:Binds K t.d_1 ["papers","readers","paper","reader"] []
 m_1:mg "may_read" = some (.ref t.f_1)
 F_2:Fun K "readers_for" "readers_for" s_2 t.f_2 t.d_2
 b_2:Binds K t.d_2 ["papers","readers","paper"] []
 m_2:mg "readers_for" = some (.ref t.f_2)
 F_9:Fun K "times_in" "times_in" s_9 t.f_9 t.d_9
 b_9:Binds K t.d_9 ["rows","reader"] []
 m_9:mg "times_in" = some (.ref t.f_9)
 F_8:Fun K "left_after" "left_after" s_8 t.f_8 t.d_8
 b_8:Binds K t.d_8 ["readers","rows"] []
 m_8:mg "left_after" = some (.ref t.f_8)
 F_7:Fun K "keeps_to_limits" "keeps_to_limits" s_7 t.f_7 t.d_7
 b_7:Binds K t.d_7 ["readers","rows"] []
 m_7:mg "keeps_to_limits" = some (.ref t.f_7)
 F_Attempt___init__:Fun K "__init__" "Attempt.__init__" s_Attempt___init__ t.f_Attempt___init__ t.d_Attempt___init__
 b_Attempt___init__:Binds K t.d_Attempt___init__ ["self","papers","readers"] []
 mk_Attempt:Mk K t.C_Attempt t.f_Attempt___init__
 F_Attempt_free_reading:Fun K "free_reading" "Attempt.free_reading" s_Attempt_free_reading t.f_Attempt_free_reading t.d_Attempt_free_reading
 b_Attempt_free_reading:Binds K t.d_Attempt_free_reading ["self","reader","asked"] []
 me_Attempt_free_reading:Meth K t.C_Attempt "free_reading" t.f_Attempt_free_reading
 F_Attempt_find_reader:Fun K "find_reader" "Attempt.find_reader" s_Attempt_find_reader t.f_Attempt_find_reader t.d_Attempt_find_reader
 b_Attempt_find_reader:Binds K t.d_Attempt_find_reader ["self","paper","asked"] []
 me_Attempt_find_reader:Meth K t.C_Attempt "find_reader" t.f_Attempt_find_reader
 F_3:Fun K "readers_suffice" "readers_suffice" s_3 t.f_3 t.d_3
 b_3:Binds K t.d_3 ["papers","readers"] []
 m_3:mg "readers_suffice" = some (.ref t.f_3)
 F_14:Fun K "with_limits" "with_limits" s_14 t.f_14 t.d_14
 b_14:Binds K t.d_14 ["readers","limits"] []
 m_14:mg "with_limits" = some (.ref t.f_14)
 F_13:Fun K "can_go_on" "can_go_on" s_13 t.f_13 t.d_13
 b_13:Binds K t.d_13 ["papers","readers","rows"] []
 m_13:mg "can_go_on" = some (.ref t.f_13)
 F_11:Fun K "first_row_behind" "first_row_behind" s_11 t.f_11 t.d_11
 b_11:Binds K t.d_11 ["papers","readers","rows"] []
 m_11:mg "first_row_behind" = some (.ref t.f_11)
 F_10:Fun K "first_dealing" "first_dealing" s_10 t.f_10 t.d_10
 b_10:Binds K t.d_10 ["papers","readers"] []
 m_10:mg "first_dealing" = some (.ref t.f_10)
 F_24:Fun K "deal" "Exam.deal" s_24 t.f_24 t.d_24
 b_24:Binds K t.d_24 ["self"] []
 me_24:Meth K t.C_Exam "deal" t.f_24
 F_52:Fun K "_law_spare" "_law_spare" s_52 t.f_52 t.d_52
 b_52:Binds K t.d_52 ["_law_staff","_law_names"] []
 m_52:mg "_law_spare" = some (.ref t.f_52)
 F_54:Fun K "_law_wanted" "_law_wanted" s_54 t.f_54 t.d_54
 b_54:Binds K t.d_54 ["_law_names","_law_entered"] []
 m_54:mg "_law_wanted" = some (.ref t.f_54)
 F_46:Fun K "_law_row" "_law_row" s_46 t.f_46 t.d_46
 b_46:Binds K t.d_46 ["_law_found","_law_due"] []
 m_46:mg "_law_row" = some (.ref t.f_46)
 F_47:Fun K "_law_rows" "_law_rows" s_47 t.f_47 t.d_47
 b_47:Binds K t.d_47 ["_law_found","_law_due"] []
 m_47:mg "_law_rows" = some (.ref t.f_47)
 F_38:Fun K "due_readers" "Exam.due_readers" s_38 t.f_38 t.d_38
 b_38:Binds K t.d_38 ["self","paper"] []
 me_38:Meth K t.C_Exam "due_readers" t.f_38
 F_32:Fun K "due" "Exam.due" s_32 t.f_32 t.d_32
 b_32:Binds K t.d_32 ["self"] []
 me_32:Meth K t.C_Exam "due" t.f_32
 F_34:Fun K "left" "Exam.left" s_34 t.f_34 t.d_34
 b_34:Binds K t.d_34 ["self"] []
 me_34:Meth K t.C_Exam "left" t.f_34
 F_55:Fun K "_law_apart" "_law_apart" s_55 t.f_55 t.d_55
 b_55:Binds K t.d_55 ["_law_cell","_law_before"] []
 m_55:mg "_law_apart" = some (.ref t.f_55)
 F_36:Fun K "refuse_ahead_of_dealing" "Exam.refuse_ahead_of_dealing" s_36 t.f_36 t.d_36
 b_36:Binds K t.d_36 ["self"] []
 me_36:Meth K t.C_Exam "refuse_ahead_of_dealing" t.f_36
 F_37:Fun K "refuse_not_due" "Exam.refuse_not_due" s_37 t.f_37 t.d_37
 b_37:Binds K t.d_37 ["self","paper","reader"] []
 me_37:Meth K t.C_Exam "refuse_not_due" t.f_37
 F_39:Fun K "points_for" "Exam.points_for" s_39 t.f_39 t.d_39
 b_39:Binds K t.d_39 ["self","paper"] []
 me_39:Meth K t.C_Exam "points_for" t.f_39
 F_15:Fun K "agree" "agree" s_15 t.f_15 t.d_15
 b_15:Binds K t.d_15 ["one","other","step"] []
 m_15:mg "agree" = some (.ref t.f_15)
 F_42:Fun K "needs_third" "Exam.needs_third" s_42 t.f_42 t.d_42
 b_42:Binds K t.d_42 ["self","paper"] []
 me_42:Meth K t.C_Exam "needs_third" t.f_42
 F_19:Fun K "third_for" "third_for" s_19 t.f_19 t.d_19
 b_19:Binds K t.d_19 ["papers","readers","left","paper","row"] []
 m_19:mg "third_for" = some (.ref t.f_19)
 F_41:Fun K "name_third" "Exam.name_third" s_41 t.f_41 t.d_41
 b_41:Binds K t.d_41 ["self","paper"] []
 me_41:Meth K t.C_Exam "name_third" t.f_41
 F_25:Fun K "enter" "Exam.enter" s_25 t.f_25 t.d_25
 b_25:Binds K t.d_25 ["self","paper","reader","points"] []
 me_25:Meth K t.C_Exam "enter" t.f_25
 F_56:Fun K "_law_can" "_law_can" s_56 t.f_56 t.d_56
 b_56:Binds K t.d_56 ["_law_homes","_law_staff","_law_left","_law_names","_law_paper"] []
 m_56:mg "_law_can" = some (.ref t.f_56)
 F_57:Fun K "law" "law" s_57 t.f_57 t.d_57
 b_57:Binds K t.d_57 ["_law_script"] []
 m_57:mg "law" = some (.ref t.f_57)
 cl_Attempt:Cls K t.C_Attempt
 mg_Attempt:mg "Attempt" = some (.ref t.C_Attempt)
 n_Attempt_allowed:zbx K t.C_Attempt "allowed"
 n_Attempt_given:zbx K t.C_Attempt "given"
 n_Attempt_spare:zbx K t.C_Attempt "spare"
 cl_Exam:Cls K t.C_Exam
 mg_Exam:mg "Exam" = some (.ref t.C_Exam)
 n_Exam_paper_houses:zbx K t.C_Exam "paper_houses"
 n_Exam_reader_rows:zbx K t.C_Exam "reader_rows"
 n_Exam_widest_step:zbx K t.C_Exam "widest_step"
 n_Exam_is_dealt:zbx K t.C_Exam "is_dealt"
 n_Exam_named_readers:zbx K t.C_Exam "named_readers"
 n_Exam_entered_points:zbx K t.C_Exam "entered_points"
 v_READERS_EACH:mg "READERS_EACH" = some t.k_READERS_EACH
 w_READERS_EACH:RelV (.int 2) t.k_READERS_EACH
 v_MOST_HOUSES:mg "MOST_HOUSES" = some t.k_MOST_HOUSES
 w_MOST_HOUSES:RelV (.int 6) t.k_MOST_HOUSES
 v_MOST_PAPERS:mg "MOST_PAPERS" = some t.k_MOST_PAPERS
 w_MOST_PAPERS:RelV (.int 10) t.k_MOST_PAPERS
 v_MOST_LIMIT:mg "MOST_LIMIT" = some t.k_MOST_LIMIT
 w_MOST_LIMIT:RelV (.int 30) t.k_MOST_LIMIT
 v_MOST_READERS:mg "MOST_READERS" = some t.k_MOST_READERS
 w_MOST_READERS:RelV (.int 8) t.k_MOST_READERS
 v_MOST_STEP:mg "MOST_STEP" = some t.k_MOST_STEP
 w_MOST_STEP:RelV (.int 100) t.k_MOST_STEP
 v_MOST_POINTS:mg "MOST_POINTS" = some t.k_MOST_POINTS
 w_MOST_POINTS:RelV (.int 100) t.k_MOST_POINTS
 z_abs:mg "abs" = none
 z_all:mg "all" = none
 z_bool:mg "bool" = none
 z_enumerate:mg "enumerate" = none
 z_int:mg "int" = none
 z_isinstance:mg "isinstance" = none
 z_len:mg "len" = none
 z_list:mg "list" = none
 z_max:mg "max" = none
 z_min:mg "min" = none
 z_range:mg "range" = none
 z_sorted:mg "sorted" = none
 z_zip:mg "zip" = none
end Prf
namespace Prf
open PySem PySem.Spec PyProof.Rows L2
section
variable {P:Program} {w:World} {K:PySem.W.Frag} {mg:Str→Option Value} {base:Heap} {t:Adr}
def zfK (K:PySem.W.Frag):Sp:=fun vs H Q _=>vs.length=2∧∃ (a:Addr) (ns:List Int) (k:Int),vs=[.ref a,.int k]∧SqL K H a (ns.map V.int)∧ns.length≤63∧Q (.int (zbK ns k)) H
theorem zfL (T:Txt K mg t):FnOk P w K mg base CX0 1 t.f_43 t.d_43 ["_law_script","_law_k"] (zfK K):=by
 refine T.F_43.ok sc_43 (fun _ _ _ _ h=>h.1) fun cdv A outer s H vs Q E hr h=>by
  refine ⟨_,(zac (zaX (zaq (zcR (K:=K) rfl hr.units0) (zah (zaj (K:=K) rfl) (by rfl) T.z_len (by rfl) (zaa (pv 0) pa_nil)) zad (zaB _))
   (zae (zal zad)) pss_nil)
   (zae (zal (zap (op_addG) (zax (zaf (K:=K) rfl) (pv 0) (zap (op_mod) (pv 1) (zah (zaj (K:=K) rfl) (by rfl) T.z_len (by rfl) (zaa (pv 0) pa_nil))) (fun _ _=>rfl)) (zap (op_fdivB) (pv 1) (zah (zaj (K:=K) rfl) (by rfl) T.z_len (by rfl) (zaa (pv 0) pa_nil))))))),?_⟩
  obtain ⟨_,a,ns,k,rfl,hS,hl,q⟩:=h;symm;unfold zbK at q;refine zbN (fun h0=>?_) (fun h0=>?_)
  ·rw [if_pos h0] at q;symm;exact q
  ·rw [if_neg h0] at q;have h3:(0:Int) < ns.length:=by omega
   symm;refine zhh hS (zdk (Int.emod_nonneg _ h0) (Int.emod_lt_of_pos _ h3)) ?_;symm;exact q
theorem zg3 {H:Hp} {a:Addr} {ns:List Int} {k:Int} {Q:VK} {E:XK} (h:SqL K H a (ns.map V.int)) (hl:ns.length≤63) (q:Q (.int (zbK ns k)) H):zfK K [.ref a,.int k] H Q E:=⟨rfl,a,ns,k,rfl,h,hl,q⟩
local macro_rules | `(tactic| walk_at "rd1")=>`(tactic| ((with_reducible refine' zg3 ?h1 ?h2 ?_);(case h1=>walk_at "hp");(case h2=>omega)))
theorem few3 {k:Int} (h0:0≤k) (h1:k < 3):2≤([6,2,3]:List Int).getD k.toNat 0∧([6,2,3]:List Int).getD k.toNat 0≤6:=by
 have:k=0∨k=1∨k=2:=by omega
 rcases this with rfl | rfl | rfl <;> decide
theorem zmc {k:Int} (h0:0≤k) (h1:k < 3):1≤([31,1,2]:List Int).getD k.toNat 0∧([31,1,2]:List Int).getD k.toNat 0≤31:=by
 have:k=0∨k=1∨k=2:=by omega
 rcases this with rfl | rfl | rfl <;> decide
structure zc3 (B:Hp) (p ph ps pr:Addr) (sa ra:List Addr) (hs:List Int) (rs rows:List (List Int)) (H:Hp):Prop where
 same:Same B H
 at_p:H p=some (.lst [.ref ph,.ref ps,.ref pr])
 at_h:H ph=some (.lst (hs.map V.int))
 at_s:H ps=some (.lst (sa.map V.ref))
 at_r:H pr=some (.lst (ra.map V.ref))
 sl:sa.length=rs.length
 rl:ra.length=rows.length
 s_at:∀ i,i < rs.length→H (sa.getD i 0)=some (.lst ((rs.getD i []).map V.int))
 r_at:∀ i,i < rows.length→H (ra.getD i 0)=some (.lst ((rows.getD i []).map V.int))
 apart:(p::ph::ps::pr::(sa++ra)).Nodup
 new:∀ b∈p::ph::ps::pr::(sa++ra),B b=none
theorem zc3.ls {K:PySem.W.Frag} {B H:Hp} {p ph ps pr:Addr} {sa ra:List Addr} {hs:List Int} {rs rows:List (List Int)} (P:zc3 B p ph ps pr sa ra hs rs rows H):LL K H ps rs:=⟨sa,SqL.of P.at_s,P.sl,P.s_at⟩
theorem zc3.mono {B H H':Hp} {p ph ps pr:Addr} {sa ra:List Addr} {hs:List Int} {rs rows:List (List Int)} (P:zc3 B p ph ps pr sa ra hs rs rows H) (s:Same H H'):zc3 B p ph ps pr sa ra hs rs rows H' :=
 ⟨P.same.trans s,s _ _ P.at_p,s _ _ P.at_h,s _ _ P.at_s,s _ _ P.at_r,P.sl,P.rl,fun i hi=>s _ _ (P.s_at i hi),fun i hi=>s _ _ (P.r_at i hi),P.apart,P.new⟩
def stB (hB lB:Nat→Int) (c i:Nat):List (List Int):=(List.range c).map fun j=>[hB j,if j < i then lB j else 0]
theorem zdF {hB lB:Nat→Int} {c i j:Nat} (h:j < c):(stB hB lB c i).getD j []=[hB j,if j < i then lB j else 0]:=zaE h
theorem zck {hB lB:Nat→Int} {c i:Nat}:(stB hB lB c i).length=c:=by unfold stB;rw [List.length_map,List.length_range]
theorem zhy {least:Int} {c:Nat} {hB lB:Nat→Int} {hs:List Int} {rows:List (List Int)} (c2:2≤c) (c8:c≤8) (l0:least≤hs.length) (l1:hs.length≤10) (hl:rows.length=hs.length) (hP:∀ i,i < hs.length→PRow c hB (hs.getD i 0) (rows.getD i []))
  (hh:∀ j,j < c→0≤hB j∧hB j≤6) (hlim:∀ j,j < c→(cntB rows (0+(j:Int)+1):Int)≤lB j∧lB j≤30):zf8 least hs (stB hB lB c c) rows:=by
 refine ⟨⟨l1,by rw [zck];exact c8,fun i hi=>(hP i hi).rng,fun i hi=>?_,fun i hi=>?_,fun i hi=>?_⟩,by rw [zck];exact c2,hl,l0,fun i hi=>?_,?_⟩
 ·rw [zck] at hi;rw [zdF hi];rfl
 ·rw [zck] at hi;rw [zdF hi];exact hh i hi
 ·rw [zck] at hi;rw [zdF hi,if_pos hi];have:=hlim i hi;show 0≤lB i∧lB i≤30;omega
 ·obtain ⟨⟨x,y,_,_,e,_⟩,_⟩:=hP i (by omega);rw [e];rfl
 ·unfold zaT;rw [decide_eq_true hl,Bool.true_and,zba (fun k hk=>(hP k hk).pair zck fun j hj=>by rw [zdF hj];rfl),Bool.true_and];refine zba fun k hk=>decide_eq_true ?_;rw [zck] at hk;rw [zdF hk,if_pos hk];exact (hlim k hk).1
def zcT (K:PySem.W.Frag):Sp:=fun vs H Q _=>vs.length=3∧∃ (a:Addr) (ns:List Int) (first least:Int),vs=[.ref a,.int first,.int least]∧SqL K H a (ns.map V.int)∧ns.length≤63∧0≤least∧least≤10 ∧
 ∀ (p ph ps pr:Addr) (sa ra:List Addr) (hs:List Int) (rs rows:List (List Int)) (H2:Hp),zc3 H p ph ps pr sa ra hs rs rows H2→zf8 least hs rs rows→Q (.ref p) H2
theorem zeu (T:Txt K mg t):FnOk P w K mg base CX0 2 t.f_48 t.d_48 ["_law_script","_law_first","_law_least"] (zcT K):=by
 have G_43:=zfL (P:=P) (w:=w) (base:=base) T;refine T.F_48.ok sc_48 (fun _ _ _ _ h=>h.1) fun cdv A outer s H vs Q E hr h=>by
  refine ⟨_,(zac (zaL (i:=3) sc_48.nd rfl (Or.inl rfl) (zan G_43 (hr.mono (by decide)) (by rfl) T.m_43 T.F_43.kp T.b_43 .nil zav (zaa (pv 0) (zaa (pv 1) pa_nil))))
   (zac (zaL (i:=4) sc_48.nd rfl (Or.inl rfl) (zap (op_addG) zad (zap (op_mod) (pv 3) zad)))
   (zac (zaL (i:=5) sc_48.nd rfl (Or.inr rfl) (zax (zaf (K:=K) rfl) (zaV (zaa zad (zaa zad (zaa zad pa_nil)))) (zap (op_mod) (zap (op_fdivB) (pv 3) zad) zad) (fun _ _=>rfl)))
   (zac (zaL (i:=6) sc_48.nd rfl (Or.inl rfl) (zax (zaf (K:=K) rfl) (zaV (zaa zad (zaa zad (zaa zad pa_nil)))) (zap (op_mod) (zap (op_fdivB) (pv 3) zad) zad) (fun _ _=>rfl)))
   (zac (zaL (i:=7) sc_48.nd rfl (Or.inr rfl) (zbd (zat (sc:=zab s_48) (XN:=["_law_script","_law_first","_law_least","_law_shape","_law_count","_law_few","_law_spare_here","_law_staff","_law_homes","_law_rows_here","_law_k","_law_cell","_law_one","_law_two","_law_fit","_law_used"]) (N:=["_law_k","_law_script","_law_first","_law_few"]) (own:=1) (js:=[0,1,5]) rfl rfl (by decide +kernel)) rfl (za8 (by rfl) T.z_range (zaa (pv 4) pa_nil)) (fun _ _ _ _ _=>(zar (i:=0) (show List.Nodup [(Str.ofString "_law_k"),(Str.ofString "_law_script"),(Str.ofString "_law_first"),(Str.ofString "_law_few")] by decide +kernel) rfl (Or.inl rfl))) (fun _ _ _ _ _=>zbM) (fun _ _ _ _ _=>(zaV (zaa (zap (op_mod) (zap (op_mod) (zan G_43 (hr.mono (by decide)) (by rfl) T.m_43 T.F_43.kp T.b_43 .nil zav (zaa (pv 1) (zaa (zap (op_addG) (zap (op_addG) (pv 2) zad) (pv 0)) pa_nil))) zad) (zap (op_addG) (pv 3) zad)) (zaa zad pa_nil))))))
   (zac (zaL (i:=8) sc_48.nd rfl (Or.inl rfl) (zaV pa_nil))
   (zac (zaL (i:=9) sc_48.nd rfl (Or.inl rfl) (zaV pa_nil))
   (zac (zbc PassesOwn.never rfl (za8 (by rfl) T.z_range (zaa (zap (op_addG) (pv 2) (zap (op_mod) (zan G_43 (hr.mono (by decide)) (by rfl) T.m_43 T.F_43.kp T.b_43 .nil zav (zaa (pv 0) (zaa (zap (op_addG) (pv 1) zad) pa_nil))) (zap (op_sub) zad (pv 2)))) pa_nil)) (zar (i:=10) sc_48.nd rfl (Or.inr rfl))
   (zac (zaL (i:=11) sc_48.nd rfl (Or.inl rfl) (zan G_43 (hr.mono (by decide)) (by rfl) T.m_43 T.F_43.kp T.b_43 .nil zav (zaa (pv 0) (zaa (zap (op_addG) (zap (op_addG) (pv 1) zad) (pv 10)) pa_nil))))
   (zac (zaL (i:=12) sc_48.nd rfl (Or.inr rfl) (zap (op_mod) (pv 11) (pv 4)))
   (zac (zaL (i:=13) sc_48.nd rfl (Or.inr rfl) (zap (op_mod) (zap (op_addG) (zap (op_addG) (pv 12) zad) (zap (op_mod) (zap (op_fdivB) (pv 11) zad) (zap (op_sub) (pv 4) zad))) (pv 4)))
   (zac (zeC (i:=14) sc_48.nd rfl (Or.inl rfl) (by rfl) (zat (sc:=zab s_48) (XN:=["_law_script","_law_first","_law_least","_law_shape","_law_count","_law_few","_law_spare_here","_law_staff","_law_homes","_law_rows_here","_law_k","_law_cell","_law_one","_law_two","_law_fit","_law_used"]) (N:=["_law_h","_law_staff","_law_one","_law_two"]) (own:=1) (js:=[7,12,13]) rfl rfl (by decide +kernel)) rfl (zb6 (by rfl) T.z_range (zaa zad (zaa zad pa_nil))) (fun _ _ _ _ _=>(zar (i:=0) (show List.Nodup [(Str.ofString "_law_h"),(Str.ofString "_law_staff"),(Str.ofString "_law_one"),(Str.ofString "_law_two")] by decide +kernel) rfl (Or.inl rfl))) (fun _ _ _ _ _=>(zc2 (zfb (zaq (zcS (K:=K) rfl hr.units0) (pv 0) (zax (zaf (K:=K) rfl) (zax (zaf (K:=K) rfl) (pv 1) (pv 2) (fun _ _=>rfl)) zad (fun _ _=>rfl)) (zaB _)) (zeR (zaq (zcS (K:=K) rfl hr.units0) (pv 0) (zax (zaf (K:=K) rfl) (zax (zaf (K:=K) rfl) (pv 1) (pv 3) (fun _ _=>rfl)) zad (fun _ _=>rfl)) (zaB _)))).pt)) (fun _ _ _ _ _=>(pv 0)))
   (zac (zaX (zaq (op_lt) (pv 5) zad (zaB _))
   (zae (zaL (i:=14) sc_48.nd rfl (Or.inl rfl) (zde (zdi (K:=K) rfl) (pv 14) po_none (zd7 zad)))) pss_nil)
   (zac (zaG (zbW (K:=K) rfl PySem.F.plainAttrs_list PySem.F.slot_list_append PySem.F.type_list_append mt_append (pv 8) (zaa (zax (zaf (K:=K) rfl) (pv 14) (zap (op_mod) (zap (op_fdivB) (pv 11) zad) (zah (zaj (K:=K) rfl) (by rfl) T.z_len (by rfl) (zaa (pv 14) pa_nil))) (fun _ _=>rfl)) pa_nil)))
   (zae (zaG (zbW (K:=K) rfl PySem.F.plainAttrs_list PySem.F.slot_list_append PySem.F.type_list_append mt_append (pv 9) (zaa (zaV (zaa (zap (op_addG) (zah (zeF rfl) (by rfl) T.z_min (by rfl) (zaa (pv 12) (zaa (pv 13) pa_nil))) zad) (zaa (zap (op_addG) (zah (zhj rfl) (by rfl) T.z_max (by rfl) (zaa (pv 12) (zaa (pv 13) pa_nil))) zad) pa_nil))) pa_nil)))))))))))
   (zac (zbc PassesOwn.never rfl (za8 (by rfl) T.z_range (zaa (pv 4) pa_nil)) (zar (i:=10) sc_48.nd rfl (Or.inr rfl))
   (zac (zaL (i:=15) sc_48.nd rfl (Or.inl rfl) (zah (zaj (K:=K) rfl) (by rfl) T.z_len (by rfl) (zaa (zbd (zat (sc:=zab s_48) (XN:=["_law_script","_law_first","_law_least","_law_shape","_law_count","_law_few","_law_spare_here","_law_staff","_law_homes","_law_rows_here","_law_k","_law_cell","_law_one","_law_two","_law_fit","_law_used"]) (N:=["_law_row_here","_law_k"]) (own:=1) (js:=[10]) rfl rfl (by decide +kernel)) rfl (zaO (K:=K) rfl (pv 9)) (fun _ _ _ _ _=>(zar (i:=0) (show List.Nodup [(Str.ofString "_law_row_here"),(Str.ofString "_law_k")] by decide +kernel) rfl (Or.inl rfl))) (fun _ _ _ _ _=>(zc2 (zaq (zeL (K:=K) rfl (zc0 hr)) (zap (op_addG) (pv 1) zad) (pv 0) (by with_unfolding_all rfl)))) (fun _ _ _ _ _=>(pv 0))) pa_nil)))
   (zae (zj0 (zah (zeF rfl) (by rfl) T.z_min (by rfl) (zaa zad (zaa (zap (op_addG) (pv 15) (zap (op_mod) (zap (op_fdivB) (zan G_43 (hr.mono (by decide)) (by rfl) T.m_43 T.F_43.kp T.b_43 .nil zav (zaa (pv 0) (zaa (zap (op_addG) (zap (op_addG) (pv 1) zad) (pv 10)) pa_nil))) zad) (pv 6))) pa_nil))) (zjZ (zax (zaf (K:=K) rfl) (pv 7) (pv 10) (fun _ _=>rfl)) zad set_list)))))
   (zae (zal (zaV (zaa (pv 8) (zaa (pv 7) (zaa (pv 9) pa_nil))))))))))))))),?_⟩
  obtain ⟨_,a,ns,first,least,rfl,hS,hl,l0,l1,q⟩:=h;symm;generalize hsh:zbK ns first=shape
  refine zaA (by decide) fun p1 H1 f1 s1 e1=>?_;have hS1:=s1.seq hS;symm;have hfew:=few3 (k:=shape / 7 % 3) (by omega) (by omega);refine zhh (SqL.of e1) (zdk (ns:=[6,2,3]) (by omega) (by simp only [List.length_cons,List.length_nil];omega)) ?_;generalize ([6,2,3]:List Int).getD (shape / 7 % 3).toNat 0=few at hfew ⊢;symm;refine zaA (by decide) fun p1' H1' f1' s1' e1'=>?_;have hS1':=s1'.seq hS1;symm;have hspare:=zmc (k:=shape / 21 % 3) (by omega) (by omega);refine zhh (SqL.of e1') (zdk (ns:=[31,1,2]) (by omega) (by simp only [List.length_cons,List.length_nil];omega)) ?_;generalize ([31,1,2]:List Int).getD (shape / 21 % 3).toNat 0=spare at hspare ⊢;obtain ⟨c,hc⟩:∃ c:Nat,2+shape % 7=(c:Int):=⟨(2+shape % 7).toNat,by omega⟩
  have c2:2≤c:=by omega
  have c8:c≤8:=by omega
  rw [hc];symm;refine zco (by omega) (by omega) ?_;have ecN:((c:Int)).toNat=c:=by omega
  rw [ecN];refine zhi (zcK _ _ _) (za2 (by omega)) (fun i=>[.int (zbK ns (first+2+(0+(i:Int))) % 7 % (few+1)),.int 0]) (fun i H' Q' hi s q'=>?_) fun ps sa H2 f2 s2 hsl hps hsa snd=>?_
  ·have hS':=s.seq hS1';symm;exact ⟨Nat.le_of_lt (za2 (by simp)),q'⟩
  generalize hhB:(fun i:Nat=>zbK ns (first+2+(0+(i:Int))) % 7 % (few+1))=hB;have hhb:∀ j:Nat,zbK ns (first+2+(0+(j:Int))) % 7 % (few+1)=hB j:=fun j=>by rw [← hhB]
  have hBr:∀ j,0≤hB j∧hB j≤6:=fun j=>by
   rw [← hhb];have:=Int.emod_nonneg (zbK ns (first+2+(0+(j:Int))) % 7) (show few+1≠0 by omega);have:=Int.emod_lt_of_pos (zbK ns (first+2+(0+(j:Int))) % 7) (show 0 < few+1 by omega);omega
  have s02:Same H H2:=(s1.trans s1').trans s2;have s01:Same H H1':=s1.trans s1';have hS2:=s2.seq hS1';have hsa':∀ j,j < c→H2 (sa.getD j 0)=some (.lst [.int (hB j),.int 0]):=fun j hj=>by rw [← hhb];exact (hsa j hj).1
  symm;refine zaA (by decide) fun ph H3 f3 s3 e3=>?_;symm;refine zaA (by decide) fun pr H4 f4 s4 e4=>?_;have hS4:=s4.seq (s3.seq hS2);have s24:Same H2 H4:=s3.trans s4;have npr:ph≠pr:=zai e3 f4;have f4':H2 pr=none:=s3.free f4;symm;have hm1:=Int.emod_nonneg (zbK ns (first+1)) (show 11-least≠0 by omega);have hm2:=Int.emod_lt_of_pos (zbK ns (first+1)) (show 0 < 11-least by omega);refine zco (by omega) (by omega) ?_;obtain ⟨n,hn⟩:∃ n:Nat,least+zbK ns (first+1) % (11-least)=(n:Int):=⟨(least+zbK ns (first+1) % (11-least)).toNat,by omega⟩
  rw [hn];have enN:((n:Int)).toNat=n:=by omega
  rw [enN];have n10:n≤10:=by omega
  refine zbX (fun i σ H'=>∃ v10 v11 v12 v13 v14 hs rows ra,σ=[some (.ref a),some (.int first),some (.int least),some (.int shape),some (.int c),some (.int few),some (.int spare),some (.ref ps),some (.ref ph),some (.ref pr),v10,v11,v12,v13,v14,none] ∧
   Same H2 H'∧hs.length=i∧rows.length=i∧H' ph=some (.lst (hs.map V.int))∧H' pr=some (.lst (ra.map V.ref))∧ra.length=i∧ra.Nodup∧(∀ j,j < i→H' (ra.getD j 0)=some (.lst ((rows.getD j []).map V.int))∧H2 (ra.getD j 0)=none∧ra.getD j 0≠pr∧ra.getD j 0≠ph)∧(∀ j,j < i→PRow c hB (hs.getD j 0) (rows.getD j [])))
   ⟨none,none,none,none,none,[],[],[],rfl,s24,rfl,rfl,s4 _ _ e3,e4,rfl,List.nodup_nil,fun j hj=>absurd hj (by omega),fun j hj=>absurd hj (by omega)⟩ ?_ ?_
  ·rintro i σ H' hi ⟨v10,v11,v12,v13,v14,hs,rows,ra,rfl,s',lh,lr,hph,hpr,lra,ndr,hra,hP⟩;have hS':=s'.seq hS2;have hps':=s' _ _ hps;have ho1:=Int.emod_nonneg (zbK ns (first+10+(0+(i:Int)))) (show (c:Int)≠0 by omega);have ho2:=Int.emod_lt_of_pos (zbK ns (first+10+(0+(i:Int)))) (show 0 < (c:Int) by omega);have hq1:=Int.emod_nonneg (zbK ns (first+10+(0+(i:Int))) / 8) (show (c:Int)-1≠0 by omega);have hq2:=Int.emod_lt_of_pos (zbK ns (first+10+(0+(i:Int))) / 8) (show 0 < (c:Int)-1 by omega);symm;generalize zbK ns (first+10+(0+(i:Int)))=cell at ho1 ho2 hq1 hq2 ⊢;generalize cell % (c:Int)=one at ho1 ho2 ⊢;generalize cell / 8 % ((c:Int)-1)=gap at hq1 hq2 ⊢;have ht:(one+1+gap) % (c:Int)=if one+1+gap < c then one+1+gap else one+1+gap-c:=by
    split
    ·exact Int.emod_eq_of_lt (by omega) (by omega)
    ·rw [← Int.sub_emod_right];exact Int.emod_eq_of_lt (by omega) (by omega)
   have ht1:0≤(one+1+gap) % (c:Int)∧(one+1+gap) % (c:Int) < c∧(one+1+gap) % (c:Int)≠one:=by
    rw [ht];split <;> omega
   generalize (one+1+gap) % (c:Int)=two at ht1 ⊢;obtain ⟨ht1,ht2,ht3⟩:=ht1;have h1':=s' _ _ (hsa' one.toNat (by omega));have h2':=s' _ _ (hsa' two.toNat (by omega));symm;refine zeD ⟨by omega,by omega,by omega,by omega⟩ ?_;refine zfr (zcK _ _ _) (by decide) (fun i=>!decide (1+(i:Int)=hB one.toNat) && !decide (1+(i:Int)=hB two.toNat)) (fun i=>1+(i:Int)) (fun i H5 Q' hi s5 q'=>?_) (fun i H5 Q' hi s5 hc q'=>?_) fun pf H5 f5 s5 e5=>?_
   ·have hps5:=s5 _ _ hps';have h15:=s5 _ _ h1';have h25:=s5 _ _ h2';symm;refine zij (d:=!decide (1+(i:Int)=hB two.toNat)) (fun _ Q3 q3=>?_) q';symm;exact q3
   ·symm;exact q'
   change H5 pf=some (.lst ((fitB (hB one.toNat) (hB two.toNat)).map V.int)) at e5;have hS5:=s5.seq hS';symm;refine zlB (fun σ' H6=>∃ (pf:Addr) (fs:List Int),σ'=[some (.ref a),some (.int first),some (.int least),some (.int shape),some (.int c),some (.int few),some (.int spare),some (.ref ps),some (.ref ph),some (.ref pr),some (.int (0+(i:Int))),some (.int cell),some (.int one),some (.int two),some (.ref pf),none]∧Same H' H6 ∧
    H6 pf=some (.lst (fs.map V.int))∧0 < fs.length∧fs.length≤6∧∀ x∈fs,x∈fitB (hB one.toNat) (hB two.toNat)) (fun _ nx hnx=>?_) (fun _ nx hnx=>?_) ?_
   ·symm;refine zb7 (SqL.of e5) fun pg H6 f6 s6 e6=>?_;have e2:cutV ((fitB (hB one.toNat) (hB two.toNat)).map V.int) none (some 2)=((fitB (hB one.toNat) (hB two.toNat)).take 2).map V.int:=by
     rw [show (some (2:Int))=some ((2:Nat):Int) from rfl,zeW,List.map_take]
    rw [e2] at e6;have l1:=zgL (hB one.toNat) (hB two.toNat);refine hnx _ _ ⟨pg,_,rfl,s5.trans s6,e6,by rw [List.length_take];omega,by rw [List.length_take];omega,fun x hx=>List.mem_of_mem_take hx⟩
   ·symm;exact hnx _ _ ⟨pf,_,rfl,s5,e5,zgL _ _,zkK _ _,fun x hx=>hx⟩
   clear e5 hS5 s5 f5;rintro σ' H6 ⟨pf,fs,rfl,s6,e6,lf1,lf2,hfs⟩;have hm1:=Int.emod_nonneg (cell / 64) (show (fs.length:Int)≠0 by omega);have hm2:=Int.emod_lt_of_pos (cell / 64) (show (0:Int) < fs.length by omega);have hph6:=s6 _ _ hph;have hpr6:=s6 _ _ hpr;symm;have hh:=hfs _ (getD_mem (d:=0) (show (cell / 64 % (fs.length:Int)).toNat < fs.length by omega));generalize fs.getD (cell / 64 % (fs.length:Int)).toNat 0=hou at hh ⊢;obtain ⟨g1,g2,g3,g4⟩:=zjr hh;refine zaS hph6 (by rw [List.length_map];omega) fun H7 b7 e7=>?_;have hpr7:H7 pr=some (.lst (ra.map V.ref)):=by rw [b7 _ npr.symm];exact hpr6
   have s7:Same H2 H7:=(s'.trans s6).but b7 f3;symm;refine zaA (by simp) fun pw H8 f8 s8 e8=>?_;symm;refine zaS (s8 _ _ hpr7) (by rw [List.length_map];omega) fun H9 b9 e9=>?_;symm;have s9:Same H2 H9:=(s7.trans s8).but b9 f4';have npw:pw≠pr:=(zai hpr7 f8).symm;have npw2:pw≠ph:=(zai e7 f8).symm;refine ⟨_,_,_,_,_,hs++[hou],rows++[[(if two < one then two else one)+1,(if two > one then two else one)+1]],ra++[pw],rfl,s9,by simp [lh],by simp [lr],?_,by rw [e9,List.map_append];rfl,by simp [lra],?_,fun j hj=>?_,fun j hj=>?_⟩
   ·rw [b9 _ npr,List.map_append];exact s8 _ _ e7
   ·refine List.nodup_append.mpr ⟨ndr,by simp,fun x hx y hy=>?_⟩;have hy':y=pw:=by simpa using hy
    subst hy';obtain ⟨k,hk,ek⟩:=mem_getD (d:=0) hx;have hrk:=hra k (by omega);rw [ek] at hrk;exact zai (show H7 x=_ by rw [b7 _ hrk.2.2.2];exact s6 _ _ hrk.1) f8
   ·by_cases hlt:j < i
    ·obtain ⟨r1,r2,r3,r4⟩:=hra j hlt;rw [zaw (by omega),zaw (by omega)];refine ⟨?_,r2,r3,r4⟩;rw [b9 _ r3];refine s8 _ _ ?_;rw [b7 _ r4];exact s6 _ _ r1
    ·have ej:j=i:=by omega
     subst ej;have ea:(ra++[pw]).getD j 0=pw:=by rw [← lra];exact zau
     have eb:(rows++[[(if two < one then two else one)+1,(if two > one then two else one)+1]]).getD j []=[(if two < one then two else one)+1,(if two > one then two else one)+1]:=by rw [← lr];exact zau
     rw [ea,eb];refine ⟨?_,s7.free f8,npw,npw2⟩;rw [b9 _ npw];exact e8
   ·by_cases hlt:j < i
    ·rw [zaw (by omega),zaw (by omega)];exact hP j hlt
    ·have ej:j=i:=by omega
     subst ej;have ea:(hs++[hou]).getD j 0=hou:=by rw [← lh];exact zau
     have eb:(rows++[[(if two < one then two else one)+1,(if two > one then two else one)+1]]).getD j []=[(if two < one then two else one)+1,(if two > one then two else one)+1]:=by rw [← lr];exact zau
     rw [ea,eb]
     by_cases hlt2:two < one
     ·rw [if_pos hlt2,if_neg (by omega)];exact ⟨⟨two.toNat,one.toNat,by omega,by omega,by rw [Int.toNat_of_nonneg ht1,Int.toNat_of_nonneg ho1],g4,g3⟩,g1,g2⟩
     ·rw [if_neg hlt2,if_pos (by omega)];exact ⟨⟨one.toNat,two.toNat,by omega,by omega,by rw [Int.toNat_of_nonneg ht1,Int.toNat_of_nonneg ho1],g3,g4⟩,g1,g2⟩
  rintro σ H5 ⟨v10,v11,v12,v13,v14,hs,rows,ra,rfl,s5,lh,lr,hph,hpr,lra,ndr,hra,hP⟩;symm;refine zco (by omega) (by omega) ?_;rw [ecN];generalize hlB:(fun j:Nat=>if (cntB rows (0+(j:Int)+1):Int)+zbK ns (first+2+(0+(j:Int))) / 7 % spare < 30 then (cntB rows (0+(j:Int)+1):Int)+zbK ns (first+2+(0+(j:Int))) / 7 % spare else 30)=lB;have hlb:∀ j:Nat,(if (cntB rows (0+(j:Int)+1):Int)+zbK ns (first+2+(0+(j:Int))) / 7 % spare < 30 then (cntB rows (0+(j:Int)+1):Int)+zbK ns (first+2+(0+(j:Int))) / 7 % spare else 30)=lB j:=fun j=>by rw [← hlB]
  have hlim:∀ j,j < c→(cntB rows (0+(j:Int)+1):Int)≤lB j∧lB j≤30:=fun j _=>by
   have h1:=Int.emod_nonneg (zbK ns (first+2+(0+(j:Int))) / 7) (show spare≠0 by omega);have h2:=zkL rows (0+(j:Int)+1);rw [← hlb];split <;> omega
  have inS:∀ b,b∈sa→∃ j,j < c∧sa.getD j 0=b:=fun b hb=>by
   obtain ⟨k,hk,ek⟩:=mem_getD (d:=0) hb;exact ⟨k,by omega,ek⟩
  have nS:∀ b,H2 b=none→b∉sa:=fun b hb z=>by
   obtain ⟨k,hk,ek⟩:=inS b z;have:=hsa' k hk;rw [ek,hb] at this
   cases this
  have oldS:∀ b o,H b=some o→b∉sa:=fun b o hb z=>by
   obtain ⟨k,hk,ek⟩:=inS b z;have:=s01.free (hsa k hk).2.1;rw [ek,hb] at this
   cases this
  have psS:ps∉sa:=fun z=>by
   obtain ⟨k,hk,ek⟩:=inS ps z;exact (hsa k hk).2.2 ek
  have raS:∀ j,j < n→ra.getD j 0∉sa:=fun j hj=>nS _ (hra j hj).2.1;refine zbX (fun i σ H'=>∃ v10 v15,σ=[some (.ref a),some (.int first),some (.int least),some (.int shape),some (.int c),some (.int few),some (.int spare),some (.ref ps),some (.ref ph),some (.ref pr),v10,v11,v12,v13,v14,v15] ∧
   (∀ b o,b∉sa→H5 b=some o→H' b=some o)∧∀ j,j < c→H' (sa.getD j 0)=some (.lst [.int (hB j),.int (if j < i then lB j else 0)])) ⟨v10,none,rfl,fun b o _ e=>e,fun j hj=>by rw [if_neg (by omega)];exact s5 _ _ (hsa' j hj)⟩ ?_ ?_
  ·rintro i σ H' hi ⟨v10,v15,rfl,kp,hst⟩;have sH:Same H H':=fun b o e=>kp b o (oldS b o e) ((s02.trans s5) b o e);have hS':=sH.seq hS;have hps':=kp _ _ psS (s5 _ _ hps);have hpr':=kp _ _ (nS _ f4') hpr;symm;refine zaW (SqL.of hpr') ?_;refine zd0 (rows:=rows) (x:=0+(i:Int)+1) (SqL.of hpr') (by omega) (by omega) (fun j H6 Q' hj s6 q'=>?_) fun pz H6 zs f6 s6 e6 z6=>?_
   ·have hrj:=s6 _ _ (kp _ _ (raS j (by omega)) (hra j (by omega)).1);symm;exact q'
   have hS6:=s6.seq hS';have hps6:=s6 _ _ hps';symm;rw [z6];have ei:(0+(i:Int)).toNat=i:=by omega
   rw [hlb i,ei];have hi6:=s6 _ _ (hst i hi);refine zeX hi6 (by decide) (by simp) fun H7 b7 e7=>?_;have en7:∀ j,j < c→j≠i→sa.getD j 0≠sa.getD i 0:=fun j hj hji z=>hji (by
    have h1:sa[j]? = some (sa.getD j 0):=by rw [List.getD_eq_getElem?_getD,List.getElem?_eq_getElem (by omega)];rfl
    have h2:sa[i]? = some (sa.getD i 0):=by rw [List.getD_eq_getElem?_getD,List.getElem?_eq_getElem (by omega)];rfl
    rw [z] at h1;obtain ⟨a1,a2⟩:=List.getElem?_eq_some_iff.mp h1;obtain ⟨b1,b2⟩:=List.getElem?_eq_some_iff.mp h2;exact (List.getElem_inj snd).mp (a2.trans b2.symm))
   refine ⟨_,_,rfl,fun b o hb e=>?_,fun j hj=>?_⟩
   ·rw [b7 _ (fun z=>hb (by rw [z];exact getD_mem (by omega)))];exact s6 _ _ (kp b o hb e)
   ·by_cases e:j=i
    ·subst e;rw [e7,if_neg (Nat.lt_irrefl j),if_pos (Nat.lt_succ_self j)];rfl
    ·rw [b7 _ (en7 j hj e),s6 _ _ (hst j hj)]
     by_cases hlt:j < i
     ·rw [if_pos hlt,if_pos (by omega)]
     ·rw [if_neg hlt,if_neg (by omega)]
  rintro σ H6 ⟨v10',v15,rfl,kp,hst⟩;have sH:Same H H6:=fun b o e=>kp b o (oldS b o e) ((s02.trans s5) b o e);have hps6:=kp _ _ psS (s5 _ _ hps);have hpr6:=kp _ _ (nS _ f4') hpr;have hph6:=kp _ _ (nS _ f3) hph;have hra6:∀ j,j < n→H6 (ra.getD j 0)=some (.lst ((rows.getD j []).map V.int)):=fun j hj=>kp _ _ (raS j hj) (hra j hj).1;symm;refine zaA (by simp) fun p H7 f7 s7 e7=>?_;have hrlen:rows.length=n:=lr;refine q p ph ps pr sa ra hs (stB hB lB c c) rows H7 ⟨sH.trans s7,e7,s7 _ _ hph6,s7 _ _ hps6,s7 _ _ hpr6,by rw [zck];omega,by omega,fun j hj=>?_,fun j hj=>s7 _ _ (hra6 j (by omega)),?_,fun b hb=>?_⟩ (zhy c2 c8 (by omega) (by omega) (by omega) (fun j hj=>hP j (by omega)) (fun j _=>hBr j) hlim)
  ·rw [zck] at hj;rw [zdF hj];exact s7 _ _ (hst j hj)
  ·have inR:∀ b,b∈ra→∃ j,j < n∧ra.getD j 0=b:=fun b hb=>by
    obtain ⟨k,hk,ek⟩:=mem_getD (d:=0) hb;exact ⟨k,by omega,ek⟩
   have nps:ps≠ph:=zai hps f3;have nps2:ps≠pr:=zai hps f4';have nraps:∀ b∈ra,b≠ps:=fun b hb z=>by
    obtain ⟨k,hk,ek⟩:=inR b hb;have:=(hra k hk).2.1;rw [ek,z,hps] at this
    cases this
   refine List.nodup_cons.mpr ⟨fun z=>?_,List.nodup_cons.mpr ⟨fun z=>?_,List.nodup_cons.mpr ⟨fun z=>?_,List.nodup_cons.mpr ⟨fun z=>?_,List.nodup_append.mpr ⟨snd,ndr,fun x hx y hy=>?_⟩⟩⟩⟩⟩
   ·have:∃ o,H6 p=some o:=by
     rcases List.mem_cons.mp z with z | z
     ·exact ⟨_,z▸hph6⟩
     rcases List.mem_cons.mp z with z | z
     ·exact ⟨_,z▸hps6⟩
     rcases List.mem_cons.mp z with z | z
     ·exact ⟨_,z▸hpr6⟩
     rcases List.mem_append.mp z with z | z
     ·obtain ⟨k,hk,ek⟩:=inS p z;exact ⟨_,ek▸hst k hk⟩
     ·obtain ⟨k,hk,ek⟩:=inR p z;exact ⟨_,ek▸hra6 k hk⟩
    obtain ⟨o,ho⟩:=this;rw [f7] at ho
    cases ho
   ·rcases List.mem_cons.mp z with z | z
    ·exact nps z.symm
    rcases List.mem_cons.mp z with z | z
    ·exact npr z
    rcases List.mem_append.mp z with z | z
    ·exact nS _ f3 z
    ·obtain ⟨k,hk,ek⟩:=inR ph z;exact (hra k hk).2.2.2 ek
   ·rcases List.mem_cons.mp z with z | z
    ·exact nps2 z
    rcases List.mem_append.mp z with z | z
    ·exact psS z
    ·exact nraps ps z rfl
   ·rcases List.mem_append.mp z with z | z
    ·exact nS _ f4' z
    ·obtain ⟨k,hk,ek⟩:=inR pr z;exact (hra k hk).2.2.1 ek
   ·rintro rfl;obtain ⟨k,hk,ek⟩:=inR x hy;exact raS k hk (by rw [ek];exact hx)
  ·rcases List.mem_cons.mp hb with z | z
   ·rw [z];exact sH.free f7
   rcases List.mem_cons.mp z with z | z
   ·rw [z];exact s02.free f3
   rcases List.mem_cons.mp z with z | z
   ·rw [z];exact s01.free f2
   rcases List.mem_cons.mp z with z | z
   ·rw [z];exact s02.free f4'
   rcases List.mem_append.mp z with z | z
   ·obtain ⟨k,hk,ek⟩:=inS b z;rw [← ek];exact s01.free (hsa k hk).2.1
   ·obtain ⟨k,hk,ek⟩:=mem_getD (d:=0) z;rw [← ek];exact s02.free (hra k (by omega)).2.1
theorem ze5 {H:Hp} {a:Addr} {ns:List Int} {first least:Int} {Q:VK} {E:XK} (h1:SqL K H a (ns.map V.int)) (h2:ns.length≤63) (l0:0≤least) (l1:least≤10)
  (q:∀ (p ph ps pr:Addr) (sa ra:List Addr) (hs:List Int) (rs rows:List (List Int)) (H2:Hp),zc3 H p ph ps pr sa ra hs rs rows H2→zf8 least hs rs rows→Q (.ref p) H2):zcT K [.ref a,.int first,.int least] H Q E:=⟨rfl,a,ns,first,least,rfl,h1,h2,l0,l1,q⟩
def zef (K:PySem.W.Frag):Sp:=fun vs H Q _=>vs.length=1∧∃ c:Int,vs=[.int c]∧∀ H',Same H H'→Q (.int (zf7 c)) H'
theorem zgk (T:Txt K mg t):FnOk P w K mg base CX0 1 t.f_53 t.d_53 ["_law_cell"] (zef K):=by
 refine T.F_53.ok sc_53 (fun _ _ _ _ h=>h.1) fun cdv A outer s H vs Q E hr h=>by
  refine ⟨_,(zac (zaX (zaq (zcR (K:=K) rfl hr.units0) (zap (op_mod) (pv 0) zad) zad (zaB _))
   (zae (zal (zap (op_mod) (zap (op_fdivB) (pv 0) zad) zad))) pss_nil)
   (zac (zaX (zaq (zcR (K:=K) rfl hr.units0) (zap (op_mod) (pv 0) zad) zad (zaB _))
   (zae (zal (zap (op_mod) (zap (op_fdivB) (pv 0) zad) zad))) pss_nil)
   (zae (zal (zax (zaf (K:=K) rfl) (zaV (zaa zad (zaa zad (zaa zad (zaa zad pa_nil))))) (zap (op_mod) (zap (op_fdivB) (pv 0) zad) zad) (fun _ _=>rfl)))))),?_⟩
  obtain ⟨_,c,rfl,q⟩:=h;unfold zf7 at q;symm;refine zbN (fun h0=>?_) (fun h0=>?_)
  ·rw [if_pos h0] at q;symm;exact q _ (Same.refl _)
  ·rw [if_neg h0] at q;symm;refine zbN (fun h1=>?_) (fun h1=>?_)
   ·rw [if_pos h1] at q;symm;exact q _ (Same.refl _)
   ·rw [if_neg h1] at q;symm;refine zaA (by decide) fun p1 H1 f1 s1 e1=>?_;symm;refine zhh (SqL.of e1) (zdk (ns:=[0,1,99,100]) (by omega) (by simp only [List.length_cons,List.length_nil];omega)) ?_;exact q _ s1
theorem zhz {H:Hp} {c:Int} {Q:VK} {E:XK} (q:∀ H',Same H H'→Q (.int (zf7 c)) H'):zef K [.int c] H Q E:=⟨rfl,c,rfl,q⟩
def zcp (K:PySem.W.Frag) (C:Addr):Sp:=fun vs H Q _=>vs.length=1∧∃ (x dx:Addr),vs=[.ref x]∧H x=some (.ins C dx [])∧∀ H' F,(∀ b o,H b=some o→b≠x→b≠dx→H' b=some o)→(∀ b,F b→b=x∨b=dx∨H b=none)→ExAt C H' x F ⟨[],[],0,none⟩→Q .non H'
theorem zdW (T:Txt K mg t):FnOk P w K mg base CX0 1 t.f_20 t.d_20 ["self"] (zcp K t.C_Exam):=by
 refine T.F_20.ok sc_20 (fun _ _ _ _ h=>h.1) fun cdv A outer s H vs Q E hr h=>by
  refine ⟨_,(zac (zbF (K:=K) rfl (pv 0) (zaV pa_nil))
   (zac (zbF (K:=K) rfl (pv 0) (zaV pa_nil))
   (zac (zbF (K:=K) rfl (pv 0) zad)
   (zac (zbF (K:=K) rfl (pv 0) zbe)
   (zac (zbF (K:=K) rfl (pv 0) (zaV pa_nil))
   (zae (zbF (K:=K) rfl (pv 0) (zaV pa_nil)))))))),?_⟩
  obtain ⟨_,x,dx,rfl,hx,q⟩:=h;have hcl:=T.cl_Exam;have nA:=T.n_Exam_paper_houses;have nB:=T.n_Exam_reader_rows;have nS:=T.n_Exam_widest_step;have nD:=T.n_Exam_is_dealt;have nC:=T.n_Exam_named_readers;have nE:=T.n_Exam_entered_points;symm;refine zaA (by decide) fun a H1 f1 s1 e1=>?_;have x1:=s1 _ _ hx;symm;refine za3 x1 hcl nA (Nat.lt_of_lt_of_le (show 0 < 1 by decide) (by decide)) fun H2 b2 x2=>?_;have xa:=zai hx f1;symm;refine zaA (by decide) fun b H3 f3 s3 e3=>?_;have x3:=s3 _ _ x2;symm;have e2:H2 a=some (.lst []):=by rw [b2 _ xa.symm];exact e1
  have ab:=zai e2 f3;have xb:=zai x2 f3;refine za3 x3 hcl nB (Nat.lt_of_lt_of_le (zbO (show 0 < 1 by decide)) (by decide)) fun H4 b4 x4=>?_;symm;refine za3 x4 hcl nS (Nat.lt_of_lt_of_le (zbO (zbO (show 0 < 1 by decide))) (by decide)) fun H5 b5 x5=>?_;symm;refine za3 x5 hcl nD (Nat.lt_of_lt_of_le (zbO (zbO (zbO (show 0 < 1 by decide)))) (by decide)) fun H6 b6 x6=>?_;symm;refine zaA (by decide) fun c H7 f7 s7 e7=>?_;have x7:=s7 _ _ x6;have a6:H6 a=some (.lst []):=by rw [b6 _ xa.symm,b5 _ xa.symm,b4 _ xa.symm];exact s3 _ _ e2
  have b6':H6 b=some (.lst []):=by rw [b6 _ xb.symm,b5 _ xb.symm,b4 _ xb.symm];exact e3
  have ac:=zai a6 f7;have bc:=zai b6' f7;have xc:=zai x6 f7;symm;refine za3 x7 hcl nC (Nat.lt_of_lt_of_le (zbO (zbO (zbO (zbO (show 0 < 1 by decide))))) (by decide)) fun H8 b8 x8=>?_;have a8:H8 a=some (.lst []):=by rw [b8 _ xa.symm];exact s7 _ _ a6
  have b8':H8 b=some (.lst []):=by rw [b8 _ xb.symm];exact s7 _ _ b6'
  have c8:H8 c=some (.lst []):=by rw [b8 _ xc.symm];exact e7
  symm;refine zaA (by decide) fun d H9 f9 s9 e9=>?_;have x9:=s9 _ _ x8;have ad:=zai a8 f9;have bd:=zai b8' f9;have cd:=zai c8 f9;have xd:=zai x8 f9;symm;refine za3 x9 hcl nE (Nat.lt_of_lt_of_le (zbO (zbO (zbO (zbO (zbO (show 0 < 1 by decide)))))) (by decide)) fun H10 b10 x10=>?_;symm;rw [exFs_mk] at x10;have kp:∀ b o,H b=some o→b≠x→H10 b=some o:=fun z o h n=>by
   rw [b10 _ n];refine s9 _ _ ?_;rw [b8 _ n];refine s7 _ _ ?_;rw [b6 _ n,b5 _ n,b4 _ n];refine s3 _ _ ?_;rw [b2 _ n];exact s1 _ _ h
  have nn:∀ b,H2 b=none→H b=none:=fun z h=>by
   cases hz:H z with
   | none=>rfl
   | some o =>
     by_cases n:z=x
     ·rw [n,x2] at h;cases h
     ·rw [b2 _ n,s1 _ _ hz] at h;cases h
  have nn6:∀ b,H6 b=none→H b=none:=fun z h=>nn z (by
   cases hz:H2 z with
   | none=>rfl
   | some o =>
     by_cases n:z=x
     ·rw [n,x6] at h;cases h
     ·rw [b6 _ n,b5 _ n,b4 _ n,s3 _ _ hz] at h;cases h)
  have nn8:∀ b,H8 b=none→H b=none:=fun z h=>nn6 z (by
   cases hz:H6 z with
   | none=>rfl
   | some o =>
     by_cases n:z=x
     ·rw [n,x8] at h;cases h
     ·rw [b8 _ n,s7 _ _ hz] at h;cases h)
  have J:ExIn t.C_Exam H10 ⟨x,dx,a,b,c,d,[],[],[]⟩ ⟨[],[],0,none⟩ []:=by
   refine ⟨x10,by show H10 a=_;rw [b10 _ xa.symm];exact s9 _ _ a8,by show H10 b=_;rw [b10 _ xb.symm];exact s9 _ _ b8',by show H10 c=_;rw [b10 _ xc.symm];exact s9 _ _ c8,by show H10 d=_;rw [b10 _ xd.symm];exact e9,rfl,rfl,rfl,fun i hi=>absurd hi (by simp),fun i hi=>absurd hi (by simp [ExS.nm]),fun i hi=>absurd hi (by simp [ExS.nm]),fun i hi=>absurd hi (by simp [ExS.nm]),fun i hi=>absurd hi (by simp [ExS.nm]),rfl,?_,⟨fun z=>(by cases z),fun k hk=>absurd hk (by simp [ExS.nm]),fun k r p z=>(by cases z),by decide⟩⟩;unfold ExAd.own;simp only [List.nodup_cons,List.mem_cons,List.append_nil,List.not_mem_nil,not_or,not_false_iff,List.nodup_nil,and_true];exact ⟨⟨xa,xb,xc,xd⟩,⟨ab,ac,ad⟩,⟨bc,bd⟩,cd⟩
  refine q H10 _ (fun z o h n _=>kp z o h n) (fun z h=>?_) J.at;unfold ExAd.own at h;simp only [List.mem_cons,List.append_nil,List.not_mem_nil,or_false] at h;rcases h with h | h | h | h | h
  ·exact .inl h
  ·exact .inr (.inr (h▸f1))
  ·exact .inr (.inr (h▸nn _ f3))
  ·exact .inr (.inr (h▸nn6 _ f7))
  ·exact .inr (.inr (h▸nn8 _ f9))
theorem zgl {K:PySem.W.Frag} {C x dx:Addr} {H:Hp} {Q:VK} {E:XK} (h:H x=some (.ins C dx [])) (q:∀ H' F,(∀ b o,H b=some o→b≠x→b≠dx→H' b=some o)→(∀ b,F b→b=x∨b=dx∨H b=none)→ExAt C H' x F ⟨[],[],0,none⟩→Q .non H'):zcp K C [.ref x] H Q E:=⟨rfl,x,dx,rfl,h,q⟩
def za9 (K:PySem.W.Frag) (C:Addr):Sp:=fun vs H Q _=>vs.length=1∧∃ (x:Addr) (F:Addr→Prop) (st:ExS),vs=[.ref x]∧ExAt C H x F st∧st.dl=none∧Q .non H
theorem zaI (T:Txt K mg t):FnOk P w K mg base CX0 1 t.f_35 t.d_35 ["self"] (za9 K t.C_Exam):=by
 refine T.F_35.ok sc_35 (fun _ _ _ _ h=>h.1) fun cdv A outer s H vs Q E hr h=>by
  refine ⟨_,(zae (zaX (zaC (K:=K) rfl (zaD (K:=K) rfl (pv 0)) (fun _=>rfl))
   (zae ps_never) pss_nil)),?_⟩
  obtain ⟨_,x,F,st,rfl,E0,hd,q⟩:=h;walk_at "hd";symm;rw [hd];refine iteF ?_;symm;exact q
theorem za1 {K:PySem.W.Frag} {C x:Addr} {H:Hp} {F:Addr→Prop} {st:ExS} {Q:VK} {E:XK} {σ:L2.St} (h:ExAt C H x F st) (hd:st.dl=none) (q:Q .non H):zby C "refuse_behind_dealing" (za9 K C) E tNil σ (.ref x) H Q:=by
 obtain ⟨dx,fs,e,l⟩:=h.ob;exact zaM e (l _ (by decide +kernel)) (zes ⟨rfl,x,F,st,rfl,h,hd,q⟩)
def zbA (K:PySem.W.Frag):Sp:=fun vs H Q _=>vs.length=2∧∃ n m:Int,vs=[.int n,.int m]∧0≤n∧n≤m∧Q .non H
theorem za7 (T:Txt K mg t):FnOk P w K mg base CX0 1 t.f_17 t.d_17 ["number","most"] (zbA K):=by
 refine T.F_17.ok sc_17 (fun _ _ _ _ h=>h.1) fun cdv A outer s H vs Q E hr h=>by
  refine ⟨_,(zae (zaX (zcM (zaq (op_lt) (pv 0) zad (zaB _)) (zb5 (zaq (op_gt) (pv 0) (pv 1) (zaB _)))).pt
   (zae ps_never) pss_nil)),?_⟩
  obtain ⟨_,n,m,rfl,h1,h2,q⟩:=h;walk_at "rdk";exact q
theorem zbb {H:Hp} {n m:Int} {Q:VK} {E:XK} (h1:0≤n) (h2:n≤m) (q:Q .non H):zbA K [.int n,.int m] H Q E:=⟨rfl,n,m,rfl,h1,h2,q⟩
def zcq (K:PySem.W.Frag) (C:Addr):Sp:=fun vs H Q _=>vs.length=2∧∃ (x:Addr) (F:Addr→Prop) (st:ExS) (s:Int),vs=[.ref x,.int s]∧ExAt C H x F st∧InB st.hs st.rs∧st.dl=none∧(0≤s∧s≤100)∧∀ H' F',ExFr H H' F F'→ExAt C H' x F' { st with step:=s }→Q (.int s) H'
theorem zdX (T:Txt K mg t):FnOk P w K mg base CX0 2 t.f_23 t.d_23 ["self","step"] (zcq K t.C_Exam):=by
 have G_35:=zaI (P:=P) (w:=w) (base:=base) T;have G_17:=za7 (P:=P) (w:=w) (base:=base) T;refine T.F_23.ok sc_23 (fun _ _ _ _ h=>h.1) fun cdv A outer s H vs Q E hr h=>by
  refine ⟨_,(zac (zaG (zbm (pv 0) T.cl_Exam T.me_35 G_35 (hr.mono (by decide)) T.b_35 .nil zav))
   (zac (zaG (zan G_17 (hr.mono (by decide)) (by rfl) T.m_17 T.F_17.kp T.b_17 .nil zav (zaa (pv 1) (zaa (zcv (v:=.int 100) (by rfl) T.v_MOST_STEP T.w_MOST_STEP) pa_nil))))
   (zac (zbF (K:=K) rfl (pv 0) (pv 1))
   (zae (zal (pv 1)))))),?_⟩
  obtain ⟨_,x,F,st,s,rfl,E0,BB,hd,hp,q⟩:=h;have E0':=E0;walk_at "hd";symm;refine za1 E0' hd ?_;symm;refine zbb (by omega) (by omega) ?_;symm;refine za3 hob hcl nS (show 6 < 1000 by decide) fun H1 b1 e1=>?_;have I1:=I.setStep b1 e1 hp;symm;exact q H1 F (ExFr.but b1 ((hF _).mpr own_x) fun b z=>.inl z) ⟨e,kvs,rfl,hF,I1⟩
theorem zeg {K:PySem.W.Frag} {C x:Addr} {H:Hp} {F:Addr→Prop} {st:ExS} {s:Int} {Q:VK} {E:XK} (hE:ExAt C H x F st) (B:InB st.hs st.rs) (hd:st.dl=none) (hp:(0≤s∧s≤100)) (q:∀ H' F',ExFr H H' F F'→ExAt C H' x F' { st with step:=s }→Q (.int s) H'):zcq K C [.ref x,.int s] H Q E:=⟨rfl,x,F,st,s,rfl,hE,B,hd,hp,q⟩
def zcc (K:PySem.W.Frag):Sp:=fun vs H Q _=>vs.length=3∧∃ n l m:Int,vs=[.int n,.int l,.int m]∧l≤n∧n≤m∧Q .non H
theorem zbG (T:Txt K mg t):FnOk P w K mg base CX0 1 t.f_16 t.d_16 ["number","least","most"] (zcc K):=by
 refine T.F_16.ok sc_16 (fun _ _ _ _ h=>h.1) fun cdv A outer s H vs Q E hr h=>by
  refine ⟨_,(zae (zaX (zcM (zaq (op_lt) (pv 0) (pv 1) (zaB _)) (zb5 (zaq (op_gt) (pv 0) (pv 2) (zaB _)))).pt
   (zae ps_never) pss_nil)),?_⟩
  obtain ⟨_,n,l,m,rfl,h1,h2,q⟩:=h;walk_at "rdk";exact q
theorem zbp {H:Hp} {n l m:Int} {Q:VK} {E:XK} (h1:l≤n) (h2:n≤m) (q:Q .non H):zcc K [.int n,.int l,.int m] H Q E:=⟨rfl,n,l,m,rfl,h1,h2,q⟩
def zcU (K:PySem.W.Frag):Sp:=fun vs H Q _=>vs.length=2∧∃ n m:Int,vs=[.int n,.int m]∧n < m∧Q .non H
theorem zcV (T:Txt K mg t):FnOk P w K mg base CX0 1 t.f_18 t.d_18 ["many","most"] (zcU K):=by
 refine T.F_18.ok sc_18 (fun _ _ _ _ h=>h.1) fun cdv A outer s H vs Q E hr h=>by
  refine ⟨_,(zae (zaX (zaq (op_ge) (pv 0) (pv 1) (zaB _))
   (zae ps_never) pss_nil)),?_⟩
  obtain ⟨_,n,m,rfl,h1,q⟩:=h;walk_at "rdk";exact q
theorem zdq {H:Hp} {n m:Int} {Q:VK} {E:XK} (h1:n < m) (q:Q .non H):zcU K [.int n,.int m] H Q E:=⟨rfl,n,m,rfl,h1,q⟩
def zbR (K:PySem.W.Frag) (C:Addr):Sp:=fun vs H Q _=>vs.length=2∧∃ (x:Addr) (F:Addr→Prop) (st:ExS) (h:Int),vs=[.ref x,.int h]∧ExAt C H x F st∧InB st.hs st.rs∧st.dl=none∧(1≤h∧h≤6∧st.hs.length < 10)∧∀ H' F',ExFr H H' F F'→ExAt C H' x F' { st with hs:=st.hs++[h] }→Q (.int ((st.hs.length:Int)+1)) H'
theorem zc4 (T:Txt K mg t):FnOk P w K mg base CX0 2 t.f_21 t.d_21 ["self","house"] (zbR K t.C_Exam):=by
 have G_35:=zaI (P:=P) (w:=w) (base:=base) T;have G_16:=zbG (P:=P) (w:=w) (base:=base) T;have G_18:=zcV (P:=P) (w:=w) (base:=base) T;refine T.F_21.ok sc_21 (fun _ _ _ _ h=>h.1) fun cdv A outer s H vs Q E hr h=>by
  refine ⟨_,(zac (zaG (zbm (pv 0) T.cl_Exam T.me_35 G_35 (hr.mono (by decide)) T.b_35 .nil zav))
   (zac (zaG (zan G_16 (hr.mono (by decide)) (by rfl) T.m_16 T.F_16.kp T.b_16 .nil zav (zaa (pv 1) (zaa zad (zaa (zcv (v:=.int 6) (by rfl) T.v_MOST_HOUSES T.w_MOST_HOUSES) pa_nil)))))
   (zac (zaG (zan G_18 (hr.mono (by decide)) (by rfl) T.m_18 T.F_18.kp T.b_18 .nil zav (zaa (zah (zaj (K:=K) rfl) (by rfl) T.z_len (by rfl) (zaa (zaD (K:=K) rfl (pv 0)) pa_nil)) (zaa (zcv (v:=.int 10) (by rfl) T.v_MOST_PAPERS T.w_MOST_PAPERS) pa_nil))))
   (zac (zaG (zbW (K:=K) rfl PySem.F.plainAttrs_list PySem.F.slot_list_append PySem.F.type_list_append mt_append (zaD (K:=K) rfl (pv 0)) (zaa (pv 1) pa_nil)))
   (zae (zal (zah (zaj (K:=K) rfl) (by rfl) T.z_len (by rfl) (zaa (zaD (K:=K) rfl (pv 0)) pa_nil)))))))),?_⟩
  obtain ⟨_,x,F,st,h,rfl,E0,BB,hd,hp,q⟩:=h;have E0':=E0;walk_at "hd";symm;refine za1 E0' hd ?_;symm;refine zbp (by omega) (by omega) ?_;symm;refine zdq (by omega) ?_;symm;refine zaS hha (by rw [List.length_map];omega) fun H1 b1 e1=>?_;have I1:=I.paper hd b1 e1;have hob:=I1.ob;have e1':=I1.ha;symm;have el:((st.hs++[h]).length:Int)=(st.hs.length:Int)+1:=by rw [List.length_append,List.length_singleton];omega
  rw [el];exact q H1 F (ExFr.but b1 ((hF _).mpr own_a) fun b z=>.inl z) ⟨e,kvs,rfl,hF,I1⟩
theorem zbZ {K:PySem.W.Frag} {C x:Addr} {H:Hp} {F:Addr→Prop} {st:ExS} {h:Int} {Q:VK} {E:XK} (hE:ExAt C H x F st) (B:InB st.hs st.rs) (hd:st.dl=none) (hp:(1≤h∧h≤6∧st.hs.length < 10)) (q:∀ H' F',ExFr H H' F F'→ExAt C H' x F' { st with hs:=st.hs++[h] }→Q (.int ((st.hs.length:Int)+1)) H'):zbR K C [.ref x,.int h] H Q E:=⟨rfl,x,F,st,h,rfl,hE,B,hd,hp,q⟩
def zbP (K:PySem.W.Frag) (C:Addr):Sp:=fun vs H Q _=>vs.length=3∧∃ (x:Addr) (F:Addr→Prop) (st:ExS) (h:Int) (l:Int),vs=[.ref x,.int h,.int l]∧ExAt C H x F st∧InB st.hs st.rs∧st.dl=none∧(0≤h∧h≤6∧0≤l∧l≤30∧st.rs.length < 8)∧∀ H' F',ExFr H H' F F'→ExAt C H' x F' { st with rs:=st.rs++[[h,l]] }→Q (.int ((st.rs.length:Int)+1)) H'
theorem zcO (T:Txt K mg t):FnOk P w K mg base CX0 2 t.f_22 t.d_22 ["self","house","limit"] (zbP K t.C_Exam):=by
 have G_35:=zaI (P:=P) (w:=w) (base:=base) T;have G_16:=zbG (P:=P) (w:=w) (base:=base) T;have G_17:=za7 (P:=P) (w:=w) (base:=base) T;have G_18:=zcV (P:=P) (w:=w) (base:=base) T;refine T.F_22.ok sc_22 (fun _ _ _ _ h=>h.1) fun cdv A outer s H vs Q E hr h=>by
  refine ⟨_,(zac (zaG (zbm (pv 0) T.cl_Exam T.me_35 G_35 (hr.mono (by decide)) T.b_35 .nil zav))
   (zac (zaG (zan G_16 (hr.mono (by decide)) (by rfl) T.m_16 T.F_16.kp T.b_16 .nil zav (zaa (pv 1) (zaa zad (zaa (zcv (v:=.int 6) (by rfl) T.v_MOST_HOUSES T.w_MOST_HOUSES) pa_nil)))))
   (zac (zaG (zan G_17 (hr.mono (by decide)) (by rfl) T.m_17 T.F_17.kp T.b_17 .nil zav (zaa (pv 2) (zaa (zcv (v:=.int 30) (by rfl) T.v_MOST_LIMIT T.w_MOST_LIMIT) pa_nil))))
   (zac (zaG (zan G_18 (hr.mono (by decide)) (by rfl) T.m_18 T.F_18.kp T.b_18 .nil zav (zaa (zah (zaj (K:=K) rfl) (by rfl) T.z_len (by rfl) (zaa (zaD (K:=K) rfl (pv 0)) pa_nil)) (zaa (zcv (v:=.int 8) (by rfl) T.v_MOST_READERS T.w_MOST_READERS) pa_nil))))
   (zac (zaG (zbW (K:=K) rfl PySem.F.plainAttrs_list PySem.F.slot_list_append PySem.F.type_list_append mt_append (zaD (K:=K) rfl (pv 0)) (zaa (zaV (zaa (pv 1) (zaa (pv 2) pa_nil))) pa_nil)))
   (zae (zal (zah (zaj (K:=K) rfl) (by rfl) T.z_len (by rfl) (zaa (zaD (K:=K) rfl (pv 0)) pa_nil))))))))),?_⟩
  obtain ⟨_,x,F,st,h,l,rfl,E0,BB,hd,hp,q⟩:=h;have E0':=E0;walk_at "hd";have lp:=I.lp;symm;refine za1 E0' hd ?_;symm;refine zbp (by omega) (by omega) ?_;symm;refine zbb (by omega) (by omega) ?_;symm;refine zdq (by omega) ?_;symm;refine zaA (by simp) fun r H1 f1 s1 e1=>?_;symm;refine zaS (s1 _ _ hhb) (by rw [List.length_map];omega) fun H2 b2 e2=>?_;have I1:ExIn t.C_Exam H1 e st kvs:=I.keep fun b o _ z=>s1 b o z;have I2:=I1.reader (row:=[h,l]) (I.new f1) e1 b2 e2;have hob:=I2.ob;have e1':=I2.hb;symm;have el:((e.ps++[r]).length:Int)=(st.rs.length:Int)+1:=by rw [List.length_append,List.length_singleton];omega
  rw [el];refine q H2 _ ⟨fun b o eb nb=>?_,fun b z=>?_⟩ I2.at
  ·rw [b2 _ (fun z=>nb ((hF _).mpr (by rw [z];exact own_b)))];exact s1 _ _ eb
  ·rcases zhu z with z | z
   ·exact .inl ((hF b).mpr z)
   ·exact .inr (z▸f1)
theorem zc5 {K:PySem.W.Frag} {C x:Addr} {H:Hp} {F:Addr→Prop} {st:ExS} {h:Int} {l:Int} {Q:VK} {E:XK} (hE:ExAt C H x F st) (B:InB st.hs st.rs) (hd:st.dl=none) (hp:(0≤h∧h≤6∧0≤l∧l≤30∧st.rs.length < 8)) (q:∀ H' F',ExFr H H' F F'→ExAt C H' x F' { st with rs:=st.rs++[[h,l]] }→Q (.int ((st.rs.length:Int)+1)) H'):zbP K C [.ref x,.int h,.int l] H Q E:=⟨rfl,x,F,st,h,l,rfl,hE,B,hd,hp,q⟩
def zeh (K:PySem.W.Frag) (C:Addr):Sp:=fun vs H Q _=>vs.length=4∧∃ (a b:Addr) (s n:Int) (hs:List Int) (rs:List (List Int)),vs=[.ref a,.ref b,.int s,.int n]∧SqL K H a (hs.map V.int)∧LL K H b rs∧InB hs rs∧0≤s∧s≤100∧∀ x F H',H x=none→Same H H'→(∀ c o,H c=some o→¬F c)→ExAt C H' x F ⟨hs,rs,s,none⟩→Q (.ref x) H'
theorem zgm (T:Txt K mg t):FnOk P w K mg base CX0 3 t.f_51 t.d_51 ["_law_homes","_law_staff","_law_step_here","_law_turn"] (zeh K t.C_Exam):=by
 have G_20:=zdW (P:=P) (w:=w) (base:=base) T;have G_23:=zdX (P:=P) (w:=w) (base:=base) T;have G_21:=zc4 (P:=P) (w:=w) (base:=base) T;have G_22:=zcO (P:=P) (w:=w) (base:=base) T;refine T.F_51.ok sc_51 (fun _ _ _ _ h=>h.1) fun cdv A outer s H vs Q E hr h=>by
  refine ⟨_,(zac (zaL (i:=4) sc_51.nd rfl (Or.inl rfl) (zjc T.mk_Exam G_20 (hr.mono (by decide)) (by rfl) T.mg_Exam T.b_20 .nil zav))
   (zac (zaG (zbq (pv 4) T.cl_Exam T.me_23 G_23 (hr.mono (by decide)) T.b_23 .nil zav (zaa (pv 2) pa_nil)))
   (zac (zaX (zaq (zcR (K:=K) rfl hr.units0) (zap (op_mod) (pv 3) zad) zad (zaB _))
   (zae (zbc PassesOwn.never rfl (zaO (K:=K) rfl (pv 0)) (zar (i:=5) sc_51.nd rfl (Or.inl rfl))
   (zae (zaG (zbq (pv 4) T.cl_Exam T.me_21 G_21 (hr.mono (by decide)) T.b_21 .nil zav (zaa (pv 5) pa_nil)))))) pss_nil)
   (zac (zbc PassesOwn.never rfl (zaO (K:=K) rfl (pv 1)) (zar (i:=6) sc_51.nd rfl (Or.inl rfl))
   (zae (zaG (zbq (pv 4) T.cl_Exam T.me_22 G_22 (hr.mono (by decide)) T.b_22 .nil zav (zaa (zax (zaf (K:=K) rfl) (pv 6) zad (fun _ _=>rfl)) (zaa (zax (zaf (K:=K) rfl) (pv 6) zad (fun _ _=>rfl)) pa_nil))))))
   (zac (zaX (zaq (zcR (K:=K) rfl hr.units0) (zap (op_mod) (pv 3) zad) zad (zaB _))
   (zae (zbc PassesOwn.never rfl (zaO (K:=K) rfl (pv 0)) (zar (i:=5) sc_51.nd rfl (Or.inl rfl))
   (zae (zaG (zbq (pv 4) T.cl_Exam T.me_21 G_21 (hr.mono (by decide)) T.b_21 .nil zav (zaa (pv 5) pa_nil)))))) pss_nil)
   (zae (zal (pv 4)))))))),?_⟩
  obtain ⟨_,a,b,s,n,hs,rs,rfl,ha,L,B,s0,s100,q⟩:=h;have B1:=B.lp;have B2:=B.lr;obtain ⟨psr,hb,hpl,hpr⟩:=id L;have Bp:∀ i,InB (hs.take i) []:=fun i=>by
   have:=(B.take 0).takeH i;rw [List.take_zero] at this;exact this
  walk_at "st";refine zjk ?_;walk_at "st";refine zfC fun x dx H1 fx fdx ne s1 ex=>?_;refine zgl ex fun H2 F k2 fF E2=>⟨rfl,?_⟩
  have S2:Same H H2:=fun c o e=>k2 c o (s1 c o e) (fun z=>by rw [z,fx] at e;cases e) (fun z=>by rw [z,fdx] at e;cases e);have nF:∀ c o,H c=some o→¬F c:=fun c o e z=>by
   rcases fF c z with z | z | z
   ·rw [z,fx] at e;cases e
   ·rw [z,fdx] at e;cases e
   ·rw [s1 c o e] at z;cases z
  have B0:InB ([]:List Int) []:=by have:=Bp 0;rwa [List.take_zero] at this
  obtain ⟨dx2,fs2,hob2,hlk2⟩:=E2.ob;walk_at "st";refine zjk ?_;walk_at "st";refine zaM hob2 (hlk2 _ (by decide +kernel)) ?_;walk_at "st";refine zeg E2 B0 rfl ⟨s0,s100⟩ fun H3 F3 f3 E3=>?_;obtain ⟨nF3,S3⟩:=f3.nf S2 nF;have E3':ExAt t.C_Exam H3 x F3 ⟨hs.take 0,rs.take 0,s,none⟩:=by rw [List.take_zero,List.take_zero];exact E3
  walk_at "st";refine zdC (fun σ H'=>∃ (F:Addr→Prop) (k:Nat) (v5 v6:Option V),σ=[some (.ref a),some (.ref b),some (.int s),some (.int n),some (.ref x),v5,v6]∧Same H H'∧(∀ c o,H c=some o→¬F c)∧ExAt t.C_Exam H' x F ⟨hs.take k,rs.take 0,s,none⟩∧((n % 2=0∧k=hs.length)∨(n % 2=1∧k=0))) ?_ ?_
  ·intro nx' hnx;have S':=S3;have nF':=nF3;have E':=E3';symm;refine zbN (fun h1=>?_) (fun h1=>?_)
   ·skip
    symm;refine zaW (S'.seq ha) ?_;refine zce (xs:=hs.map V.int) (fun i σ H'=>∃ (F:Addr→Prop) (v5 v6:Option V),σ=[some (.ref a),some (.ref b),some (.int s),some (.int n),some (.ref x),v5,v6]∧Same H H'∧(∀ c o,H c=some o→¬F c)∧ExAt t.C_Exam H' x F ⟨hs.take i,rs.take 0,s,none⟩) ⟨_,_,_,rfl,S',nF',E'⟩ ?_ ?_ ?_
    ·rintro i σ H4 _ ⟨F4,w5,w6,rfl,S4,n4,E4⟩;exact S4.seq ha
    ·rintro i y σ H4 hy ⟨F4,w5,w6,rfl,S4,n4,E4⟩;obtain ⟨hi,rfl⟩:=zcx hy;obtain ⟨dx4,fs4,hob4,hlk4⟩:=E4.ob;have hh:=B.hh i hi;symm;refine zaM hob4 (hlk4 _ (by decide +kernel)) ?_;symm;refine zbZ E4 ((B.take 0).takeH i) rfl ⟨hh.1,hh.2,by show (hs.take i).length < 10;rw [List.length_take];omega⟩ fun H5 F5 f5 E5=>?_;obtain ⟨n5,S5⟩:=f5.nf S4 n4;symm;refine ⟨F5,_,_,rfl,S5,n5,?_⟩;have et:hs.take (i+1)=hs.take i++[hs.getD i 0]:=by rw [List.take_add_one,List.getElem?_eq_getElem hi,List.getD_eq_getElem?_getD,List.getElem?_eq_getElem hi];rfl
     rw [et];exact E5
    ·rintro σ H4 ⟨F4,w5,w6,rfl,S4,n4,E4⟩;rw [List.length_map] at E4;exact hnx _ _ ⟨F4,hs.length,_,_,rfl,S4,n4,E4,.inl ⟨h1,rfl⟩⟩
   ·symm;exact hnx _ _ ⟨F3,0,_,_,rfl,S3,nF3,E3',.inr ⟨by omega,rfl⟩⟩
  rintro σ H' ⟨F',k,v5,v6,rfl,S',nF',E',hk⟩;walk_at "st";refine zdC (fun σ H'=>∃ (F:Addr→Prop) (k:Nat) (v5 v6:Option V),σ=[some (.ref a),some (.ref b),some (.int s),some (.int n),some (.ref x),v5,v6]∧Same H H'∧(∀ c o,H c=some o→¬F c)∧ExAt t.C_Exam H' x F ⟨hs.take k,rs.take rs.length,s,none⟩∧((n % 2=0∧k=hs.length)∨(n % 2=1∧k=0))) ?_ ?_
  ·intro nx' hnx;symm;refine zaW (S'.seq hb) ?_;refine zce (xs:=psr.map V.ref) (fun i σ H'=>∃ (F:Addr→Prop) (v5 v6:Option V),σ=[some (.ref a),some (.ref b),some (.int s),some (.int n),some (.ref x),v5,v6]∧Same H H'∧(∀ c o,H c=some o→¬F c)∧ExAt t.C_Exam H' x F ⟨hs.take k,rs.take i,s,none⟩) ⟨_,_,_,rfl,S',nF',E'⟩ ?_ ?_ ?_
   ·rintro i σ H4 _ ⟨F4,w5,w6,rfl,S4,n4,E4⟩;exact S4.seq hb
   ·rintro i y σ H4 hy ⟨F4,w5,w6,rfl,S4,n4,E4⟩;obtain ⟨hi,rfl⟩:=zil hy;have hi':i < rs.length:=by omega
    obtain ⟨dx4,fs4,hob4,hlk4⟩:=E4.ob;have hrow:=S4 _ _ (hpr i hi');have h2:=B.r2 i hi';have hh:=B.rh i hi';have hl:=B.rl i hi';have erow:rs.getD i []=[(rs.getD i []).getD 0 0,(rs.getD i []).getD 1 0]:=len2 h2;symm;refine zaM hob4 (hlk4 _ (by decide +kernel)) ?_;symm;refine zc5 (h:=(rs.getD i []).getD 0 0) (l:=(rs.getD i []).getD 1 0) E4 ((B.take i).takeH k) rfl ⟨hh.1,hh.2,hl.1,hl.2,by show (rs.take i).length < 8;rw [List.length_take];omega⟩ fun H5 F5 f5 E5=>?_;obtain ⟨n5,S5⟩:=f5.nf S4 n4;symm;refine ⟨F5,_,_,rfl,S5,n5,?_⟩;have et:rs.take (i+1)=rs.take i++[rs.getD i []]:=by rw [List.take_add_one,List.getElem?_eq_getElem hi',List.getD_eq_getElem?_getD,List.getElem?_eq_getElem hi'];rfl
    rw [et,erow];exact E5
   ·rintro σ H4 ⟨F4,w5,w6,rfl,S4,n4,E4⟩;rw [List.length_map,hpl] at E4;exact hnx _ _ ⟨F4,k,_,_,rfl,S4,n4,E4,hk⟩
  rintro σ H' ⟨F',k,v5,v6,rfl,S',nF',E',hk⟩;walk_at "st";refine zdC (fun σ H'=>∃ (F:Addr→Prop) (v5 v6:Option V),σ=[some (.ref a),some (.ref b),some (.int s),some (.int n),some (.ref x),v5,v6]∧Same H H'∧(∀ c o,H c=some o→¬F c)∧ExAt t.C_Exam H' x F ⟨hs,rs,s,none⟩) ?_ ?_
  ·intro nx' hnx;symm;refine zbN (fun h1=>?_) (fun h1=>?_)
   ·have hk0:k=0:=by omega
    subst hk0;symm;refine zaW (S'.seq ha) ?_;refine zce (xs:=hs.map V.int) (fun i σ H'=>∃ (F:Addr→Prop) (v5 v6:Option V),σ=[some (.ref a),some (.ref b),some (.int s),some (.int n),some (.ref x),v5,v6]∧Same H H'∧(∀ c o,H c=some o→¬F c)∧ExAt t.C_Exam H' x F ⟨hs.take i,rs.take rs.length,s,none⟩) ⟨_,_,_,rfl,S',nF',E'⟩ ?_ ?_ ?_
    ·rintro i σ H4 _ ⟨F4,w5,w6,rfl,S4,n4,E4⟩;exact S4.seq ha
    ·rintro i y σ H4 hy ⟨F4,w5,w6,rfl,S4,n4,E4⟩;obtain ⟨hi,rfl⟩:=zcx hy;obtain ⟨dx4,fs4,hob4,hlk4⟩:=E4.ob;have hh:=B.hh i hi;symm;refine zaM hob4 (hlk4 _ (by decide +kernel)) ?_;symm;refine zbZ E4 ((B.take rs.length).takeH i) rfl ⟨hh.1,hh.2,by show (hs.take i).length < 10;rw [List.length_take];omega⟩ fun H5 F5 f5 E5=>?_;obtain ⟨n5,S5⟩:=f5.nf S4 n4;symm;refine ⟨F5,_,_,rfl,S5,n5,?_⟩;have et:hs.take (i+1)=hs.take i++[hs.getD i 0]:=by rw [List.take_add_one,List.getElem?_eq_getElem hi,List.getD_eq_getElem?_getD,List.getElem?_eq_getElem hi];rfl
     rw [et];exact E5
    ·rintro σ H4 ⟨F4,w5,w6,rfl,S4,n4,E4⟩;rw [List.length_map] at E4;rw [List.take_length,List.take_length] at E4;exact hnx _ _ ⟨F4,_,_,rfl,S4,n4,E4⟩
   ·have hk0:k=hs.length:=by omega
    subst hk0;rw [List.take_length,List.take_length] at E';symm;exact hnx _ _ ⟨F',_,_,rfl,S',nF',E'⟩
  rintro σ H' ⟨F',v5,v6,rfl,S',nF',E'⟩;symm;exact q x F' H' fx S' nF' E'
theorem zhA {C:Addr} {H:Hp} {a b:Addr} {s n:Int} {hs:List Int} {rs:List (List Int)} {Q:VK} {E:XK} (h1:SqL K H a (hs.map V.int)) (h2:LL K H b rs) (B:InB hs rs) (s0:0≤s) (s1:s≤100) (q:∀ x F H',H x=none→Same H H'→(∀ c o,H c=some o→¬F c)→ExAt C H' x F ⟨hs,rs,s,none⟩→Q (.ref x) H'):zeh K C [.ref a,.ref b,.int s,.int n] H Q E:=⟨rfl,a,b,s,n,hs,rs,rfl,h1,h2,B,s0,s1,q⟩
def zdM (K:PySem.W.Frag):Sp:=fun vs H Q _=>vs.length=1∧∃ x:V,vs=[x]∧((∃ i:Int,x=.int i∧Q (.bl true) H))
theorem zcF (T:Txt K mg t):FnOk P w K mg base CX0 1 t.f_44 t.d_44 ["_law_found"] (zdM K):=by
 refine T.F_44.ok sc_44 (fun _ _ _ _ h=>h.1) fun cdv A outer s H vs Q E hr h=>by
  refine ⟨_,(zae (zal (zfd (zah (zaR (K:=K) rfl) (by rfl) T.z_isinstance (by rfl) (zaa (pv 0) (zaa (zcZ (v:=.ty "int") (u:=.type "int") (by rfl) T.z_int (by rfl) rfl) pa_nil))) (zfc (zjY (zah (zaR (K:=K) rfl) (by rfl) T.z_isinstance (by rfl) (zaa (pv 0) (zaa (zcZ (v:=.ty "bool") (u:=.type "bool") (by rfl) T.z_bool (by rfl) rfl) pa_nil)))))))),?_⟩;obtain ⟨_,x,rfl,i,rfl,q⟩:=h;symm;refine iteT ?_;symm;exact q
theorem zei {H:Hp} {i:Int} {Q:VK} {E:XK} (q:Q (.bl true) H):zdM K [.int i] H Q E:=⟨rfl,_,rfl,i,rfl,q⟩
local macro_rules | `(tactic| walk_at "rd1")=>`(tactic| (with_reducible refine zei ?_))
def zej (K:PySem.W.Frag):Sp:=fun vs H Q _=>vs.length=3∧∃ (b r:Addr) (h:Int) (rs:List (List Int)) (row:List Int),vs=[.ref b,.int h,.ref r]∧LL K H b rs∧(∀ i,i < rs.length→(rs.getD i []).length=2)∧H r=some (.lst (row.map V.int))∧Q (.bl (zb8 rs h row)) H
theorem zgn (T:Txt K mg t):FnOk P w K mg base CX0 2 t.f_49 t.d_49 ["_law_staff","_law_house","_law_row_here"] (zej K):=by
 have G_44:=zcF (P:=P) (w:=w) (base:=base) T;refine T.F_49.ok sc_49 (fun _ _ _ _ h=>h.1) fun cdv A outer s H vs Q E hr h=>by
  refine ⟨_,(zac (zaX (zcM (zbD (zaC (K:=K) rfl (zah (zaR (K:=K) rfl) (by rfl) T.z_isinstance (by rfl) (zaa (pv 2) (zaa (zcZ (v:=.ty "list") (u:=.type "list") (by rfl) T.z_list (by rfl) rfl) pa_nil))) (fun _=>rfl))) (zb5 (zaq (zcS (K:=K) rfl hr.units0) (zah (zaj (K:=K) rfl) (by rfl) T.z_len (by rfl) (zaa (pv 2) pa_nil)) zad (zaB _)))).pt
   (zae (zal zbe)) pss_nil)
   (zac (zbc PassesOwn.never rfl (zaO (K:=K) rfl (pv 2)) (zar (i:=3) sc_49.nd rfl (Or.inl rfl))
   (zac (zaX (zcM (zbD (zaC (K:=K) rfl (zan G_44 (hr.mono (by decide)) (by rfl) T.m_44 T.F_44.kp T.b_44 .nil zav (zaa (pv 3) pa_nil)) (fun _=>rfl))) (zcM (zaq (op_lt) (pv 3) zad (zaB _)) (zb5 (zaq (op_gt) (pv 3) (zah (zaj (K:=K) rfl) (by rfl) T.z_len (by rfl) (zaa (pv 0) pa_nil)) (zaB _))))).pt
   (zae (zal zbe)) pss_nil)
   (zae (zaX (zaq (zcR (K:=K) rfl hr.units0) (zax (zaf (K:=K) rfl) (zax (zaf (K:=K) rfl) (pv 0) (zap (op_sub) (pv 3) zad) (fun _ _=>rfl)) zad (fun _ _=>rfl)) (pv 1) (zaB _))
   (zae (zal zbe)) pss_nil))))
   (zae (zal (zcd (op_lt) (zax (zaf (K:=K) rfl) (pv 2) zad (fun _ _=>rfl)) (zax (zaf (K:=K) rfl) (pv 2) zad (fun _ _=>rfl)) (zaB _)))))),?_⟩
  obtain ⟨_,b,r,h,rs,row,rfl,hL,h2,hr0,q⟩:=h;obtain ⟨ps,hb,hl,hrow⟩:=id hL;unfold zb8 at q;symm;refine iteF ?_;symm;refine zdj (fun h0=>?_) (fun h0=>?_)
  ·rw [decide_eq_false (fun z=>h0 (by omega)),Bool.false_and,Bool.false_and] at q;symm;exact q
  rw [decide_eq_true (show row.length=2 by omega),Bool.true_and] at q;symm;refine zaW (SqL.of hr0) ?_;refine zce (xs:=row.map V.int) (fun i σ H'=>∃ v,σ=[some (.ref b),some (.int h),some (.ref r),v]∧H'=H∧∀ j,j < i→(decide (1≤row.getD j 0) && decide (row.getD j 0≤(rs.length:Int)) && !decide ((rs.getD (row.getD j 0-1).toNat []).getD 0 0=h))=true) ⟨none,rfl,rfl,fun j hj=>absurd hj (by omega)⟩ ?_ ?_ ?_
  ·rintro i σ H' _ ⟨_,rfl,rfl,_⟩;exact SqL.of hr0
  ·rintro i x σ H' hxi ⟨_,rfl,rfl,hall⟩;obtain ⟨hi,rfl⟩:=zcx hxi;have no:(decide (1≤row.getD i 0) && decide (row.getD i 0≤(rs.length:Int)) && !decide ((rs.getD (row.getD i 0-1).toNat []).getD 0 0=h))=false→Q (.bl false) H':=fun z=>by
    rw [zio (c:=fun x=>decide (1≤x) && decide (x≤(rs.length:Int)) && !decide ((rs.getD (x-1).toNat []).getD 0 0=h)) hi z,Bool.false_and] at q;exact q
   symm;refine iteF ?_;symm;refine zbN (fun h1=>?_) (fun h1=>?_)
   ·refine iteT ?_;symm;exact no (by rw [decide_eq_false (by omega)];rfl)
   symm;refine zbN (fun h3=>?_) (fun h3=>?_)
   ·symm;exact no (by rw [decide_eq_false (show ¬row.getD i 0≤(rs.length:Int) by omega),Bool.and_false];rfl)
   have hk:(row.getD i 0-1).toNat < rs.length:=by omega
   have hrk:=hrow _ hk;have h2k:=h2 _ hk;symm;refine zbN (fun h4=>?_) (fun h4=>?_)
   ·symm;refine no ?_;rw [show (rs.getD (row.getD i 0-1).toNat []).getD 0 0=h from h4,decide_eq_true (rfl:h=h)];simp
   ·symm;refine ⟨_,rfl,rfl,fun j hj=>?_⟩
    by_cases e:j=i
    ·subst e;rw [decide_eq_true (show 1≤row.getD j 0 by omega),decide_eq_true (show row.getD j 0≤(rs.length:Int) by omega),decide_eq_false (show ¬(rs.getD (row.getD j 0-1).toNat []).getD 0 0=h from h4)];rfl
    ·exact hall j (by omega)
  ·rintro σ H' ⟨_,rfl,rfl,hall⟩;rw [List.length_map] at hall;rw [zjq (c:=fun x=>decide (1≤x) && decide (x≤(rs.length:Int)) && !decide ((rs.getD (x-1).toNat []).getD 0 0=h)) hall,Bool.true_and] at q;symm;exact q
theorem zhB {H:Hp} {b r:Addr} {h:Int} {rs:List (List Int)} {row:List Int} {Q:VK} {E:XK} (h1:LL K H b rs) (h2:∀ i,i < rs.length→(rs.getD i []).length=2) (h3:H r=some (.lst (row.map V.int))) (q:Q (.bl (zb8 rs h row)) H):zej K [.ref b,.int h,.ref r] H Q E:=⟨rfl,b,r,h,rs,row,rfl,h1,h2,h3,q⟩
def zdN (K:PySem.W.Frag):Sp:=fun vs H Q _=>vs.length=3∧∃ (a b c:Addr) (hs:List Int) (rs rows:List (List Int)),vs=[.ref a,.ref b,.ref c]∧SqL K H a (hs.map V.int)∧LL K H b rs∧(∀ i,i < rs.length→(rs.getD i []).length=2)∧(∃ zs,H c=some (.lst zs))∧LL K H c rows∧rs.length≤1000∧rows.length≤1000∧hs.length≤1000∧∀ H',Same H H'→Q (.bl (zaT hs rs rows)) H'
theorem zfM (T:Txt K mg t):FnOk P w K mg base CX0 3 t.f_50 t.d_50 ["_law_homes","_law_staff","_law_rows_here"] (zdN K):=by
 have G_49:=zgn (P:=P) (w:=w) (base:=base) T;refine T.F_50.ok sc_50 (fun _ _ _ _ h=>h.1) fun cdv A outer s H vs Q E hr h=>by
  refine ⟨_,(zac (zaX (zcM (zbD (zaC (K:=K) rfl (zah (zaR (K:=K) rfl) (by rfl) T.z_isinstance (by rfl) (zaa (pv 2) (zaa (zcZ (v:=.ty "list") (u:=.type "list") (by rfl) T.z_list (by rfl) rfl) pa_nil))) (fun _=>rfl))) (zb5 (zaq (zcS (K:=K) rfl hr.units0) (zah (zaj (K:=K) rfl) (by rfl) T.z_len (by rfl) (zaa (pv 2) pa_nil)) (zah (zaj (K:=K) rfl) (by rfl) T.z_len (by rfl) (zaa (pv 0) pa_nil)) (zaB _)))).pt
   (zae (zal zbe)) pss_nil)
   (zac (zbc PassesOwn.never rfl (za8 (by rfl) T.z_range (zaa (zah (zaj (K:=K) rfl) (by rfl) T.z_len (by rfl) (zaa (pv 0) pa_nil)) pa_nil)) (zar (i:=3) sc_50.nd rfl (Or.inr rfl))
   (zae (zaX (zbD (zaC (K:=K) rfl (zan G_49 (hr.mono (by decide)) (by rfl) T.m_49 T.F_49.kp T.b_49 .nil zav (zaa (pv 1) (zaa (zax (zaf (K:=K) rfl) (pv 0) (pv 3) (fun _ _=>rfl)) (zaa (zax (zaf (K:=K) rfl) (pv 2) (pv 3) (fun _ _=>rfl)) pa_nil)))) (fun _=>rfl)))
   (zae (zal zbe)) pss_nil)))
   (zac (zbc PassesOwn.never rfl (za8 (by rfl) T.z_range (zaa (zah (zaj (K:=K) rfl) (by rfl) T.z_len (by rfl) (zaa (pv 1) pa_nil)) pa_nil)) (zar (i:=3) sc_50.nd rfl (Or.inr rfl))
   (zae (zaX (zaq (op_gt) (zah (zaj (K:=K) rfl) (by rfl) T.z_len (by rfl) (zaa (zbd (zat (sc:=zab s_50) (XN:=["_law_homes","_law_staff","_law_rows_here","_law_k"]) (N:=["_law_row_here","_law_k"]) (own:=1) (js:=[3]) rfl rfl (by decide +kernel)) rfl (zaO (K:=K) rfl (pv 2)) (fun _ _ _ _ _=>(zar (i:=0) (show List.Nodup [(Str.ofString "_law_row_here"),(Str.ofString "_law_k")] by decide +kernel) rfl (Or.inl rfl))) (fun _ _ _ _ _=>(zc2 (zaq (zeL (K:=K) rfl (zc0 hr)) (zap (op_addG) (pv 1) zad) (pv 0) (by with_unfolding_all rfl)))) (fun _ _ _ _ _=>(pv 0))) pa_nil)) (zax (zaf (K:=K) rfl) (zax (zaf (K:=K) rfl) (pv 1) (pv 3) (fun _ _=>rfl)) zad (fun _ _=>rfl)) (zaB _))
   (zae (zal zbe)) pss_nil)))
   (zae (zal zbe))))),?_⟩
  obtain ⟨_,a,b,c,hs,rs,rows,rfl,ha,hL,h2,⟨zs,hz⟩,hM,l1,l2,l3,q⟩:=h;obtain ⟨ps,hb,hl,hrow⟩:=id hL;obtain ⟨qs,hc,hm,hrows⟩:=id hM;have hzs:SqL K H c (qs.map V.ref):=hc;unfold zaT at q;symm;refine iteF ?_;symm;refine zdj (fun h0=>?_) (fun h0=>?_)
  ·rw [decide_eq_false (fun z=>h0 (by omega)),Bool.false_and,Bool.false_and] at q;symm;exact q _ (Same.refl _)
  rw [decide_eq_true (show rows.length=hs.length by omega),Bool.true_and] at q;symm;refine zco (by omega) (by omega) ?_;refine zbX (fun i σ H'=>∃ v,σ=[some (.ref a),some (.ref b),some (.ref c),v]∧H'=H∧∀ k,k < i→zb8 rs (hs.getD k 0) (rows.getD k [])=true) ⟨none,rfl,rfl,fun k hk=>absurd hk (by omega)⟩ ?_ ?_
  ·rintro i σ H' hi ⟨_,rfl,rfl,hall⟩;have ei:(0+(i:Int)).toNat=i:=by omega
   symm;rw [ei];refine zhB hL h2 (hrows i (by omega)) ?_;symm;refine zlo (fun h1=>?_) (fun h1=>?_)
   ·rw [zcy (c:=fun k=>zb8 rs (hs.getD k 0) (rows.getD k [])) (show i < hs.length by omega) h1,Bool.false_and] at q;symm;exact q _ (Same.refl _)
   ·symm;refine ⟨_,rfl,rfl,fun k hk=>?_⟩
    by_cases e:k=i
    ·subst e;exact h1
    ·exact hall k (by omega)
  rintro σ H' ⟨v,rfl,rfl,hall⟩;rw [zba (c:=fun k=>zb8 rs (hs.getD k 0) (rows.getD k [])) (fun k hk=>hall k (by omega)),Bool.true_and] at q;symm;refine zco (by omega) (by omega) ?_;refine zbX (fun i σ H1=>∃ v,σ=[some (.ref a),some (.ref b),some (.ref c),v]∧Same H' H1∧∀ k,k < i→(cntB rows (0+(k:Int)+1):Int)≤(rs.getD k []).getD 1 0) ⟨v,rfl,Same.refl _,fun k hk=>absurd hk (by omega)⟩ ?_ ?_
  ·rintro i σ H1 hi ⟨_,rfl,s1,hle⟩;have ei:(0+(i:Int)).toNat=i:=by omega
   have hri:=s1 _ _ (hrow i (by omega));have h2i:=h2 i (by omega);have hc1:=s1.seq hc;have hb1:=s1.seq hb;symm;refine zaW hc1 ?_;refine zd0 (rows:=rows) (x:=0+(i:Int)+1) hc1 hm l2 (fun j H2 Q' hj s2 q'=>?_) fun p H2 zs2 f2 s2 e2 z2=>?_
   ·have hrj:=s2 _ _ (s1 _ _ (hrows j hj));symm;exact q'
   have hri2:=s2 _ _ hri;have hb2:=s2.seq hb1;symm;rw [ei];symm;rw [z2];refine zbN (fun h1=>?_) (fun h1=>?_)
   ·rw [zcy (c:=fun k=>decide ((cntB rows (0+(k:Int)+1):Int)≤(rs.getD k []).getD 1 0)) (show i < rs.length by omega) (decide_eq_false (show ¬(cntB rows (0+(i:Int)+1):Int)≤(rs.getD i []).getD 1 0 by have e1:Int.toNat 1=1:=rfl;rw [e1] at h1;omega))] at q;symm;exact q _ (s1.trans s2)
   ·symm;refine ⟨_,rfl,s1.trans s2,fun k hk=>?_⟩
    by_cases e:k=i
    ·subst e;have e1:Int.toNat 1=1:=rfl;rw [e1] at h1;omega
    ·exact hle k (by omega)
  ·rintro σ H1 ⟨_,rfl,s1,hle⟩;rw [zba (c:=fun k=>decide ((cntB rows (0+(k:Int)+1):Int)≤(rs.getD k []).getD 1 0)) (fun k hk=>decide_eq_true (hle k (by omega)))] at q;symm;exact q _ s1
theorem zgo {H:Hp} {a b c:Addr} {hs:List Int} {rs rows:List (List Int)} {Q:VK} {E:XK} (h1:SqL K H a (hs.map V.int)) (h2:LL K H b rs) (h3:∀ i,i < rs.length→(rs.getD i []).length=2) (h4:∃ zs,H c=some (.lst zs)) (h5:LL K H c rows) (l1:rs.length≤1000) (l2:rows.length≤1000) (l3:hs.length≤1000)
  (q:∀ H',Same H H'→Q (.bl (zaT hs rs rows)) H'):zdN K [.ref a,.ref b,.ref c] H Q E:=⟨rfl,a,b,c,hs,rs,rows,rfl,h1,h2,h3,h4,h5,l1,l2,l3,q⟩
def zbS (K:PySem.W.Frag) (C:Addr):Sp:=fun vs H Q _=>vs.length=1∧∃ (x:Addr) (F:Addr→Prop) (st:ExS),vs=[.ref x]∧ExAt C H x F st∧InB st.hs st.rs∧((st.dl=none→∀ H',Same H H'→Q .non H')∧∀ nm en,st.dl=some (nm,en)→∀ p H',RowsAt H p (nm.map (List.take 2)) H'→Q (.ref p) H')
theorem zek (T:Txt K mg t):FnOk P w K mg base CX0 1 t.f_30 t.d_30 ["self"] (zbS K t.C_Exam):=by
 refine T.F_30.ok sc_30 (fun _ _ _ _ h=>h.1) fun cdv A outer s H vs Q E hr h=>by
  refine ⟨_,(zac (zaX (zbD (zaC (K:=K) rfl (zaD (K:=K) rfl (pv 0)) (fun _=>rfl)))
   (zae (zal zfa)) pss_nil)
   (zae (zal (zbd (zat (sc:=zab s_30) (XN:=["self"]) (N:=["named"]) (own:=1) (js:=[]) rfl rfl (by decide +kernel)) rfl (zaO (K:=K) rfl (zaD (K:=K) rfl (pv 0))) (fun _ _ _ _ _=>(zar (i:=0) (show List.Nodup [(Str.ofString "named")] by decide +kernel) rfl (Or.inl rfl))) (fun _ _ _ _ _=>zbM) (fun _ _ _ _ _=>(zde (zdi (K:=K) rfl) (pv 0) po_none (zd7 zad))))))),?_⟩
  obtain ⟨_,x,F,st,rfl,E0,BB,q⟩:=h;have B1:=BB.lp;have B2:=BB.lr;walk_at "hd";obtain ⟨q0,q1⟩:=q;have lq:=I.lq;have l10:=I.wf.n10 BB;symm
  cases hdl:st.dl with
  | none =>
    refine iteT ?_;symm;exact q0 hdl H (Same.refl H)
  | some d =>
    obtain ⟨nm,en⟩:=d;refine iteF ?_;rw [hdl] at hob;have fC:=@exFs_c (.ref e.a) (.ref e.b) (.int st.step) (.bl (some (nm,en)).isSome) (.ref e.c) (.ref e.d);have enm:st.nm=nm:=by unfold ExS.nm;rw [hdl];rfl
    rw [enm] at lq l10;have rq:=I.rq;rw [enm] at rq;symm;refine zaW (SqL.of hhc) ?_;have hl:=q1;refine zcf (zca (zcg.one (zbh (SqL.of hhc))) (by rw [List.length_map];omega) (fun i=>(nm.getD i []).take 2) (fun i H' Q' hi s q'=>?_) fun p H2 R=>?_)
    ·rw [List.length_map,lq] at hi;have ex:(e.qs.map V.ref).getD i .non=.ref (e.qs.getD i 0):=by
      rw [List.getD_eq_getElem?_getD,List.getElem?_map,List.getElem?_eq_getElem (by omega),List.getD_eq_getElem?_getD,List.getElem?_eq_getElem (by omega)];rfl
     rw [ex];have hrow:=s _ _ (rq i hi);show (_:TE) (some (.ref (e.qs.getD i 0))::_) _ _;symm;refine zb7 (SqL.of hrow) fun p2 H2 f2 s2 e2=>?_;rw [show cutV ((nm.getD i []).map V.int) none (some 2)=((nm.getD i []).map V.int).take 2 from zeW 2,← List.map_take] at e2;exact q' p2 H2 f2 s2 e2
    ·rw [List.length_map,lq] at R;have em:(List.range nm.length).map (fun i=>(nm.getD i []).take 2)=nm.map (List.take 2):=by
      refine List.ext_getElem (by simp) fun i h1 h2=>?_;simp at h1 ⊢;rw [List.getElem?_eq_getElem h1];rfl
     rw [em] at R;exact q1 nm en hdl p H2 R
theorem zev {K:PySem.W.Frag} {C x:Addr} {H:Hp} {F:Addr→Prop} {st:ExS} {Q:VK} {E:XK} (h:ExAt C H x F st) (B:InB st.hs st.rs) (q:((st.dl=none→∀ H',Same H H'→Q .non H')∧∀ nm en,st.dl=some (nm,en)→∀ p H',RowsAt H p (nm.map (List.take 2)) H'→Q (.ref p) H')):zbS K C [.ref x] H Q E:=⟨rfl,x,F,st,rfl,h,B,q⟩
theorem zcW {K:PySem.W.Frag} {C x:Addr} {H:Hp} {F:Addr→Prop} {st:ExS} {Q:VK} {E:XK} {σ:L2.St} (h:ExAt C H x F st) (B:InB st.hs st.rs) (q:((st.dl=none→∀ H',Same H H'→Q .non H')∧∀ nm en,st.dl=some (nm,en)→∀ p H',RowsAt H p (nm.map (List.take 2)) H'→Q (.ref p) H')):zby C "dealing" (zbS K C) E tNil σ (.ref x) H Q:=by
 obtain ⟨dx,fs,e,l⟩:=h.ob;exact zaM e (l _ (by decide +kernel)) (zes (zev h B q))
def zdO (K:PySem.W.Frag):Sp:=fun vs H Q _=>vs.length=2∧∃ b c:Bool,vs=[.bl b,.bl c]∧Q (.bl (decide (b=c))) H
theorem zfN (T:Txt K mg t):FnOk P w K mg base CX0 1 t.f_45 t.d_45 ["_law_found","_law_due"] (zdO K):=by
 refine T.F_45.ok sc_45 (fun _ _ _ _ h=>h.1) fun cdv A outer s H vs Q E hr h=>by
  refine ⟨_,(zae (zal (zfd (zah (zaR (K:=K) rfl) (by rfl) T.z_isinstance (by rfl) (zaa (pv 0) (zaa (zcZ (v:=.ty "bool") (u:=.type "bool") (by rfl) T.z_bool (by rfl) rfl) pa_nil))) (zfc (zcd (zcR (K:=K) rfl hr.units0) (pv 0) (pv 1) (zaB _)))))),?_⟩;obtain ⟨_,b,c,rfl,q⟩:=h;symm;refine iteT ?_;symm;exact q
theorem zel {H:Hp} {b c:Bool} {Q:VK} {E:XK} (q:Q (.bl (decide (b=c))) H):zdO K [.bl b,.bl c] H Q E:=⟨rfl,_,_,rfl,q⟩
local macro_rules | `(tactic| walk_at "rd1")=>`(tactic| (with_reducible refine zel ?_))
theorem zg4 {B H H':Hp} {p:Addr} {rs:List (List Int)} (R:RowsAt B p rs H) (s:Same H H'):RowsAt B p rs H':=by
 obtain ⟨a1,a2,ps,a3,a4,a5,a6⟩:=R;exact ⟨a1.trans s,a2,ps,s _ _ a3,a4,a5,fun i hi=>⟨s _ _ (a6 i hi).1,(a6 i hi).2⟩⟩
def zem (K:PySem.W.Frag):Sp:=fun vs H Q _=>vs.length=1∧∃ (a:Addr) (ns:List Int),vs=[.ref a]∧SqL K H a (ns.map V.int)∧ns.length≤8∧∀ p H',RowsAt H p (prsB ns) H'→Q (.ref p) H'
theorem zgp (T:Txt K mg t):FnOk P w K mg base CX0 1 t.f_12 t.d_12 ["numbers"] (zem K):=by
 refine T.F_12.ok sc_12 (fun _ _ _ _ h=>h.1) fun cdv A outer s H vs Q E hr h=>by
  refine ⟨_,(zac (zaL (i:=1) sc_12.nd rfl (Or.inl rfl) (zaV pa_nil))
   (zac (zbc PassesOwn.never rfl (zjy (K:=K) rfl (by rfl) T.z_enumerate (zaa (pv 0) pa_nil)) (zf5 (K:=K) (n:=2) rfl rfl (zcI (zar (i:=2) sc_12.nd rfl (Or.inl rfl)) (zcI (zar (i:=3) sc_12.nd rfl (Or.inl rfl)) pgs_nil)))
   (zae (zbc PassesOwn.never rfl (zaO (K:=K) rfl (zde (zdi (K:=K) rfl) (pv 0) (zd7 (zap (op_addG) (pv 2) zad)) po_none)) (zar (i:=4) sc_12.nd rfl (Or.inl rfl))
   (zae (zaG (zbW (K:=K) rfl PySem.F.plainAttrs_list PySem.F.slot_list_append PySem.F.type_list_append mt_append (pv 1) (zaa (zaV (zaa (pv 3) (zaa (pv 4) pa_nil))) pa_nil)))))))
   (zae (zal (pv 1))))),?_⟩
  obtain ⟨_,a,ns,rfl,ha,hl,q⟩:=h;have hpl:=prs_len ns;have hpl2:(prsB ns).length≤64:=Nat.le_trans hpl (Nat.mul_le_mul hl hl);symm;refine zaA (by decide) fun p1 H1 f1 s1 e1=>?_;symm;refine zgO (s1.seq ha) ?_;refine zkR (xs:=ns.map V.int) (fun i σ H'=>∃ rows v2 v3 v4,σ=[some (.ref a),some (.ref p1),v2,v3,v4]∧RowsAt H p1 rows H'∧rows++prsB (ns.drop i)=prsB ns) ⟨[],none,none,none,rfl,RowsAt.start f1 s1 e1,by simp⟩ ?_ ?_ ?_
  ·rintro i σ H' _ ⟨rows,_,_,_,rfl,R,_⟩;exact R.same.seq ha
  ·rintro i x σ H0 H' hx ⟨rows,v2,v3,v4,rfl,R0,er⟩ s0;obtain ⟨hi,rfl⟩:=zcx hx;have R:RowsAt H p1 rows H':=zg4 R0 s0;rw [zjF hi] at er;symm;refine zb7 (R.same.seq ha) fun p2 H2 f2 s2 e2=>?_;have np:p2≠p1:=by
    obtain ⟨zs,hz,_⟩:=R.lst;exact (zai hz f2).symm
   have ei:(0+(i:Int)+1)=((i+1:Nat):Int):=by omega
   rw [ei,zft,← List.map_drop] at e2;refine zaW (SqL.of e2) ?_;generalize ens:ns.drop (i+1)=ys at *;generalize ns.getD i 0=x at *;refine zce (xs:=ys.map V.int) (fun j σ H'=>∃ rows2 v4,σ=[some (.ref a),some (.ref p1),some (.int (0+(i:Int))),some (.int x),v4]∧RowsAt H p1 rows2 H'∧H' p2=some (.lst (ys.map V.int))∧rows2++((ys.drop j).map (fun y=>[x,y])++prsB ys)=prsB ns) ⟨rows,v4,rfl,zg4 R s2,e2,er⟩ ?_ ?_ ?_
   ·rintro j σ H3 _ ⟨rows2,_,rfl,R3,e3,_⟩;exact SqL.of e3
   ·rintro j y σ H3 hy ⟨rows2,v4,rfl,R3,e3,er3⟩;obtain ⟨hj,rfl⟩:=zcx hy;obtain ⟨zs,hz,hzl⟩:=R3.lst;have hlen:rows2.length≤64:=by
     have:=congrArg List.length er3;rw [List.length_append] at this;omega
    symm;refine zaA (by simp) fun p4 H4 f4 s4 e4=>?_;symm;refine zaS (s4 _ _ hz) (by omega) fun H5 b5 e5=>?_;symm;refine ⟨rows2++[[x,ys.getD j 0]],_,rfl,R3.push f4 s4 e4 (s4 _ _ hz) b5 e5,by rw [b5 _ np];exact s4 _ _ e3,?_⟩;rw [List.drop_eq_getElem_cons hj] at er3;rw [List.append_assoc,← er3,List.getD_eq_getElem?_getD,List.getElem?_eq_getElem hj];rfl
   ·rintro σ H3 ⟨rows2,v4,rfl,R3,e3,er3⟩;rw [List.length_map,List.drop_length,List.map_nil,List.nil_append] at er3;exact ⟨rows2,_,_,_,rfl,R3,by first | exact er3 | (rw [ens];exact er3)⟩
  ·rintro σ H' ⟨rows,v2,v3,v4,rfl,R,er⟩;rw [List.length_map,List.drop_length] at er;have er2:rows=prsB ns:=by
    rw [← er];unfold prsB;simp
   symm;rw [← er2] at q;exact q _ _ R
theorem zhC {H:Hp} {Q:VK} {E:XK} {a:Addr} {ns:List Int} (h:SqL K H a (ns.map V.int)) (hl:ns.length≤8) (q:∀ p H',RowsAt H p (prsB ns) H'→Q (.ref p) H'):zem K [.ref a] H Q E:=⟨rfl,a,ns,rfl,h,hl,q⟩
def zen (K:PySem.W.Frag):Sp:=fun vs H Q _=>vs.length=4∧∃ (a b:Addr) (k j:Int) (hs:List Int) (rs:List (List Int)),vs=[.ref a,.ref b,.int k,.int j]∧SqL K H a (hs.map V.int)∧LL K H b rs∧1≤k∧k≤hs.length∧1≤j∧j≤rs.length∧(∀ i,i < rs.length→(rs.getD i []).length=2) ∧
 Q (.bl (!decide ((rs.getD (j-1).toNat []).getD 0 0=hs.getD (k-1).toNat 0))) H
theorem zgq (T:Txt K mg t):FnOk P w K mg base CX0 1 t.f_1 t.d_1 ["papers","readers","paper","reader"] (zen K):=by
 refine T.F_1.ok sc_1 (fun _ _ _ _ h=>h.1) fun cdv A outer s H vs Q E hr h=>by
  refine ⟨_,(zac (zaL (i:=4) sc_1.nd rfl (Or.inl rfl) (zax (zaf (K:=K) rfl) (zax (zaf (K:=K) rfl) (pv 1) (zap (op_sub) (pv 3) zad) (fun _ _=>rfl)) zad (fun _ _=>rfl)))
   (zae (zal (zcd (zcS (K:=K) rfl hr.units0) (pv 4) (zax (zaf (K:=K) rfl) (pv 0) (zap (op_sub) (pv 2) zad) (fun _ _=>rfl)) (zaB _))))),?_⟩
  obtain ⟨_,a,b,k,j,hs,rs,rfl,ha,⟨ps,hb,hl,hr⟩,k1,k2,j1,j2,h2,q⟩:=h;have hj:(j-1).toNat < rs.length:=by omega
  have hr':=hr _ hj;have h2':=h2 _ hj;symm;exact q
theorem zhD {H:Hp} {a b:Addr} {k j:Int} {hs:List Int} {rs:List (List Int)} {Q:VK} {E:XK} (h1:SqL K H a (hs.map V.int)) (h2:LL K H b rs) (k1:1≤k) (k2:k≤hs.length) (j1:1≤j) (j2:j≤rs.length) (h3:∀ i,i < rs.length→(rs.getD i []).length=2)
  (q:Q (.bl (!decide ((rs.getD (j-1).toNat []).getD 0 0=hs.getD (k-1).toNat 0))) H):zen K [.ref a,.ref b,.int k,.int j] H Q E:=⟨rfl,a,b,k,j,hs,rs,rfl,h1,h2,k1,k2,j1,j2,h3,q⟩
def mayB (hs:List Int) (rs:List (List Int)) (k:Int) (i:Nat):Bool:=!decide ((rs.getD i []).getD 0 0=hs.getD (k-1).toNat 0)
def zag (hs:List Int) (rs:List (List Int)) (k:Int):List Int:=((List.range rs.length).filter (mayB hs rs k)).map fun i:Nat=>1+(i:Int)
def zcX (K:PySem.W.Frag):Sp:=fun vs H Q _=>vs.length=3∧∃ (a b:Addr) (k:Int) (hs:List Int) (rs:List (List Int)),vs=[.ref a,.ref b,.int k]∧SqL K H a (hs.map V.int)∧LL K H b rs∧1≤k∧k≤hs.length∧rs.length≤1000∧(∀ i,i < rs.length→(rs.getD i []).length=2) ∧
 ∀ p H2,H p=none→Same H H2→H2 p=some (.lst ((zag hs rs k).map V.int))→Q (.ref p) H2
theorem zb4 (T:Txt K mg t):FnOk P w K mg base CX0 2 t.f_2 t.d_2 ["papers","readers","paper"] (zcX K):=by
 have G_1:=zgq (P:=P) (w:=w) (base:=base) T;refine T.F_2.ok sc_2 (fun _ _ _ _ h=>h.1) fun cdv A outer s H vs Q E hr h=>by
  refine ⟨_,(zae (zal (zbd (zat (sc:=zab s_2) (XN:=["papers","readers","paper"]) (N:=["reader","papers","readers","paper"]) (own:=1) (js:=[0,1,2]) rfl rfl (by decide +kernel)) rfl (zb6 (by rfl) T.z_range (zaa zad (zaa (zap (op_addG) (zah (zaj (K:=K) rfl) (by rfl) T.z_len (by rfl) (zaa (pv 1) pa_nil)) zad) pa_nil))) (fun _ _ _ _ _=>(zar (i:=0) (show List.Nodup [(Str.ofString "reader"),(Str.ofString "papers"),(Str.ofString "readers"),(Str.ofString "paper")] by decide +kernel) rfl (Or.inl rfl))) (fun _ _ _ _ _=>(zc2 (zaC (K:=K) rfl (zan G_1 (hr.mono (by decide)) (by rfl) T.m_1 T.F_1.kp T.b_1 .nil zav (zaa (pv 1) (zaa (pv 2) (zaa (pv 3) (zaa (pv 0) pa_nil))))) (fun _=>rfl)))) (fun _ _ _ _ _=>(pv 0))))),?_⟩;obtain ⟨_,a,b,k,hs,rs,rfl,ha,L,k1,k2,hz,h2,q⟩:=h;obtain ⟨ps,hb,hl,hr'⟩:=id L;symm;refine zeD ⟨by omega,by omega,by omega,by omega⟩ ?_;have en:((ps.length:Int)+1-1).toNat=rs.length:=by omega
  rw [en];refine zfr (zcK _ _ _) (by omega) (mayB hs rs k) (fun i=>1+(i:Int)) (fun i H' Q' hi s q'=>?_) (fun i H' Q' hi s hc q'=>?_) fun p H2 f s e=>q p H2 f s e
  ·have ha':=s.seq ha;have L':=L.same s;symm;refine zhD ha' L' k1 k2 (by omega) (by omega) h2 ?_;symm;have e:(1+(i:Int)-1).toNat=i:=by omega
   rw [e];exact q'
  ·symm;exact q'
theorem zcl {H:Hp} {a b:Addr} {k:Int} {hs:List Int} {rs:List (List Int)} {Q:VK} {E:XK} (h1:SqL K H a (hs.map V.int)) (h2:LL K H b rs) (k1:1≤k) (k2:k≤hs.length) (hz:rs.length≤1000) (h3:∀ i,i < rs.length→(rs.getD i []).length=2)
  (q:∀ p H2,H p=none→Same H H2→H2 p=some (.lst ((zag hs rs k).map V.int))→Q (.ref p) H2):zcX K [.ref a,.ref b,.int k] H Q E:=⟨rfl,a,b,k,hs,rs,rfl,h1,h2,k1,k2,hz,h3,q⟩
def zeo (K:PySem.W.Frag):Sp:=fun vs H Q _=>vs.length=2∧∃ (b:Addr) (rows:List (List Int)) (x:Int),vs=[.ref b,.int x]∧LL K H b rows∧rows.length≤20∧∀ H',Same H H'→Q (.int (cntB rows x:Int)) H'
theorem zgr (T:Txt K mg t):FnOk P w K mg base CX0 1 t.f_9 t.d_9 ["rows","reader"] (zeo K):=by
 refine T.F_9.ok sc_9 (fun _ _ _ _ h=>h.1) fun cdv A outer s H vs Q E hr h=>by
  refine ⟨_,(zae (zal (zah (zaj (K:=K) rfl) (by rfl) T.z_len (by rfl) (zaa (zbd (zat (sc:=zab s_9) (XN:=["rows","reader"]) (N:=["row","reader"]) (own:=1) (js:=[1]) rfl rfl (by decide +kernel)) rfl (zaO (K:=K) rfl (pv 0)) (fun _ _ _ _ _=>(zar (i:=0) (show List.Nodup [(Str.ofString "row"),(Str.ofString "reader")] by decide +kernel) rfl (Or.inl rfl))) (fun _ _ _ _ _=>(zc2 (zaq (zeL (K:=K) rfl (zc0 hr)) (pv 1) (pv 0) (by with_unfolding_all rfl)))) (fun _ _ _ _ _=>(pv 0))) pa_nil)))),?_⟩;obtain ⟨_,b,rows,x,rfl,L,hl,q⟩:=h;obtain ⟨ps,hb,hpl,hr⟩:=id L;symm;refine zaW hb ?_;refine zd0 hb hpl (by omega) (x:=x) (fun i H' Q' hi s q'=>?_) fun p H2 zs f s e ez=>?_
  ·have hrow:=s _ _ (hr i hi);symm;exact q'
  symm;rw [ez];exact q _ s
theorem zhE {H:Hp} {b:Addr} {rows:List (List Int)} {x:Int} {Q:VK} {E:XK} (h:LL K H b rows) (hl:rows.length≤20) (q:∀ H',Same H H'→Q (.int (cntB rows x:Int)) H'):zeo K [.ref b,.int x] H Q E:=⟨rfl,b,rows,x,rfl,h,hl,q⟩
theorem zjS (rs rows:List (List Int)) (n:Nat) (hn:n=rs.length):((List.range n).filter fun _=>true).map (fun i=>V.int ((rs.getD i []).getD 1 0-(cntB rows (1+(i:Int)):Int)))=(zaZ rs rows).map V.int:=by
 subst hn;rw [List.filter_eq_self.mpr (fun _ _=>rfl)];unfold zaZ;rw [List.map_map];refine List.map_congr_left fun i _=>?_;show V.int _=V.int _;rw [Int.add_comm 1 (i:Int)]
def zdr (K:PySem.W.Frag):Sp:=fun vs H Q _=>vs.length=2∧∃ (a b:Addr) (rs rows:List (List Int)),vs=[.ref a,.ref b]∧LL K H a rs∧LL K H b rows∧rs.length≤8∧rows.length≤20∧(∀ i,i < rs.length→(rs.getD i []).length=2)∧∀ p H',H p=none→Same H H'→H' p=some (.lst ((zaZ rs rows).map V.int))→Q (.ref p) H'
theorem zcm (T:Txt K mg t):FnOk P w K mg base CX0 2 t.f_8 t.d_8 ["readers","rows"] (zdr K):=by
 have G_9:=zgr (P:=P) (w:=w) (base:=base) T;refine T.F_8.ok sc_8 (fun _ _ _ _ h=>h.1) fun cdv A outer s H vs Q E hr h=>by
  refine ⟨_,(zae (zal (zbd (zat (sc:=zab s_8) (XN:=["readers","rows"]) (N:=["reader","row","rows"]) (own:=2) (js:=[1]) rfl rfl (by decide +kernel)) rfl (zjz (K:=K) rfl (by rfl) T.z_enumerate (zaa (pv 0) pa_nil)) (fun _ _ _ _ _=>(zf5 (K:=K) (n:=2) rfl rfl (zcI (zar (i:=0) (show List.Nodup [(Str.ofString "reader"),(Str.ofString "row"),(Str.ofString "rows")] by decide +kernel) rfl (Or.inl rfl)) (zcI (zar (i:=1) (show List.Nodup [(Str.ofString "reader"),(Str.ofString "row"),(Str.ofString "rows")] by decide +kernel) rfl (Or.inl rfl)) pgs_nil)))) (fun _ _ _ _ _=>zbM) (fun _ _ _ _ _=>(zap (op_sub) (zax (zaf (K:=K) rfl) (pv 1) zad (fun _ _=>rfl)) (zan G_9 (hr.mono (by decide)) (by rfl) T.m_9 T.F_9.kp T.b_9 .nil zav (zaa (pv 2) (zaa (pv 0) pa_nil)))))))),?_⟩;obtain ⟨_,a,b,rs,rows,rfl,L1,L2,l1,l2,r2,q⟩:=h;obtain ⟨ps,ha,hpl,hpr⟩:=id L1;have en:(ps.map V.ref).length=rs.length:=by rw [List.length_map];exact hpl
  symm;refine zgO ha ?_;refine zfz (zcg.enum ha) (by omega) (fun _=>true) (fun i=>.int ((rs.getD i []).getD 1 0-(cntB rows (1+(i:Int)):Int))) (fun i H' Q' _ _ q'=>q' _ (Same.refl _)) (fun i H' Q' hi s _ q'=>?_) fun p H2 f s e=>?_
  ·have hi':i < rs.length:=by omega
   have ex:(ps.map V.ref).getD i .non=.ref (ps.getD i 0):=by
    rw [List.getD_eq_getElem?_getD,List.getElem?_map,List.getElem?_eq_getElem (by omega),List.getD_eq_getElem?_getD,List.getElem?_eq_getElem (by omega)];rfl
   rw [ex];have h2:=r2 i hi';have hrow:=s _ _ (hpr i hi');show (_:TE) (some (.int (1+(i:Int)))::some (.ref (ps.getD i 0))::_) _ _;symm;refine zhE (L2.same s) l2 fun H3 s3=>?_;symm;exact q' _ s3
  rw [zjS rs rows _ en] at e;exact q p H2 f s e
theorem zcn {H:Hp} {a b:Addr} {rs rows:List (List Int)} {Q:VK} {E:XK} (h1:LL K H a rs) (h2:LL K H b rows) (l1:rs.length≤8) (l2:rows.length≤20) (r2:∀ i,i < rs.length→(rs.getD i []).length=2)
  (q:∀ p H',H p=none→Same H H'→H' p=some (.lst ((zaZ rs rows).map V.int))→Q (.ref p) H'):zdr K [.ref a,.ref b] H Q E:=⟨rfl,a,b,rs,rows,rfl,h1,h2,l1,l2,r2,q⟩
def zgs (rs rows:List (List Int)):Bool:=(zaZ rs rows).all fun x=>decide (0≤x)
theorem zjT (ns:List Int) (n:Nat) (hn:n=ns.length):((List.range n).filter fun _=>true).map (fun i=>V.bl (decide (0≤ns.getD i 0)))=(ns.map fun x=>decide (0≤x)).map V.bl:=by
 subst hn;rw [List.filter_eq_self.mpr (fun _ _=>rfl),List.map_map];refine List.ext_getElem (by simp) fun i h1 h2=>?_;simp at h1;simp [h1]
theorem zfO {rs rows:List (List Int)}:zgs rs rows=true↔∀ k,k < rs.length→(cntB rows ((k:Int)+1):Int)≤(rs.getD k []).getD 1 0:=by
 unfold zgs zaZ;rw [List.all_map,List.all_eq_true];constructor
 ·intro h k hk;have:=h k (List.mem_range.mpr hk);simp only [Function.comp_apply,decide_eq_true_eq] at this;omega
 ·intro h k hk;have:=h k (List.mem_range.mp hk);simp only [Function.comp_apply,decide_eq_true_eq];omega
def zb0 (K:PySem.W.Frag):Sp:=fun vs H Q _=>vs.length=2∧∃ (a b:Addr) (rs rows:List (List Int)),vs=[.ref a,.ref b]∧LL K H a rs∧LL K H b rows∧rs.length≤8∧rows.length≤20∧(∀ i,i < rs.length→(rs.getD i []).length=2)∧∀ H',Same H H'→Q (.bl (zgs rs rows)) H'
theorem zds (T:Txt K mg t):FnOk P w K mg base CX0 3 t.f_7 t.d_7 ["readers","rows"] (zb0 K):=by
 have G_8:=zcm (P:=P) (w:=w) (base:=base) T;refine T.F_7.ok sc_7 (fun _ _ _ _ h=>h.1) fun cdv A outer s H vs Q E hr h=>by
  refine ⟨_,(zae (zal (zah (ziz (K:=K) rfl rfl) (by rfl) T.z_all (by rfl) (zaa (zbd (zat (sc:=zab s_7) (XN:=["readers","rows"]) (N:=["left"]) (own:=1) (js:=[]) rfl rfl (by decide +kernel)) rfl (zaO (K:=K) rfl (zan G_8 (hr.mono (by decide)) (by rfl) T.m_8 T.F_8.kp T.b_8 .nil zav (zaa (pv 0) (zaa (pv 1) pa_nil)))) (fun _ _ _ _ _=>(zar (i:=0) (show List.Nodup [(Str.ofString "left")] by decide +kernel) rfl (Or.inl rfl))) (fun _ _ _ _ _=>zbM) (fun _ _ _ _ _=>(zcd (op_ge) (pv 0) zad (zaB _)))) pa_nil)))),?_⟩;obtain ⟨_,a,b,rs,rows,rfl,L1,L2,l1,l2,r2,q⟩:=h;symm;refine zcn L1 L2 l1 l2 r2 fun p H1 f1 s1 e1=>?_;have hll:(zaZ rs rows).length=rs.length:=by unfold zaZ;rw [List.length_map,List.length_range]
  have hq:(zaZ rs rows).all (fun x=>decide (0≤x))=zgs rs rows:=rfl;generalize zaZ rs rows=ns at *;have hn:(ns.map V.int).length=ns.length:=List.length_map ..;refine zaW (SqL.of e1) ?_;refine zcf (zfz (zcg.one (zbh (SqL.of e1))) (by omega) (fun _=>true) (fun i=>.bl (decide (0≤ns.getD i 0))) (fun i H' Q' _ _ q'=>q' _ (Same.refl _)) (fun i H' Q' hi s _ q'=>?_) fun p2 H2 f2 s2 e2=>?_)
  ·have ex:(ns.map V.int).getD i .non=.int (ns.getD i 0):=by
    rw [List.getD_eq_getElem?_getD,List.getElem?_map,List.getElem?_eq_getElem (by omega),List.getD_eq_getElem?_getD,List.getElem?_eq_getElem (by omega)];rfl
   rw [ex];show (_:TE) (some (.int (ns.getD i 0))::_) _ _;symm;exact q' _ (Same.refl _)
  rw [zjT ns _ hn] at e2;refine zjw (SqL.of e2) ?_;rw [List.all_map];have e3:(ns.all (id∘fun x=>decide (0≤x)))=zgs rs rows:=hq;rw [e3];exact q _ (s1.trans s2)
theorem zdG {H:Hp} {a b:Addr} {rs rows:List (List Int)} {Q:VK} {E:XK} (h1:LL K H a rs) (h2:LL K H b rows) (l1:rs.length≤8) (l2:rows.length≤20) (r2:∀ i,i < rs.length→(rs.getD i []).length=2)
  (q:∀ H',Same H H'→Q (.bl (zgs rs rows)) H'):zb0 K [.ref a,.ref b] H Q E:=⟨rfl,a,b,rs,rows,rfl,h1,h2,l1,l2,r2,q⟩
theorem zmd {row:List Int} {m:Nat} (nd:row.Nodup) (h:∀ r∈row,1≤r∧r≤m):row.length≤m:=by
 rw [← ziD nd h,zlN];exact Nat.le_trans (List.length_filter_le _ _) (by simp)
def flds (A G S:Addr):List (Str×V):=putF "spare" (.ref S) (putF "given" (.ref G) (putF "allowed" (.ref A) []))
theorem zme (A G S:Addr):(flds A G S).lookup ("spare" : Str)=some (.ref S):=by
 unfold flds;rw [zaz,if_pos rfl]
theorem zj9 (A G S:Addr):(flds A G S).lookup ("given" : Str)=some (.ref G):=by
 unfold flds;rw [zaz,if_neg (by decide +kernel),zaz,if_pos rfl]
theorem zmf (A G S:Addr):(flds A G S).lookup ("allowed" : Str)=some (.ref A):=by
 unfold flds;rw [zaz,if_neg (by decide +kernel),zaz,if_neg (by decide +kernel),zaz,if_pos rfl]
theorem zgt (A G S:Addr) {m:Str} (h1:¬m = "spare") (h2:¬m = "given") (h3:¬m = "allowed"):(flds A G S).lookup m=none:=by
 unfold flds;rw [zaz,if_neg h1,zaz,if_neg h2,zaz,if_neg h3];rfl
structure AtAd where
 x:Addr
 A:Addr
 G:Addr
 S:Addr
 aps:List Addr
 gps:List Addr
structure Att (C:Addr) (H:Hp) (d:AtAd) (al gv:List (List Int)) (sp:List Int):Prop where
 ob:∃ dx,H d.x=some (.ins C dx (flds d.A d.G d.S))
 ha:H d.A=some (.lst (d.aps.map V.ref))
 la:d.aps.length=al.length
 ra:∀ i,i < al.length→H (d.aps.getD i 0)=some (.lst ((al.getD i []).map V.int))∧d.aps.getD i 0∉d.gps∧d.aps.getD i 0≠d.S
 hg:H d.G=some (.lst (d.gps.map V.ref))
 lg:d.gps.length=gv.length
 ng:d.gps.Nodup
 rg:∀ i,i < gv.length→H (d.gps.getD i 0)=some (.lst ((gv.getD i []).map V.int))
 hs:H d.S=some (.lst (sp.map V.int))
 Sg:d.S∉d.gps
 Gg:d.G∉d.gps
 GS:d.G≠d.S
 Ag:d.A∉d.gps
 AS:d.A≠d.S
theorem Att.row {C:Addr} {H:Hp} {d:AtAd} {al gv:List (List Int)} {sp:List Int} (T:Att C H d al gv sp) {b:Addr} (hb:b∈d.gps):∃ xs:List V,H b=some (.lst xs):=by
 obtain ⟨i,hi,e⟩:=mem_getD (d:=0) hb;have:=T.rg i (by have:=T.lg;omega);rw [e] at this;exact ⟨_,this⟩
theorem Att.xg {C:Addr} {H:Hp} {d:AtAd} {al gv:List (List Int)} {sp:List Int} (T:Att C H d al gv sp):d.x∉d.gps:=fun h=>by
 obtain ⟨xs,e⟩:=T.row h;obtain ⟨dx,e2⟩:=T.ob;rw [e] at e2
 cases e2
theorem Att.xS {C:Addr} {H:Hp} {d:AtAd} {al gv:List (List Int)} {sp:List Int} (T:Att C H d al gv sp):d.x≠d.S:=fun h=>by
 obtain ⟨dx,e2⟩:=T.ob;rw [h,T.hs] at e2
 cases e2
theorem Att.keep {C:Addr} {H H':Hp} {d:AtAd} {al gv:List (List Int)} {sp:List Int} {D:Addr} {kvs:List (Key×V)} (T:Att C H d al gv sp) (hD:H D=some (.dK kvs)) (k:∀ b,b≠D→H' b=H b):Att C H' d al gv sp:=by
 have nl:∀ {b:Addr} {o:HO},H b=some o→(∀ kvs,o≠.dK kvs)→H' b=some o:=fun {b o} e ne=>by
  rw [k b (fun z=>by subst z;rw [hD] at e;exact ne kvs (Option.some.inj e).symm)];exact e
 obtain ⟨dx,ob⟩:=T.ob;exact ⟨⟨dx,nl ob (fun _ z=>by cases z)⟩,nl T.ha (fun _ z=>by cases z),T.la,fun i hi=>⟨nl (T.ra i hi).1 (fun _ z=>by cases z),(T.ra i hi).2⟩,nl T.hg (fun _ z=>by cases z),T.lg,T.ng,fun i hi=>nl (T.rg i hi) (fun _ z=>by cases z),nl T.hs (fun _ z=>by cases z),T.Sg,T.Gg,T.GS,T.Ag,T.AS⟩
theorem Att.same {C:Addr} {H H':Hp} {d:AtAd} {al gv:List (List Int)} {sp:List Int} (T:Att C H d al gv sp) (s:Same H H'):Att C H' d al gv sp:=by
 obtain ⟨dx,ob⟩:=T.ob;exact ⟨⟨dx,s _ _ ob⟩,s _ _ T.ha,T.la,fun i hi=>⟨s _ _ (T.ra i hi).1,(T.ra i hi).2⟩,s _ _ T.hg,T.lg,T.ng,fun i hi=>s _ _ (T.rg i hi),s _ _ T.hs,T.Sg,T.Gg,T.GS,T.Ag,T.AS⟩
theorem zhF {ps:List Addr} (nd:ps.Nodup) {i j:Nat} (hi:i < ps.length) (hj:j < ps.length) (h:ps.getD i 0=ps.getD j 0):i=j:=by
 rw [List.getD_eq_getElem?_getD,List.getD_eq_getElem?_getD,List.getElem?_eq_getElem hi,List.getElem?_eq_getElem hj] at h;exact (List.getElem_inj nd).mp h
theorem Att.setRow {C:Addr} {H H':Hp} {d:AtAd} {al gv:List (List Int)} {sp row:List Int} {p:Nat} (T:Att C H d al gv sp) (hp:p < gv.length) (b:But (d.gps.getD p 0) H H') (e:H' (d.gps.getD p 0)=some (.lst (row.map V.int))):Att C H' d al (gv.set p row) sp:=by
 have l:=T.lg;have hm:d.gps.getD p 0∈d.gps:=getD_mem (by omega);have nm:∀ {a:Addr},a∉d.gps→a≠d.gps.getD p 0:=fun h z=>h (z▸hm);obtain ⟨dx,ob⟩:=T.ob;refine ⟨⟨dx,by rw [b _ (nm T.xg)];exact ob⟩,by rw [b _ (nm T.Ag)];exact T.ha,T.la,fun i hi=>⟨by rw [b _ (nm (T.ra i hi).2.1)];exact (T.ra i hi).1,(T.ra i hi).2⟩,by rw [b _ (nm T.Gg)];exact T.hg,by rw [List.length_set];exact l,T.ng,fun i hi=>?_,by rw [b _ (nm T.Sg)];exact T.hs,T.Sg,T.Gg,T.GS,T.Ag,T.AS⟩;rw [List.length_set] at hi;rw [zbf hp]
 by_cases ei:i=p
 ·subst ei;rw [if_pos rfl];exact e
 ·rw [if_neg ei,b _ (fun z=>ei (zhF T.ng (by omega) (by omega) z))];exact T.rg i hi
theorem Att.setSp {C:Addr} {H H':Hp} {d:AtAd} {al gv:List (List Int)} {sp sp':List Int} (T:Att C H d al gv sp) (b:But d.S H H') (e:H' d.S=some (.lst (sp'.map V.int))):Att C H' d al gv sp':=by
 have l:=T.lg;obtain ⟨dx,ob⟩:=T.ob;refine ⟨⟨dx,by rw [b _ T.xS];exact ob⟩,by rw [b _ T.AS];exact T.ha,T.la,fun i hi=>⟨by rw [b _ (T.ra i hi).2.2];exact (T.ra i hi).1,(T.ra i hi).2⟩,by rw [b _ T.GS];exact T.hg,l,T.ng,fun i hi=>?_,e,T.Sg,T.Gg,T.GS,T.Ag,T.AS⟩;rw [b _ (fun z=>T.Sg (z▸getD_mem (by omega)))];exact T.rg i hi
def Frm (d:AtAd) (D:Addr) (H H':Hp):Prop:=∀ b o,H b=some o→b∉d.gps→b≠d.S→b≠D→H' b=some o
theorem Frm.refl {d:AtAd} {D:Addr} {H:Hp}:Frm d D H H:=fun _ _ e _ _ _=>e
theorem Frm.trans {d:AtAd} {D:Addr} {H H1 H2:Hp} (a:Frm d D H H1) (b:Frm d D H1 H2):Frm d D H H2:=fun c o e h1 h2 h3=>b c o (a c o e h1 h2 h3) h1 h2 h3
theorem Frm.but {d:AtAd} {D a:Addr} {H H':Hp} (b:But a H H') (h:a∈d.gps∨a=d.S∨a=D):Frm d D H H':=fun c o e h1 h2 h3=>by
 rw [b c (fun z=>by subst z;rcases h with h | h | h <;> contradiction)];exact e
def KsOk (lim ks:List Int):Prop:=ks.Nodup∧∀ k∈ks,1≤k∧k≤lim.length
theorem KsOk.push {lim ks:List Int} {x:Int} (h:KsOk lim ks) (hx:x∉ks) (h1:1≤x∧x≤lim.length):KsOk lim (ks++[x]):=by
 refine ⟨List.nodup_append.mpr ⟨h.1,by simp,fun a ha b hb=>?_⟩,fun k hk=>?_⟩
 ·have:b=x:=by simpa using hb
  subst this;intro e;subst e;exact hx ha
 ·rcases List.mem_append.mp hk with z | z
  ·exact h.2 k z
  ·have:k=x:=by simpa using z
   subst this;exact h1
def KpX (x:Addr) (H H':Hp):Prop:=∀ c o,H c=some o→c≠x→H' c=some o
theorem KpX.of {x:Addr} {H H':Hp} (s:Same H H'):KpX x H H':=fun c o e _=>s c o e
theorem KpX.but {x:Addr} {H H':Hp} (b:But x H H'):KpX x H H':=fun c o e n=>by rw [b c n];exact e
theorem KpX.trans {x:Addr} {H H1 H2:Hp} (a:KpX x H H1) (b:KpX x H1 H2):KpX x H H2:=fun c o e n=>b c o (a c o e n) n
theorem KpX.seq {K:PySem.W.Frag} {x C dx:Addr} {fs:List (Str×V)} {H H':Hp} {a:Addr} {xs:List V} (k:KpX x H H') (hx:H x=some (.ins C dx fs)) (h:SqL K H a xs):SqL K H' a xs:=by
 rcases h with (h | ⟨o,h⟩) | h
 ·exact .inl (.inl (k _ _ h (fun z=>by subst z;rw [hx] at h;cases h)))
 ·exact .inl (.inr ⟨o,k _ _ h (fun z=>by subst z;rw [hx] at h;cases h)⟩)
 ·exact .inr h
theorem KpX.ll {K:PySem.W.Frag} {x C dx:Addr} {fs:List (Str×V)} {H H':Hp} {a:Addr} {rs:List (List Int)} (k:KpX x H H') (hx:H x=some (.ins C dx fs)) (h:LL K H a rs):LL K H' a rs:=by
 obtain ⟨ps,h1,h2,h3⟩:=h;exact ⟨ps,k.seq hx h1,h2,fun i hi=>k _ _ (h3 i hi) (fun z=>by have:=h3 i hi;rw [z,hx] at this;cases this)⟩
def zbT (K:PySem.W.Frag) (C:Addr):Sp:=fun vs H Q _=>vs.length=3∧∃ (x dx a b:Addr) (hs:List Int) (rs:List (List Int)),vs=[.ref x,.ref a,.ref b]∧H x=some (.ins C dx [])∧SqL K H a (hs.map V.int)∧LL K H b rs∧InB hs rs ∧
 ∀ (d:AtAd) H',d.x=x→(∀ c o,H c=some o→c≠x→H' c=some o)→(∀ g∈d.gps,H g=none)→H d.S=none →
  Att C H' d ((List.range hs.length).map fun i:Nat=>zag hs rs (1+(i:Int))) ((List.range hs.length).map fun _=>[]) ((List.range rs.length).map fun i=>(rs.getD i []).getD 1 0)→Q .non H'
theorem zc6 (T:Txt K mg t):FnOk P w K mg base CX0 3 t.f_Attempt___init__ t.d_Attempt___init__ ["self","papers","readers"] (zbT K t.C_Attempt):=by
 have G_2:=zb4 (P:=P) (w:=w) (base:=base) T;refine T.F_Attempt___init__.ok sc_Attempt___init__ (fun _ _ _ _ h=>h.1) fun cdv A outer s H vs Q E hr h=>by
  refine ⟨_,(zac (zbF (K:=K) rfl (pv 0) (zbd (zat (sc:=zab s_Attempt___init__) (XN:=["self","papers","readers"]) (N:=["paper","papers","readers"]) (own:=1) (js:=[1,2]) rfl rfl (by decide +kernel)) rfl (zb6 (by rfl) T.z_range (zaa zad (zaa (zap (op_addG) (zah (zaj (K:=K) rfl) (by rfl) T.z_len (by rfl) (zaa (pv 1) pa_nil)) zad) pa_nil))) (fun _ _ _ _ _=>(zar (i:=0) (show List.Nodup [(Str.ofString "paper"),(Str.ofString "papers"),(Str.ofString "readers")] by decide +kernel) rfl (Or.inl rfl))) (fun _ _ _ _ _=>zbM) (fun _ _ _ _ _=>(zan G_2 (hr.mono (by decide)) (by rfl) T.m_2 T.F_2.kp T.b_2 .nil zav (zaa (pv 1) (zaa (pv 2) (zaa (pv 0) pa_nil)))))))
   (zac (zbF (K:=K) rfl (pv 0) (zbd (zat (sc:=zab s_Attempt___init__) (XN:=["self","papers","readers"]) (N:=["house"]) (own:=1) (js:=[]) rfl rfl (by decide +kernel)) rfl (zaO (K:=K) rfl (pv 1)) (fun _ _ _ _ _=>(zar (i:=0) (show List.Nodup [(Str.ofString "house")] by decide +kernel) rfl (Or.inl rfl))) (fun _ _ _ _ _=>zbM) (fun _ _ _ _ _=>(zaV pa_nil))))
   (zae (zbF (K:=K) rfl (pv 0) (zbd (zat (sc:=zab s_Attempt___init__) (XN:=["self","papers","readers"]) (N:=["row"]) (own:=1) (js:=[]) rfl rfl (by decide +kernel)) rfl (zaO (K:=K) rfl (pv 2)) (fun _ _ _ _ _=>(zar (i:=0) (show List.Nodup [(Str.ofString "row")] by decide +kernel) rfl (Or.inl rfl))) (fun _ _ _ _ _=>zbM) (fun _ _ _ _ _=>(zax (zaf (K:=K) rfl) (pv 0) zad (fun _ _=>rfl)))))))),?_⟩
  obtain ⟨_,x,dx,a,b,hs,rs,rfl,hx,ha,L,B,q⟩:=h;obtain ⟨psr,hb,hpl,hpr⟩:=id L;have B1:=B.lp;have B2:=B.lr;have hcl:=T.cl_Attempt;have hnA:=T.n_Attempt_allowed;have hnG:=T.n_Attempt_given;have hnS:=T.n_Attempt_spare;symm;refine zeD ⟨by omega,by omega,by omega,by omega⟩ ?_;have en:((hs.length:Int)+1-1).toNat=hs.length:=by omega
  rw [en];refine zcf (zca (zcg.one (zcK _ _ _)) (by omega) (fun i:Nat=>zag hs rs (1+(i:Int))) (fun i H' Q' hi s q'=>?_) fun p1 H1 R1=>?_)
  ·show (_:TE) (some (.int (1+(i:Int)))::_) _ _;symm;exact zcl (s.seq ha) (L.same s) (by omega) (by omega) (by omega) B.r2 q'
  obtain ⟨s1,f1,ps1,e1,l1,nd1,r1⟩:=id R1;rw [List.length_map,List.length_range] at l1 r1;symm;refine za3 (s1 _ _ hx) hcl hnA (by show 0 < 1000;decide) fun H2 b2 e2=>?_;have nx:∀ {c:Addr},H c=none→c≠x:=fun h z=>by subst z;rw [hx] at h;cases h
  have k2:KpX x H H2:=(KpX.of s1).trans (KpX.but b2);have ha2:=k2.seq hx ha;have L2:=k2.ll hx L;obtain ⟨psr2,hb2,hpl2,hpr2⟩:=id L2;symm;refine zaW ha2 ?_;have ehl:(hs.map V.int).length=hs.length:=List.length_map ..;refine zcf (zca (zcg.one (zbh ha2)) (by omega) (fun _=>[]) (fun i H' Q' hi s q'=>?_) fun p3 H3 R3=>?_)
  ·show (_:TE) (some ((hs.map V.int).getD i .non)::_) _ _;symm;exact zaA (by simp) q'
  obtain ⟨s3,f3,ps3,e3,l3,nd3,r3⟩:=id R3;rw [List.length_map,List.length_range,ehl] at l3 r3;symm;refine za3 (s3 _ _ e2) hcl hnG (by show 1 < 1000;decide) fun H4 b4 e4=>?_;have k4:KpX x H2 H4:=(KpX.of s3).trans (KpX.but b4);have L4:=k4.ll e2 L2;obtain ⟨psr4,hb4,hpl4,hpr4⟩:=id L4;have er4:(psr4.map V.ref).length=rs.length:=by rw [List.length_map];exact hpl4
  symm;refine zaW hb4 ?_;refine zfq (zbh hb4) (by omega) (fun i=>(rs.getD i []).getD 1 0) (fun i H' Q' hi s q'=>?_) fun p5 H5 f5 s5 e5=>?_
  ·have hi':i < rs.length:=by omega
   have ex:(psr4.map V.ref).getD i .non=.ref (psr4.getD i 0):=by
    rw [List.getD_eq_getElem?_getD,List.getElem?_map,List.getElem?_eq_getElem (by omega),List.getD_eq_getElem?_getD,List.getElem?_eq_getElem (by omega)];rfl
   rw [ex];have h2:=B.r2 i hi';have hrow:=s _ _ (hpr4 i hi');symm;exact q'
  symm;refine za3 (s5 _ _ e4) hcl hnS (by show 2 < 1000;decide) fun H6 b6 e6=>?_;rw [er4] at e5;have k6:KpX x H4 H6:=(KpX.of s5).trans (KpX.but b6);have c12:∀ {c:Addr} {o:HO},H1 c=some o→c≠x→H2 c=some o:=fun e h=>by rw [b2 _ h];exact e
  have c34:∀ {c:Addr} {o:HO},H3 c=some o→c≠x→H4 c=some o:=fun e h=>by rw [b4 _ h];exact e
  have c56:∀ {c:Addr} {o:HO},H5 c=some o→c≠x→H6 c=some o:=fun e h=>by rw [b6 _ h];exact e
  have n2:∀ {c:Addr},H2 c=none→c≠x:=fun h z=>by subst z;rw [e2] at h;cases h
  have n4:∀ {c:Addr},H4 c=none→c≠x:=fun h z=>by subst z;rw [e4] at h;cases h
  have fr2:∀ {c:Addr},H2 c=none→H c=none:=fun h=>s1.free (by rw [← b2 _ (n2 h)];exact h);have fr4:∀ {c:Addr},H4 c=none→H2 c=none:=fun h=>s3.free (by rw [← b4 _ (n4 h)];exact h);have hp1x:p1≠x:=nx f1;have hp3x:p3≠x:=n2 f3;have hp5x:p5≠x:=n4 f5;have A2:=c12 e1 hp1x;have A4:=k4 _ _ A2 hp1x;have G4:=c34 e3 hp3x;refine q ⟨x,p1,p3,p5,ps1,ps3⟩ H6 rfl ((k2.trans k4).trans k6) (fun g hg=>?_) (fr2 (fr4 f5)) ⟨⟨dx,e6⟩,k6 _ _ A4 hp1x,by rw [List.length_map,List.length_range];exact l1,fun i hi=>?_,k6 _ _ G4 hp3x,by rw [List.length_map,List.length_range];exact l3,nd3,fun i hi=>?_,c56 e5 hp5x,fun z=>?_,fun z=>?_,fun z=>?_,fun z=>?_,fun z=>?_⟩
  ·obtain ⟨i,hi,rfl⟩:=mem_getD (d:=0) hg;have hi:i < ps3.length:=hi;exact fr2 (r3 i (by omega)).2.1
  ·rw [List.length_map,List.length_range] at hi;obtain ⟨g1,g2,g3⟩:=r1 i hi;have h2:=c12 g1 (nx g2);have h4:=k4 _ _ h2 (nx g2);refine ⟨k6 _ _ h4 (nx g2),fun z=>?_,fun z=>?_⟩
   ·obtain ⟨j,hj,ej⟩:=mem_getD (d:=0) z;have hj:j < ps3.length:=hj;have:=(r3 j (by omega)).2.1;have ej':ps3.getD j 0=ps1.getD i 0:=ej;rw [ej',h2] at this
    cases this
   ·have z':ps1.getD i 0=p5:=z;rw [z',f5] at h4
    cases h4
  ·rw [List.length_map,List.length_range] at hi;obtain ⟨g1,g2,g3⟩:=r3 i hi;exact k6 _ _ (c34 g1 (n2 g2)) (n2 g2)
  ·obtain ⟨j,hj,ej⟩:=mem_getD (d:=0) z;have hj:j < ps3.length:=hj;obtain ⟨g1,g2,g3⟩:=r3 j (by omega);have h4:=c34 g1 (n2 g2);have ej':ps3.getD j 0=p5:=ej;rw [ej',f5] at h4
   cases h4
  ·obtain ⟨j,hj,ej⟩:=mem_getD (d:=0) z;have hj:j < ps3.length:=hj;exact (r3 j (by omega)).2.2 ej
  ·have z':p3=p5:=z;rw [z',f5] at G4
   cases G4
  ·obtain ⟨j,hj,ej⟩:=mem_getD (d:=0) z;have hj:j < ps3.length:=hj;have:=(r3 j (by omega)).2.1;have ej':ps3.getD j 0=p1:=ej;rw [ej',A2] at this
   cases this
  ·have z':p1=p5:=z;rw [z',f5] at A4
   cases A4
theorem zmg {K:PySem.W.Frag} {C:Addr} {H:Hp} {Q:VK} {E:XK} {x dx a b:Addr} {hs:List Int} {rs:List (List Int)} (h1:H x=some (.ins C dx [])) (h2:SqL K H a (hs.map V.int)) (h3:LL K H b rs) (B:InB hs rs)
  (q:∀ (d:AtAd) H',d.x=x→(∀ c o,H c=some o→c≠x→H' c=some o)→(∀ g∈d.gps,H g=none)→H d.S=none →
   Att C H' d ((List.range hs.length).map fun i:Nat=>zag hs rs (1+(i:Int))) ((List.range hs.length).map fun _=>[]) ((List.range rs.length).map fun i=>(rs.getD i []).getD 1 0)→Q .non H'):zbT K C [.ref x,.ref a,.ref b] H Q E:=⟨rfl,x,dx,a,b,hs,rs,rfl,h1,h2,h3,B,q⟩
def zaP (K:PySem.W.Frag) (C:Addr) (n:Nat):Sp:=fun vs H Q _=>vs.length=3∧∃ (d:AtAd) (p:Int) (D:Addr) (al gv:List (List Int)) (lim sp ks:List Int),vs=[.ref d.x,.int p,.ref D]∧Att C H d al gv sp∧H D=some (.dK (kvT ks))∧Vld al gv lim sp 0∧KsOk lim ks∧lim.length≤ks.length+n∧lim.length≤8∧gv.length≤10∧1≤p∧p≤gv.length ∧
 (∀ H' gv' sp',Frm d D H H'→Att C H' d al gv' sp'→Fnd al gv gv' lim sp' ks (p-1).toNat→Q (.bl true) H') ∧
 (∀ H' ls,Frm d D H H'→Att C H' d al gv sp→H' D=some (.dK (kvT ls))→KsOk lim ls→Cls2 al gv sp ks ls→Cov al gv ls (p-1).toNat→Q (.bl false) H')
def zaN (K:PySem.W.Frag) (C:Addr) (n:Nat):Sp:=fun vs H Q _=>vs.length=3∧∃ (d:AtAd) (r:Int) (D:Addr) (al gv:List (List Int)) (lim sp ks:List Int),vs=[.ref d.x,.int r,.ref D]∧Att C H d al gv sp∧H D=some (.dK (kvT ks))∧Vld al gv lim sp 0∧KsOk lim ks∧lim.length≤ks.length+n∧lim.length≤8∧gv.length≤10∧r∈ks ∧
 (∀ H' gv' sp',Frm d D H H'→Att C H' d al gv' sp'→Fre al gv gv' lim sp' ks r→Q (.bl true) H') ∧
 (∀ H' ls,Frm d D H H'→Att C H' d al gv sp→H' D=some (.dK (kvT ls))→KsOk lim ls→Cls2 al gv sp ks ls→sp.getD (r-1).toNat 0=0→(∀ q,q < gv.length→r∈gv.getD q []→Cov al gv ls q)→Q (.bl false) H')
def ziZ (K:PySem.W.Frag) (C:Addr):Nat→Sp
 | 0=>fun _ _ _ _=>False
 | n+1=>zaN K C n
theorem zgu {K:PySem.W.Frag} {C:Addr} {n:Nat}:ziZ K C (n+1)=zaN K C n:=rfl
theorem zka {K:PySem.W.Frag} {C:Addr} {n:Nat} {H:Hp} {Q:VK} {E:XK} {d:AtAd} {p:Int} {D:Addr} {al gv:List (List Int)} {lim sp ks:List Int} (T:Att C H d al gv sp) (hD:H D=some (.dK (kvT ks))) (V:Vld al gv lim sp 0) (k:KsOk lim ks) (hn:lim.length≤ks.length+n) (hm:lim.length≤8) (h10:gv.length≤10) (p1:1≤p) (p2:p≤gv.length)
  (q1:∀ H' gv' sp',Frm d D H H'→Att C H' d al gv' sp'→Fnd al gv gv' lim sp' ks (p-1).toNat→Q (.bl true) H')
  (q2:∀ H' ls,Frm d D H H'→Att C H' d al gv sp→H' D=some (.dK (kvT ls))→KsOk lim ls→Cls2 al gv sp ks ls→Cov al gv ls (p-1).toNat→Q (.bl false) H'):zaP K C n [.ref d.x,.int p,.ref D] H Q E:=⟨rfl,d,p,D,al,gv,lim,sp,ks,rfl,T,hD,V,k,hn,hm,h10,p1,p2,q1,q2⟩
theorem zmh {K:PySem.W.Frag} {C:Addr} {n:Nat} {H:Hp} {Q:VK} {E:XK} {d:AtAd} {r:Int} {D:Addr} {al gv:List (List Int)} {lim sp ks:List Int} (T:Att C H d al gv sp) (hD:H D=some (.dK (kvT ks))) (V:Vld al gv lim sp 0) (k:KsOk lim ks) (hn:lim.length≤ks.length+n) (hm:lim.length≤8) (h10:gv.length≤10) (hr:r∈ks)
  (q1:∀ H' gv' sp',Frm d D H H'→Att C H' d al gv' sp'→Fre al gv gv' lim sp' ks r→Q (.bl true) H')
  (q2:∀ H' ls,Frm d D H H'→Att C H' d al gv sp→H' D=some (.dK (kvT ls))→KsOk lim ls→Cls2 al gv sp ks ls→sp.getD (r-1).toNat 0=0→(∀ q,q < gv.length→r∈gv.getD q []→Cov al gv ls q)→Q (.bl false) H'):zaN K C n [.ref d.x,.int r,.ref D] H Q E:=⟨rfl,d,r,D,al,gv,lim,sp,ks,rfl,T,hD,V,k,hn,hm,h10,hr,q1,q2⟩
theorem zbl (T:Txt K mg t) (kk d:Nat) (G_Attempt_find_reader:FnOk P w K mg base CX0 kk t.f_Attempt_find_reader t.d_Attempt_find_reader ["self","paper","asked"] (zaP K t.C_Attempt d)):FnOk P w K mg base CX0 (kk+1) t.f_Attempt_free_reading t.d_Attempt_free_reading ["self","reader","asked"] (zaN K t.C_Attempt d):=by
 refine T.F_Attempt_free_reading.ok sc_Attempt_free_reading (fun _ _ _ _ h=>h.1) fun cdv A outer s H vs Q E hr h=>by
  refine ⟨_,(zac (zaX (zaq (op_gt) (zax (zaf (K:=K) rfl) (zaD (K:=K) rfl (pv 0)) (zap (op_sub) (pv 1) zad) (fun _ _=>rfl)) zad (zaB _))
   (zac (zkf (zaD (K:=K) rfl (pv 0)) (zap (op_sub) (pv 1) zad) (ziF (K:=K) rfl) zad ip_sub set_list)
   (zae (zal zbe))) pss_nil)
   (zac (zbc PassesOwn.never rfl (zb6 (by rfl) T.z_range (zaa zad (zaa (zap (op_addG) (zah (zaj (K:=K) rfl) (by rfl) T.z_len (by rfl) (zaa (zaD (K:=K) rfl (pv 0)) pa_nil)) zad) pa_nil))) (zar (i:=3) sc_Attempt_free_reading.nd rfl (Or.inl rfl))
   (zae (zaX (zfb (zaq (zeL (K:=K) rfl (zc0 hr)) (pv 1) (zax (zaf (K:=K) rfl) (zaD (K:=K) rfl (pv 0)) (zap (op_sub) (pv 3) zad) (fun _ _=>rfl)) (by with_unfolding_all rfl)) (zeR (zaC (K:=K) rfl (zbq (pv 0) T.cl_Attempt T.me_Attempt_find_reader G_Attempt_find_reader (hr.mono (by first | decide | exact Nat.le_refl _)) T.b_Attempt_find_reader .nil zav (zaa (pv 3) (zaa (pv 2) pa_nil))) (fun _=>rfl)))).pt
   (zac (zaG (zbW (K:=K) rfl PySem.F.plainAttrs_list PySem.F.slot_list_remove PySem.F.type_list_remove mt_remove (zax (zaf (K:=K) rfl) (zaD (K:=K) rfl (pv 0)) (zap (op_sub) (pv 3) zad) (fun _ _=>rfl)) (zaa (pv 1) pa_nil)))
   (zae (zal zbe))) pss_nil)))
   (zae (zal zbe)))),?_⟩
  obtain ⟨_,dd,r,D,al,gv,lim,sp,ks,rfl,A,hD,Vd,hk,hn,hm,h10,hrk,q1,q2⟩:=h;have hcl:=T.cl_Attempt;have hnS:=T.n_Attempt_spare;have hnG:=T.n_Attempt_given;obtain ⟨dx,hob⟩:=A.ob;have fS:=zme dd.A dd.G dd.S;have fG:=zj9 dd.A dd.G dd.S;have fM:=zgt dd.A dd.G dd.S (m:="find_reader") (by decide +kernel) (by decide +kernel) (by decide +kernel);obtain ⟨r1,r2⟩:=hk.2 r hrk;have lsp:=Vd.ls;have hS:=A.hs;symm;refine zbN (fun h0=>?_) (fun h0=>?_)
  ·symm;refine zlT (SqL.of hS) (by omega) (by omega) ?_;symm;refine zeX hS (by omega) (by rw [List.length_map];omega) fun H1 b1 e1=>?_;symm;refine q1 H1 gv _ (Frm.but b1 (.inr (.inl rfl))) (A.setSp (sp':=sp.set (r-1).toNat (sp.getD (r-1).toNat 0-1)) b1 ?_) (Vd.taken r1 r2 h0);rw [e1,List.map_set]
  ·have hz:sp.getD (r-1).toNat 0=0:=by have:=Vd.s0 (r-1).toNat (by omega);omega
   have hGl:=A.hg;have lg:=A.lg;symm;refine zeD ⟨by omega,by omega,by omega,by omega⟩ ?_;have en:((dd.gps.length:Int)+1-1).toNat=gv.length:=by omega
   rw [en];refine zbX (fun i σ H'=>∃ ls v,σ=[some (.ref dd.x),some (.int r),some (.ref D),v]∧Frm dd D H H'∧Att t.C_Attempt H' dd al gv sp∧H' D=some (.dK (kvT ls))∧KsOk lim ls∧Cls2 al gv sp ks ls∧∀ q,q < i→r∈gv.getD q []→Cov al gv ls q) ⟨ks,none,rfl,Frm.refl,A,hD,hk,Cls2.refl,fun q hq=>absurd hq (by omega)⟩ ?_ ?_
   ·rintro i σ H' hi ⟨ls,v,rfl,F',A',hD',hk',C',hc⟩;obtain ⟨dx',hob'⟩:=A'.ob;have hGl':=A'.hg;have hrow:=A'.rg i hi;have ei:(1+(i:Int)-1).toNat=i:=by omega
    have hl':lim.length≤ls.length+d:=by
     have:=List.Nodup.length_le_of_subset hk.1 (fun z hz=>C'.1 z hz:ks ⊆ ls);omega
    symm;rw [ei];symm
    by_cases hin:r∈gv.getD i []
    ·rw [decide_eq_true hin];refine iteT ?_;symm;refine zaM hob' fM ?_;symm;refine zka A' hD' Vd hk' hl' hm h10 (by omega) (by omega) (fun H2 gv2 sp2 F2 A2 N2=>?_) (fun H2 ls2 F2 A2 hD2 hk2 C2 hc2=>?_)
     ·symm;refine iteT ?_;rw [ei] at N2;obtain ⟨dx2,hob2⟩:=A2.ob;have hGl2:=A2.hg;have lg2:=N2.lg;have hrow2:=A2.rg i (by omega);obtain ⟨hx2,N3⟩:=N2.freed hi hin (C'.1 r hrk);symm;rw [ei];symm;refine zge hrow2 hx2 fun H3 b3 e3=>?_;symm;refine q1 H3 _ sp2 ((F'.trans F2).trans (Frm.but b3 (.inl (getD_mem (by omega))))) (A2.setRow (by omega) b3 e3) ⟨N3.v,N3.lg,N3.len,fun z hz=>N3.old z (C'.1 z hz),N3.own⟩
     ·symm;refine iteF ?_;symm;rw [ei] at hc2;refine ⟨ls2,_,rfl,F'.trans F2,A2,hD2,hk2,C'.trans C2,fun q hq hqr=>?_⟩
      by_cases e:q=i
      ·subst e;exact hc2
      ·exact (hc q (by omega) hqr).mono C2.1
    ·rw [decide_eq_false hin];refine iteF ?_;symm;refine ⟨ls,_,rfl,F',A',hD',hk',C',fun q hq hqr=>?_⟩
     by_cases e:q=i
     ·subst e;exact absurd hqr hin
     ·exact hc q (by omega) hqr
   ·rintro σ H' ⟨ls,v,rfl,F',A',hD',hk',C',hc⟩;symm;exact q2 H' ls F' A' hD' hk' C' hz hc
theorem zbv (T:Txt K mg t) (kk d:Nat) (G_Attempt_free_reading:FnOk P w K mg base CX0 kk t.f_Attempt_free_reading t.d_Attempt_free_reading ["self","reader","asked"] (ziZ K t.C_Attempt d)):FnOk P w K mg base CX0 (kk+1) t.f_Attempt_find_reader t.d_Attempt_find_reader ["self","paper","asked"] (zaP K t.C_Attempt d):=by
 refine T.F_Attempt_find_reader.ok sc_Attempt_find_reader (fun _ _ _ _ h=>h.1) fun cdv A outer s H vs Q E hr h=>by
  refine ⟨_,(zac (zbc PassesOwn.never rfl (zaO (K:=K) rfl (zax (zaf (K:=K) rfl) (zaD (K:=K) rfl (pv 0)) (zap (op_sub) (pv 1) zad) (fun _ _=>rfl))) (zar (i:=3) sc_Attempt_find_reader.nd rfl (Or.inl rfl))
   (zac (zaX (zcM (zjX (zlk (zc0 hr) (pv 3) (pv 2))) (zb5 (zaq (zeL (K:=K) rfl (zc0 hr)) (pv 3) (zax (zaf (K:=K) rfl) (zaD (K:=K) rfl (pv 0)) (zap (op_sub) (pv 1) zad) (fun _ _=>rfl)) (by with_unfolding_all rfl)))).pt
   (zae ps_continue) pss_nil)
   (zac (zig (zc0 hr) (pv 2) (pv 3) zbe rfl)
   (zae (zaX (zaC (K:=K) rfl (zbq (pv 0) T.cl_Attempt T.me_Attempt_free_reading G_Attempt_free_reading (hr.mono (by first | decide | exact Nat.le_refl _)) T.b_Attempt_free_reading .nil zav (zaa (pv 3) (zaa (pv 2) pa_nil))) (fun _=>rfl))
   (zac (zaG (zbW (K:=K) rfl PySem.F.plainAttrs_list PySem.F.slot_list_append PySem.F.type_list_append mt_append (zax (zaf (K:=K) rfl) (zaD (K:=K) rfl (pv 0)) (zap (op_sub) (pv 1) zad) (fun _ _=>rfl)) (zaa (pv 3) pa_nil)))
   (zae (zal zbe))) pss_nil)))))
   (zae (zal zbe))),?_⟩
  obtain ⟨_,dd,p,D,al,gv,lim,sp,ks,rfl,A,hD,Vd,hk,hn,hm,h10,p1,p2,q1,q2⟩:=h;have hcl:=T.cl_Attempt;have hnA:=T.n_Attempt_allowed;have hnG:=T.n_Attempt_given;obtain ⟨dx,hob⟩:=A.ob;have fA:=zmf dd.A dd.G dd.S;have fG:=zj9 dd.A dd.G dd.S;have fM:=zgt dd.A dd.G dd.S (m:="free_reading") (by decide +kernel) (by decide +kernel) (by decide +kernel);have lga:=Vd.lg;have lg:=A.lg;have la:=A.la;have hA:=A.ha;have hpl:(p-1).toNat < gv.length:=by omega
  symm;generalize ep:(p-1).toNat=pn at *;obtain ⟨hrow,hnm1,hnm2⟩:=A.ra pn (by omega);refine zaW (SqL.of hrow) ?_;refine zce (xs:=(al.getD pn []).map V.int) (fun i σ H'=>∃ ls v,σ=[some (.ref dd.x),some (.int p),some (.ref D),v]∧Frm dd D H H'∧Att t.C_Attempt H' dd al gv sp∧H' D=some (.dK (kvT ls))∧KsOk lim ls∧Cls2 al gv sp ks ls∧∀ j,j < i→(al.getD pn []).getD j 0∈ls∨(al.getD pn []).getD j 0∈gv.getD pn []) ⟨ks,none,rfl,Frm.refl,A,hD,hk,Cls2.refl,fun q hq=>absurd hq (by omega)⟩ ?_ ?_ ?_
  ·rintro i σ H' _ ⟨ls,v,rfl,F',A',_⟩;exact SqL.of (A'.ra pn (by omega)).1
  ·rintro i x σ H' hx ⟨ls,v,rfl,F',A',hD',hk',C',hc⟩;obtain ⟨hi,rfl⟩:=zcx hx;have hxm:(al.getD pn []).getD i 0∈al.getD pn []:=getD_mem hi;generalize hxe:(al.getD pn []).getD i 0=x at *;obtain ⟨dx',hob'⟩:=A'.ob;have hG':=A'.hg;have hgr:=A'.rg pn hpl;have hxr:=Vd.ar pn (by omega) x hxm;symm;refine zjD hD' ?_;symm;have done:∀ ls2,Cls2 al gv sp ls ls2→(x∈ls2∨x∈gv.getD pn [])→∀ j,j < i+1→(al.getD pn []).getD j 0∈ls2∨(al.getD pn []).getD j 0∈gv.getD pn []:=fun ls2 C2 h j hj=>by
    by_cases e:j=i
    ·subst e;rw [hxe];exact h
    ·exact (hc j (by omega)).elim (fun z=>.inl (C2.1 _ z)) .inr
   by_cases h1:x∈ls
   ·rw [decide_eq_true h1];refine iteT ?_;walk_at "rdk";exact ⟨ls,_,rfl,F',A',hD',hk',C',done ls Cls2.refl (.inl h1)⟩
   rw [decide_eq_false h1];refine iteF ?_;symm;rw [ep];symm
   by_cases h2:x∈gv.getD pn []
   ·rw [decide_eq_true h2];refine iteT ?_;symm;exact ⟨ls,_,rfl,F',A',hD',hk',C',done ls Cls2.refl (.inr h2)⟩
   rw [decide_eq_false h2];refine iteF ?_;have hk1:=hk'.push h1 hxr;have hl1:=zmd hk1.1 hk1.2;rw [List.length_append,List.length_singleton] at hl1;have hsub:=List.Nodup.length_le_of_subset hk.1 (fun z hz=>C'.1 z hz:ks ⊆ ls);symm;refine ziI hD' (by omega) h1 fun H1 b1 e1=>?_;have A1:=A'.keep hD' b1;obtain ⟨dx1,hob1⟩:=A1.ob;symm;refine zaM hob1 fM ?_;symm;obtain ⟨d',rfl⟩:∃ d',d=d'+1:=⟨d-1,by omega⟩
   rw [zgu];refine zmh (n:=d') (r:=x) A1 e1 Vd hk1 (by rw [List.length_append,List.length_singleton];omega) hm h10 (by simp) (fun H2 gv2 sp2 F2 A2 N2=>?_) (fun H2 ls2 F2 A2 hD2 hk2 C2 hz2 hc2=>?_)
   ·symm;refine iteT ?_;obtain ⟨dx2,hob2⟩:=A2.ob;have hG2:=A2.hg;have lg2:=N2.lg;have hrow2:=A2.rg pn (by omega);have N3:=N2.found hpl hxm h2 h1;have hlen:(gv2.getD pn []).length≤8:=by
     have:=zmd (N2.v.nd pn (by omega)) fun r hr=>N2.v.ar pn (by omega) r (N2.v.sub pn (by omega) r hr);omega
    symm;rw [ep];symm;refine zaS hrow2 (by rw [List.length_map];omega) fun H3 b3 e3=>?_;symm;refine q1 H3 _ sp2 (((F'.trans (Frm.but b1 (.inr (.inr rfl)))).trans F2).trans (Frm.but b3 (.inl (getD_mem (by omega))))) (A2.setRow (row:=gv2.getD pn []++[x]) (by omega) b3 (by rw [e3,List.map_append];rfl)) ⟨N3.v,N3.lg,N3.len,fun z hz=>N3.old z (C'.1 z hz)⟩
   ·symm;refine iteF ?_;symm;have C3:=C2.one hz2 hc2;exact ⟨ls2,_,rfl,(F'.trans (Frm.but b1 (.inr (.inr rfl)))).trans F2,A2,hD2,hk2,C'.trans C3,done ls2 C3 (.inl (C2.1 x (by simp)))⟩
  ·rintro σ H' ⟨ls,v,rfl,F',A',hD',hk',C',hc⟩;symm;refine q2 H' ls F' A' hD' hk' C' fun r hr=>?_;obtain ⟨j,hj,rfl⟩:=mem_getD (d:=0) hr;exact hc j (by rw [List.length_map];exact hj)
theorem zi0 (T:Txt K mg t):∀ n:Nat,FnOk P w K mg base CX0 (2 * n+1) t.f_Attempt_find_reader t.d_Attempt_find_reader ["self","paper","asked"] (zaP K t.C_Attempt n)∧FnOk P w K mg base CX0 (2 * n+2) t.f_Attempt_free_reading t.d_Attempt_free_reading ["self","reader","asked"] (zaN K t.C_Attempt n)
 | 0=>by
   have G0:FnOk P w K mg base CX0 0 t.f_Attempt_free_reading t.d_Attempt_free_reading ["self","reader","asked"] (ziZ K t.C_Attempt 0):=⟨fun _ _ _ _ z=>z.elim,fun _ _ _ _ _ _ _ _ _ _ _ _ _ z=>z.elim⟩
   have G1:=zbv T 0 0 G0;exact ⟨G1,zbl T 1 0 G1⟩
 | n+1=>by
   have G0:=(zi0 T n).2;have G1:=zbv T (2 * n+2) (n+1) G0;exact ⟨G1,zbl T (2 * n+3) (n+1) G1⟩
theorem zct (T:Txt K mg t):FnOk P w K mg base CX0 17 t.f_Attempt_find_reader t.d_Attempt_find_reader ["self","paper","asked"] (zaP K t.C_Attempt 8):=(zi0 T 8).1
theorem zg5 {hs:List Int} {rs:List (List Int)} {q r:Nat} (hr:r < rs.length):((r:Int)+1∈zag hs rs (1+(q:Int)))↔zbg hs rs q r=true:=by
 unfold zag;have e:(1+(q:Int)-1).toNat=q:=by omega
 constructor
 ·intro h;obtain ⟨i,hi,ei⟩:=List.mem_map.mp h;have:i=r:=by omega
  subst this;have:=(List.mem_filter.mp hi).2;unfold mayB at this;rw [e] at this;exact this
 ·intro h;refine List.mem_map.mpr ⟨r,List.mem_filter.mpr ⟨List.mem_range.mpr hr,?_⟩,by omega⟩;unfold mayB;rw [e];exact h
theorem zkb {hs:List Int} {rs:List (List Int)} {k x:Int} (h:x∈zag hs rs k):1≤x∧x≤rs.length:=by
 unfold zag at h;obtain ⟨i,hi,rfl⟩:=List.mem_map.mp h;have:=List.mem_range.mp (List.mem_filter.mp hi).1;omega
theorem cnt_nil (n:Nat) (x:Int):cntB ((List.range n).map fun _=>([]:List Int)) x=0:=by
 unfold cntB;rw [List.length_eq_zero_iff,List.filter_eq_nil_iff];intro a ha;obtain ⟨_,_,rfl⟩:=List.mem_map.mp ha;simp
theorem zi1 {hs:List Int} {rs:List (List Int)} (B:InB hs rs):Vld ((List.range hs.length).map fun i:Nat=>zag hs rs (1+(i:Int))) ((List.range hs.length).map fun _=>[]) ((List.range rs.length).map fun i=>(rs.getD i []).getD 1 0) ((List.range rs.length).map fun i=>(rs.getD i []).getD 1 0) 0:=by
 refine ⟨by simp,rfl,fun q hq=>?_,fun q hq r hr=>?_,fun q hq r hr=>?_,fun r hr=>?_,fun r hr=>?_⟩
 ·rw [List.length_map,List.length_range] at hq;rw [zaE hq];exact List.nodup_nil
 ·rw [List.length_map,List.length_range] at hq;rw [zaE hq] at hr
  cases hr
 ·rw [List.length_map,List.length_range] at hq;rw [zaE hq] at hr;rw [List.length_map,List.length_range];exact zkb hr
 ·rw [List.length_map,List.length_range] at hr;rw [zaE hr];exact (B.rl r hr).1
 ·rw [List.length_map,List.length_range] at hr;rw [zaE hr,cnt_nil,if_neg (by omega)];simp
def zb1 (K:PySem.W.Frag):Sp:=fun vs H Q _=>vs.length=2∧∃ (a b:Addr) (hs:List Int) (rs:List (List Int)),vs=[.ref a,.ref b]∧SqL K H a (hs.map V.int)∧LL K H b rs∧InB hs rs∧((∃ rows,zaT hs rs rows=true)→∀ H',Same H H'→Q (.bl true) H')∧((∀ rows,zaT hs rs rows=false)→∀ H',Same H H'→Q (.bl false) H')
theorem zdt (T:Txt K mg t):FnOk P w K mg base CX0 18 t.f_3 t.d_3 ["papers","readers"] (zb1 K):=by
 have G_Attempt___init__:=zc6 (P:=P) (w:=w) (base:=base) T;have G_Attempt_find_reader:=zct (P:=P) (w:=w) (base:=base) T;refine T.F_3.ok sc_3 (fun _ _ _ _ h=>h.1) fun cdv A outer s H vs Q E hr h=>by
  refine ⟨_,(zac (zaL (i:=2) sc_3.nd rfl (Or.inl rfl) (zkp T.mk_Attempt G_Attempt___init__ (hr.mono (by decide)) (by rfl) T.mg_Attempt T.b_Attempt___init__ .nil zav (zaa (pv 0) (zaa (pv 1) pa_nil))))
   (zac (zbc PassesOwn.never rfl (zb6 (by rfl) T.z_range (zaa zad (zaa (zap (op_addG) (zah (zaj (K:=K) rfl) (by rfl) T.z_len (by rfl) (zaa (pv 0) pa_nil)) zad) pa_nil))) (zar (i:=3) sc_3.nd rfl (Or.inl rfl))
   (zae (zbc PassesOwn.never rfl (za8 (by rfl) T.z_range (zaa (zcv (v:=.int 2) (by rfl) T.v_READERS_EACH T.w_READERS_EACH) pa_nil)) (zar (i:=4) sc_3.nd rfl (Or.inl rfl))
   (zae (zaX (zbD (zaC (K:=K) rfl (zbq (pv 2) T.cl_Attempt T.me_Attempt_find_reader G_Attempt_find_reader (hr.mono (by first | decide | exact Nat.le_refl _)) T.b_Attempt_find_reader .nil zav (zaa (pv 3) (zaa pe_dnewK pa_nil))) (fun _=>rfl)))
   (zae (zal zbe)) pss_nil)))))
   (zae (zal zbe)))),?_⟩
  obtain ⟨_,a,b,hs,rs,rfl,ha,L,B,q1,q2⟩:=h;have B1:=B.lp;have B2:=B.lr;have h0:∀ i,i < rs.length→0≤(rs.getD i []).getD 1 0:=fun i hi=>(B.rl i hi).1;symm;refine zfC fun x dx H1 fx fdx ne s1 ex=>?_;refine zmg ex (s1.seq ha) (L.same s1) B fun d H2 hdx k2 fg fS A2=>⟨rfl,?_⟩
  have V0:=zi1 B;have hal:∀ q,q < hs.length→((List.range hs.length).map fun i:Nat=>zag hs rs (1+(i:Int))).getD q []=zag hs rs (1+(q:Int)):=fun q hq=>zaE hq;have hgl:∀ q,q < hs.length→(((List.range hs.length).map fun _=>([]:List Int)).getD q []).length=0:=fun q hq=>by rw [zaE hq];rfl
  have hll:((List.range rs.length).map fun i=>(rs.getD i []).getD 1 0).length=rs.length:=by rw [List.length_map,List.length_range]
  have hlg:∀ r,r < rs.length→((List.range rs.length).map fun i=>(rs.getD i []).getD 1 0).getD r 0=(rs.getD r []).getD 1 0:=fun r hr=>zaE hr;have hla:((List.range hs.length).map fun i:Nat=>zag hs rs (1+(i:Int))).length=hs.length:=by rw [List.length_map,List.length_range]
  generalize (List.range hs.length).map (fun i:Nat=>zag hs rs (1+(i:Int)))=al at *;generalize eg0:(List.range hs.length).map (fun _=>([]:List Int))=gv0 at *;have hlg0:gv0.length=hs.length:=by rw [← eg0,List.length_map,List.length_range]
  generalize (List.range rs.length).map (fun i=>(rs.getD i []).getD 1 0)=lim at *;have S2:Same H H2:=fun c o e=>k2 c o (s1 c o e) (fun z=>by rw [z,fx] at e;cases e);have fg':∀ g∈d.gps,H g=none:=fun g hg=>s1.free (fg g hg);have fS':H d.S=none:=s1.free fS;have frame:∀ {D:Addr} {H3 H4:Hp},Same H H3→H D=none→Frm d D H3 H4→Same H H4:=fun {D H3 H4} s f F c o e=>F c o (s c o e) (fun z=>by rw [fg' c z] at e;cases e) (fun z=>by rw [z,fS'] at e;cases e) (fun z=>by rw [z,f] at e;cases e);have ha2:=S2.seq ha;have hcl:=T.cl_Attempt;have fM:=zgt d.A d.G d.S (m:="find_reader") (by decide +kernel) (by decide +kernel) (by decide +kernel);subst hdx;symm;refine zeD ⟨by omega,by omega,by omega,by omega⟩ ?_;have en:((hs.length:Int)+1-1).toNat=hs.length:=by omega
  rw [en];refine zbX (fun i σ H'=>∃ gv sp v w,σ=[some (.ref a),some (.ref b),some (.ref d.x),v,w]∧Same H H'∧Att t.C_Attempt H' d al gv sp∧Vld al gv lim sp 0∧∀ q,q < hs.length→(gv.getD q []).length=if q < i then 2 else 0) ⟨gv0,lim,none,none,rfl,S2,A2,V0,fun q hq=>by rw [hgl q hq,if_neg (by omega)]⟩ ?_ ?_
  ·rintro i σ H' hi ⟨gv,sp,v,w',rfl,S',A',V',hlen⟩;symm;refine zco (by decide) (by decide) ?_;refine zbX (fun j σ H'=>∃ gv sp w,σ=[some (.ref a),some (.ref b),some (.ref d.x),some (.int (1+(i:Int))),w]∧Same H H'∧Att t.C_Attempt H' d al gv sp∧Vld al gv lim sp 0∧∀ q,q < hs.length→(gv.getD q []).length=if q < i then 2 else if q=i then j else 0) ⟨gv,sp,w',rfl,S',A',V',fun q hq=>by
    rw [hlen q hq]
    by_cases e:q < i
    ·rw [if_pos e,if_pos e]
    ·rw [if_neg e,if_neg e];split <;> rfl⟩ ?_ ?_
   ·rintro j σ H3 hj ⟨gv3,sp3,w3,rfl,S3,A3,V3,hlen3⟩;have hj:j < 2:=hj;obtain ⟨dx3,hob3⟩:=A3.ob;have lg3:=V3.lg;symm;refine zaM hob3 fM ?_;symm;refine zfD fun D H4 f4 s4 e4=>?_;symm;have ei:(1+(i:Int)-1).toNat=i:=by omega
    refine zka (n:=8) (A3.same s4) e4 V3 ⟨List.nodup_nil,fun k hk=>by cases hk⟩ (by rw [List.length_nil];omega) (by omega) (by omega) (by omega) (by omega) (fun H5 gv5 sp5 F5 A5 N5=>?_) (fun H5 ls F5 A5 hD5 hk5 C5 hc5=>?_)
    ·rw [ei] at N5;symm;refine iteF ?_;symm;refine ⟨gv5,sp5,_,rfl,frame (S3.trans s4) (S3.free f4) F5,A5,N5.v,fun q hq=>?_⟩;rw [N5.len q (by omega),hlen3 q hq]
     by_cases e1:q < i
     ·rw [if_pos e1,if_pos e1,if_neg (by omega)]
     ·rw [if_neg e1,if_neg e1]
      by_cases e2:q=i
      ·rw [if_pos e2,if_pos e2,if_pos e2]
      ·rw [if_neg e2,if_neg e2,if_neg e2]
    ·rw [ei] at hc5;symm;refine iteT ?_;symm;refine q2 ?_ _ (frame (S3.trans s4) (S3.free f4) F5);refine ziE (p:=i) h0 V3 hla hll hlg (fun q hq r hr hallow=>by rw [hal q hq];exact (zg5 hr).mpr hallow) (fun q hq=>?_) hi ?_ C5 hc5
     ·rw [hlen3 q hq];split
      ·omega
      ·split <;> omega
     ·rw [hlen3 i hi,if_neg (by omega),if_pos rfl];exact hj
   ·rintro σ H3 ⟨gv3,sp3,w3,rfl,S3,A3,V3,hlen3⟩;refine ⟨gv3,sp3,_,_,rfl,S3,A3,V3,fun q hq=>?_⟩;rw [hlen3 q hq]
    by_cases e1:q < i
    ·rw [if_pos e1,if_pos (by omega)]
    ·rw [if_neg e1]
     by_cases e2:q=i
     ·rw [if_pos e2,if_pos (by omega)];rfl
     ·rw [if_neg e2,if_neg (by omega)]
  ·rintro σ H' ⟨gv,sp,v,w',rfl,S',A',V',hlen⟩;symm;refine q1 ?_ _ S';refine zjA h0 V' hla hll hlg (fun q hq r hr hm=>by rw [hal q hq] at hm;exact (zg5 hr).mp hm) fun q hq=>?_;rw [hlen q hq,if_pos hq]
theorem zdH {H:Hp} {Q:VK} {E:XK} {a b:Addr} {hs:List Int} {rs:List (List Int)} (h2:SqL K H a (hs.map V.int)) (h3:LL K H b rs) (B:InB hs rs) (q1:(∃ rows,zaT hs rs rows=true)→∀ H',Same H H'→Q (.bl true) H') (q2:(∀ rows,zaT hs rs rows=false)→∀ H',Same H H'→Q (.bl false) H'):zb1 K [.ref a,.ref b] H Q E:=⟨rfl,a,b,hs,rs,rfl,h2,h3,B,q1,q2⟩
def zcY (K:PySem.W.Frag):Sp:=fun vs H Q _=>vs.length=2∧∃ (a b:Addr) (rs:List (List Int)) (ls:List Int),vs=[.ref a,.ref b]∧LL K H a rs∧SqL K H b (ls.map V.int)∧ls.length=rs.length∧rs.length≤8∧(∀ i,i < rs.length→(rs.getD i []).length=2)∧∀ p H',RowsAt H p (zfE rs ls) H'→Q (.ref p) H'
theorem zew (T:Txt K mg t):FnOk P w K mg base CX0 1 t.f_14 t.d_14 ["readers","limits"] (zcY K):=by
 refine T.F_14.ok sc_14 (fun _ _ _ _ h=>h.1) fun cdv A outer s H vs Q E hr h=>by
  refine ⟨_,(zae (zal (zbd (zat (sc:=zab s_14) (XN:=["readers","limits"]) (N:=["row","limit"]) (own:=2) (js:=[]) rfl rfl (by decide +kernel)) rfl (zkD (K:=K) rfl (by rfl) T.z_zip (zaa (pv 0) (zaa (pv 1) pa_nil))) (fun _ _ _ _ _=>(zf5 (K:=K) (n:=2) rfl rfl (zcI (zar (i:=0) (show List.Nodup [(Str.ofString "row"),(Str.ofString "limit")] by decide +kernel) rfl (Or.inl rfl)) (zcI (zar (i:=1) (show List.Nodup [(Str.ofString "row"),(Str.ofString "limit")] by decide +kernel) rfl (Or.inl rfl)) pgs_nil)))) (fun _ _ _ _ _=>zbM) (fun _ _ _ _ _=>(zaV (zaa (zax (zaf (K:=K) rfl) (pv 0) zad (fun _ _=>rfl)) (zaa (pv 1) pa_nil))))))),?_⟩;obtain ⟨_,a,b,rs,ls,rfl,L,hb,hl,h8,r2,q⟩:=h;obtain ⟨ps,ha,hpl,hpr⟩:=id L;have en:(ps.map V.ref).length=rs.length:=by rw [List.length_map];exact hpl
  have em:(ls.map V.int).length=ls.length:=List.length_map ..;symm;refine zkE ha hb ?_;refine zca (zcg.zip ha hb (by omega)) (by omega) (fun i=>[(rs.getD i []).getD 0 0,ls.getD i 0]) (fun i H' Q' hi s q'=>?_) fun p H' R=>?_
  ·have hi':i < rs.length:=by omega
   have ex:(ps.map V.ref).getD i .non=.ref (ps.getD i 0):=by
    rw [List.getD_eq_getElem?_getD,List.getElem?_map,List.getElem?_eq_getElem (by omega),List.getD_eq_getElem?_getD,List.getElem?_eq_getElem (by omega)];rfl
   have ey:(ls.map V.int).getD i .non=.int (ls.getD i 0):=by
    rw [List.getD_eq_getElem?_getD,List.getElem?_map,List.getElem?_eq_getElem (by omega),List.getD_eq_getElem?_getD,List.getElem?_eq_getElem (by omega)];rfl
   rw [ex,ey];have h2:=r2 i hi';have hrow:=s _ _ (hpr i hi');show (_:TE) (some (.ref (ps.getD i 0))::some (.int (ls.getD i 0))::_) _ _;symm;exact zaA (by simp) q'
  rw [en] at R;exact q p H' R
theorem ze6 {H:Hp} {Q:VK} {E:XK} {a b:Addr} {rs:List (List Int)} {ls:List Int} (h:LL K H a rs) (hb:SqL K H b (ls.map V.int)) (hl:ls.length=rs.length) (h8:rs.length≤8) (r2:∀ i,i < rs.length→(rs.getD i []).length=2) (q:∀ p H',RowsAt H p (zfE rs ls) H'→Q (.ref p) H'):zcY K [.ref a,.ref b] H Q E:=⟨rfl,a,b,rs,ls,rfl,h,hb,hl,h8,r2,q⟩
def zdP (K:PySem.W.Frag):Sp:=fun vs H Q _=>vs.length=3∧∃ (a b c:Addr) (hs:List Int) (rs rows:List (List Int)),vs=[.ref a,.ref b,.ref c]∧SqL K H a (hs.map V.int)∧LL K H b rs∧LL K H c rows∧InB hs rs∧zb3 hs rs rows∧(Ext hs rs rows→∀ H',Same H H'→Q (.bl true) H')∧(¬Ext hs rs rows→∀ H',Same H H'→Q (.bl false) H')
theorem zfP (T:Txt K mg t):FnOk P w K mg base CX0 19 t.f_13 t.d_13 ["papers","readers","rows"] (zdP K):=by
 have G_7:=zds (P:=P) (w:=w) (base:=base) T;have G_3:=zdt (P:=P) (w:=w) (base:=base) T;have G_14:=zew (P:=P) (w:=w) (base:=base) T;have G_8:=zcm (P:=P) (w:=w) (base:=base) T;refine T.F_13.ok sc_13 (fun _ _ _ _ h=>h.1) fun cdv A outer s H vs Q E hr h=>by
  refine ⟨_,(zac (zaX (zbD (zaC (K:=K) rfl (zan G_7 (hr.mono (by decide)) (by rfl) T.m_7 T.F_7.kp T.b_7 .nil zav (zaa (pv 1) (zaa (pv 2) pa_nil))) (fun _=>rfl)))
   (zae (zal zbe)) pss_nil)
   (zae (zal (zan G_3 (hr.mono (by decide)) (by rfl) T.m_3 T.F_3.kp T.b_3 .nil zav (zaa (zde (zdi (K:=K) rfl) (pv 0) (zd7 (zah (zaj (K:=K) rfl) (by rfl) T.z_len (by rfl) (zaa (pv 2) pa_nil))) po_none) (zaa (zan G_14 (hr.mono (by decide)) (by rfl) T.m_14 T.F_14.kp T.b_14 .nil zav (zaa (pv 1) (zaa (zan G_8 (hr.mono (by decide)) (by rfl) T.m_8 T.F_8.kp T.b_8 .nil zav (zaa (pv 1) (zaa (pv 2) pa_nil))) pa_nil))) pa_nil)))))),?_⟩
  obtain ⟨_,a,b,c,hs,rs,rows,rfl,ha,L,L3,B,P,q1,q2⟩:=h;have B1:=B.lp;have B2:=B.lr;have pl:=P.1;have hg:=zlV P;symm;refine zdG L L3 B2 (by omega) B.r2 fun H1 s1=>?_;symm
  cases ek:zgs rs rows with
  | false =>
    refine iteT ?_;symm;refine q2 (fun z=>?_) _ s1;have:=zfO.mpr (hg.mp z).1;rw [ek] at this
    cases this
  | true =>
    have hk:=zfO.mp ek;refine iteF ?_;obtain ⟨ps3,hc3,hl3,hr3⟩:=id (L3.same s1);symm;refine zb7 (s1.seq ha) fun p2 H2 f2 s2 e2=>?_;have el:(ps3.length:Int)=((rows.length:Nat):Int):=by omega
    rw [el,zft,← List.map_drop] at e2;have s12:=s1.trans s2;symm;refine zcn (L.same s12) (L3.same s12) B2 (by omega) B.r2 fun p4 H4 f4 s4 e4=>?_;have s14:=s12.trans s4;have hll:(zaZ rs rows).length=rs.length:=by unfold zaZ;rw [List.length_map,List.length_range]
    symm;refine ze6 (L.same s14) (SqL.of e4) hll B2 B.r2 fun p5 H5 R5=>?_;have s15:=s14.trans R5.same;symm;refine zdH (SqL.of (R5.same _ _ (s4 _ _ e2))) R5.ll (zlW B hk rows.length) (fun h H6 s6=>q1 (hg.mpr ⟨hk,h⟩) _ (s15.trans s6)) (fun h H6 s6=>q2 (fun z=>?_) _ (s15.trans s6));obtain ⟨_,more,hm⟩:=hg.mp z;rw [h more] at hm
    cases hm
theorem zgv {H:Hp} {Q:VK} {E:XK} {a b c:Addr} {hs:List Int} {rs rows:List (List Int)} (h1:SqL K H a (hs.map V.int)) (h2:LL K H b rs) (h3:LL K H c rows) (B:InB hs rs) (P:zb3 hs rs rows) (q1:Ext hs rs rows→∀ H',Same H H'→Q (.bl true) H') (q2:¬Ext hs rs rows→∀ H',Same H H'→Q (.bl false) H'):zdP K [.ref a,.ref b,.ref c] H Q E:=⟨rfl,a,b,c,hs,rs,rows,rfl,h1,h2,h3,B,P,q1,q2⟩
theorem zmi (hs:List Int) (rs:List (List Int)) (k:Int):(zag hs rs k).Pairwise (· < ·):=by
 unfold zag;rw [List.pairwise_map];exact (List.pairwise_lt_range.filter _).imp fun h=>by omega
theorem zmj (hs:List Int) (rs:List (List Int)) (k:Int):(zag hs rs k).length≤rs.length:=by
 unfold zag;rw [List.length_map];exact Nat.le_trans (List.length_filter_le _ _) (by simp)
theorem zjU {hs:List Int} {rs:List (List Int)} {k:Nat} {x:Int}:x∈zag hs rs ((k:Int)+1)↔1≤x∧x≤rs.length∧(rs.getD (x-1).toNat []).getD 0 0≠hs.getD k 0:=by
 have ek:(k:Int)+1=1+(k:Int):=Int.add_comm ..;rw [ek];constructor
 ·intro h;have hr:=zkb h;refine ⟨hr.1,hr.2,?_⟩;have e:x=(((x-1).toNat:Nat):Int)+1:=by omega
  rw [e,zg5 (by omega)] at h;unfold zbg at h;simpa using h
 ·rintro ⟨h1,h2,h3⟩;have e:x=(((x-1).toNat:Nat):Int)+1:=by omega
  rw [e,zg5 (by omega)];unfold zbg;rw [decide_eq_false h3];rfl
theorem zd3 {hs:List Int} {rs:List (List Int)} {k:Nat} {row:List Int}:row∈prsB (zag hs rs ((k:Int)+1))↔zb8 rs (hs.getD k 0) row=true:=by
 rw [prs_mem (zmi ..),zbQ];constructor
 ·rintro ⟨x,y,rfl,hx,hy,hlt⟩;obtain ⟨x1,x2,x3⟩:=zjU.mp hx;obtain ⟨y1,y2,y3⟩:=zjU.mp hy;exact ⟨rfl,x1,hlt,y2,x3,y3⟩
 ·rintro ⟨h1,h2,h3,h4,h5,h6⟩;exact ⟨row.getD 0 0,row.getD 1 0,len2 h1,zjU.mpr ⟨h2,by omega,h5⟩,zjU.mpr ⟨by omega,h4,h6⟩,h3⟩
theorem zeM {hs:List Int} {rs rows:List (List Int)} {row:List Int} (P:zb3 hs rs rows) (hl:rows.length < hs.length) (h:zb8 rs (hs.getD rows.length 0) row=true):zb3 hs rs (rows++[row]):=by
 refine ⟨by rw [List.length_append,List.length_singleton];omega,fun k hk=>?_⟩;rw [List.length_append,List.length_singleton] at hk
 by_cases e:k < rows.length
 ·rw [zaw e];exact P.2 k e
 ·have:k=rows.length:=by omega
  subst this;rw [zau];exact h
theorem zg6 {hs:List Int} {rs rows more:List (List Int)} (hl:rows.length < hs.length) (h:zaT hs rs (rows++more)=true):∃ r rest,more=r::rest∧zb8 rs (hs.getD rows.length 0) r=true∧Ext hs rs (rows++[r]):=by
 obtain ⟨h1,h2,_⟩:=zbi.mp h
 match more with
 | []=>rw [List.append_nil] at h1;omega
 | r::rest =>
   refine ⟨r,rest,rfl,?_,rest,by rw [List.append_assoc];exact h⟩;have:=h2 rows.length hl;rw [zci (Nat.le_refl _),Nat.sub_self] at this;exact this
theorem zhG {hs:List Int} {rs rows:List (List Int)} (hl:rows.length < hs.length) (h:∀ r∈prsB (zag hs rs ((rows.length:Int)+1)),¬Ext hs rs (rows++[r])):¬Ext hs rs rows:=by
 rintro ⟨more,hm⟩;obtain ⟨r,rest,_,hp,hx⟩:=zg6 hl hm;exact h r (zd3.mpr hp) hx
theorem zhH {hs:List Int} {rs rows:List (List Int)} {i:Nat} (P:zb3 hs rs rows) (hl:rows.length < hs.length) (hi:i < (prsB (zag hs rs ((rows.length:Int)+1))).length)
  (h0:∀ j,j < i→¬Ext hs rs (rows++[(prsB (zag hs rs ((rows.length:Int)+1))).getD j []])) (hn:∀ full,zaT hs rs full=true→nbB rows full=true):∀ full,zaT hs rs full=true→nbB (rows++[(prsB (zag hs rs ((rows.length:Int)+1))).getD i []]) full=true:=by
 intro full hf;refine zgS (hn full hf) fun he hlt=>?_;obtain ⟨f1,f2,_⟩:=zbi.mp hf;have ef:full=rows++full.drop rows.length:=by
  have e1:rows=full.take rows.length:=by
   refine zfs (by rw [List.length_take];omega) fun j hj=>?_;rw [zeb hj];obtain ⟨e0,e1⟩:=he j hj;have p1:=(zbQ.mp (P.2 j hj)).1;have p2:=(zbQ.mp (f2 j (by omega))).1;exact zlX p1 p2 e0 e1
  conv=>rhs;arg 1;rw [e1]
  exact (List.take_append_drop _ _).symm
 rw [ef] at hf;obtain ⟨r,rest,er,hp,hx⟩:=zg6 hl hf;have eg:full.getD rows.length []=r:=by
  rw [ef,zci (Nat.le_refl _),Nat.sub_self,er];rfl
 rw [eg];obtain ⟨j,hj,ej⟩:=mem_getD (d:=[]) (zd3.mpr hp);have hij:¬j < i:=fun z=>h0 j z (by rw [ej];exact hx)
 by_cases e:j=i
 ·subst e;rw [ej];exact .inr ⟨rfl,Int.le_refl _⟩
 ·have:=List.pairwise_iff_getElem.mp (prs_ord (zmi hs rs ((rows.length:Int)+1))) i j hi hj (by omega);rw [← ej,List.getD_eq_getElem?_getD,List.getElem?_eq_getElem hi,List.getD_eq_getElem?_getD,List.getElem?_eq_getElem hj];exact this
def zbU (K:PySem.W.Frag):Sp:=fun vs H Q _=>vs.length=3∧∃ (a b c:Addr) (hs:List Int) (rs rows:List (List Int)) (ps:List Addr),vs=[.ref a,.ref b,.ref c]∧SqL K H a (hs.map V.int)∧LL K H b rs∧H c=some (.lst (ps.map V.ref))∧ps.length=rows.length∧(∀ i,i < rows.length→H (ps.getD i 0)=some (.lst ((rows.getD i []).map V.int)))∧InB hs rs∧zb3 hs rs rows∧rows.length < hs.length ∧
 ((∀ r∈prsB (zag hs rs ((rows.length:Int)+1)),¬Ext hs rs (rows++[r]))→∀ H',Same H H'→Q .non H') ∧
 ∀ i,i < (prsB (zag hs rs ((rows.length:Int)+1))).length→Ext hs rs (rows++[(prsB (zag hs rs ((rows.length:Int)+1))).getD i []])→(∀ j,j < i→¬Ext hs rs (rows++[(prsB (zag hs rs ((rows.length:Int)+1))).getD j []])) →
  ∀ p H',H p=none→Same H H'→H' p=some (.lst (((prsB (zag hs rs ((rows.length:Int)+1))).getD i []).map V.int))→Q (.ref p) H'
theorem zc7 (T:Txt K mg t):FnOk P w K mg base CX0 20 t.f_11 t.d_11 ["papers","readers","rows"] (zbU K):=by
 have G_12:=zgp (P:=P) (w:=w) (base:=base) T;have G_2:=zb4 (P:=P) (w:=w) (base:=base) T;have G_13:=zfP (P:=P) (w:=w) (base:=base) T;refine T.F_11.ok sc_11 (fun _ _ _ _ h=>h.1) fun cdv A outer s H vs Q E hr h=>by
  refine ⟨_,(zac (zaL (i:=3) sc_11.nd rfl (Or.inl rfl) (zap (op_addG) (zah (zaj (K:=K) rfl) (by rfl) T.z_len (by rfl) (zaa (pv 2) pa_nil)) zad))
   (zac (zbc PassesOwn.never rfl (zaO (K:=K) rfl (zan G_12 (hr.mono (by decide)) (by rfl) T.m_12 T.F_12.kp T.b_12 .nil zav (zaa (zan G_2 (hr.mono (by decide)) (by rfl) T.m_2 T.F_2.kp T.b_2 .nil zav (zaa (pv 0) (zaa (pv 1) (zaa (pv 3) pa_nil)))) pa_nil))) (zar (i:=4) sc_11.nd rfl (Or.inl rfl))
   (zae (zaX (zaC (K:=K) rfl (zan G_13 (hr.mono (by decide)) (by rfl) T.m_13 T.F_13.kp T.b_13 .nil zav (zaa (pv 0) (zaa (pv 1) (zaa (zap (op_addG) (pv 2) (zaV (zaa (pv 4) pa_nil))) pa_nil)))) (fun _=>rfl))
   (zae (zal (pv 4))) pss_nil)))
   (zae (zal zfa)))),?_⟩
  obtain ⟨_,a,b,c,hs,rs,rows,ps,rfl,ha,L,hc,hpl,hpr,B,P,hl,q0,q1⟩:=h;have B1:=B.lp;have B2:=B.lr;symm;refine zcl ha L (by omega) (by omega) (by omega) B.r2 fun p1 H1 f1 s1 e1=>?_;have el:(ps.length:Int)+1=(rows.length:Int)+1:=by omega
  rw [el] at e1 ⊢;have hrl:=zmj hs rs ((rows.length:Int)+1);symm;refine zhC (SqL.of e1) (by omega) fun p2 H2 R2=>?_;have hP:∀ r∈prsB (zag hs rs ((rows.length:Int)+1)),zb8 rs (hs.getD rows.length 0) r=true:=fun r hr=>zd3.mp hr;generalize prsB (zag hs rs ((rows.length:Int)+1))=Pr at *;obtain ⟨s2,f2,ps2,e2,l2,nd2,r2⟩:=id R2;have s12:=s1.trans s2;refine zaW (SqL.of e2) ?_;refine zce (xs:=ps2.map V.ref) (fun i σ H'=>Same H2 H'∧(∃ v,σ=[some (.ref a),some (.ref b),some (.ref c),some (.int ((rows.length:Int)+1)),v])∧∀ j,j < i→¬Ext hs rs (rows++[Pr.getD j []])) ⟨Same.refl _,⟨none,rfl⟩,fun j hj=>absurd hj (by omega)⟩ ?_ ?_ ?_
  ·rintro i σ H' _ ⟨s,_,_⟩;exact SqL.of (s _ _ e2)
  ·rintro i x σ H' hx ⟨s,⟨v,rfl⟩,h0⟩;obtain ⟨hi,rfl⟩:=zil hx;obtain ⟨g1,g2,g3⟩:=r2 i (by omega);have sH:=s12.trans s;have hc':=sH _ _ hc;have hrow:=s _ _ g1;have hpair:=hP _ (getD_mem (d:=[]) (show i < Pr.length by omega));symm;refine zaA (by simp) fun p3 H3 f3 s3 e3=>?_;refine zgJ (s3 _ _ hc') e3 (by rw [List.length_map];simp only [List.length_cons,List.length_nil];omega) fun p4 H4 f4 s4 e4=>?_;have s24:=s3.trans s4;have sH4:=sH.trans s24;symm;have L4:LL K H4 p4 (rows++[Pr.getD i []]):=LL.push (q:=ps2.getD i 0) e4 hpl (s24 _ _ hrow) fun j hj=>sH4 _ _ (hpr j hj);refine zgv (sH4.seq ha) (L.same sH4) L4 B (zeM P hl hpair) (fun hx H5 s5=>?_) (fun hx H5 s5=>?_)
   ·symm;refine iteT ?_;symm;exact q1 i (by omega) hx h0 _ _ (s1.free g2) (sH4.trans s5) (s5 _ _ (s24 _ _ hrow))
   ·symm;refine iteF ?_;symm;refine ⟨(s.trans s24).trans s5,⟨_,rfl⟩,fun j hj=>?_⟩
    by_cases e:j=i
    ·subst e;exact hx
    ·exact h0 j (by omega)
  ·rintro σ H' ⟨s,⟨v,rfl⟩,h0⟩;symm;refine q0 (fun r hr=>?_) _ (s12.trans s);obtain ⟨j,hj,rfl⟩:=mem_getD (d:=[]) hr;exact h0 j (by rw [List.length_map];omega)
theorem zdu {H:Hp} {Q:VK} {E:XK} {a b c:Addr} {hs:List Int} {rs rows:List (List Int)} {ps:List Addr} (h1:SqL K H a (hs.map V.int)) (h2:LL K H b rs) (h3:H c=some (.lst (ps.map V.ref))) (h4:ps.length=rows.length) (h5:∀ i,i < rows.length→H (ps.getD i 0)=some (.lst ((rows.getD i []).map V.int))) (B:InB hs rs) (P:zb3 hs rs rows) (hl:rows.length < hs.length)
  (q0:(∀ r∈prsB (zag hs rs ((rows.length:Int)+1)),¬Ext hs rs (rows++[r]))→∀ H',Same H H'→Q .non H')
  (q1:∀ i,i < (prsB (zag hs rs ((rows.length:Int)+1))).length→Ext hs rs (rows++[(prsB (zag hs rs ((rows.length:Int)+1))).getD i []])→(∀ j,j < i→¬Ext hs rs (rows++[(prsB (zag hs rs ((rows.length:Int)+1))).getD j []])) →
   ∀ p H',H p=none→Same H H'→H' p=some (.lst (((prsB (zag hs rs ((rows.length:Int)+1))).getD i []).map V.int))→Q (.ref p) H'):zbU K [.ref a,.ref b,.ref c] H Q E:=⟨rfl,a,b,c,hs,rs,rows,ps,rfl,h1,h2,h3,h4,h5,B,P,hl,q0,q1⟩
def zcr (K:PySem.W.Frag):Sp:=fun vs H Q _=>vs.length=2∧∃ (a b:Addr) (hs:List Int) (rs:List (List Int)),vs=[.ref a,.ref b]∧SqL K H a (hs.map V.int)∧LL K H b rs∧InB hs rs∧(zbL hs rs none→∀ H',Same H H'→Q .non H')∧∀ rows,zbL hs rs (some rows)→∀ p H',RowsAt H p rows H'→Q (.ref p) H'
theorem zdY (T:Txt K mg t):FnOk P w K mg base CX0 21 t.f_10 t.d_10 ["papers","readers"] (zcr K):=by
 have G_11:=zc7 (P:=P) (w:=w) (base:=base) T;refine T.F_10.ok sc_10 (fun _ _ _ _ h=>h.1) fun cdv A outer s H vs Q E hr h=>by
  refine ⟨_,(zac (zaL (i:=2) sc_10.nd rfl (Or.inl rfl) (zaV pa_nil))
   (zac (zi6 PassesOwn.never (zaq (op_lt) (zah (zaj (K:=K) rfl) (by rfl) T.z_len (by rfl) (zaa (pv 2) pa_nil)) (zah (zaj (K:=K) rfl) (by rfl) T.z_len (by rfl) (zaa (pv 0) pa_nil)) (zaB _))
   (zac (zaL (i:=3) sc_10.nd rfl (Or.inl rfl) (zan G_11 (hr.mono (by decide)) (by rfl) T.m_11 T.F_11.kp T.b_11 .nil zav (zaa (pv 0) (zaa (pv 1) (zaa (pv 2) pa_nil)))))
   (zac (zaX (zaq (op_isNN) (pv 3) zfa (zaB _))
   (zae (zal zfa)) pss_nil)
   (zae (zaG (zbW (K:=K) rfl PySem.F.plainAttrs_list PySem.F.slot_list_append PySem.F.type_list_append mt_append (pv 2) (zaa (pv 3) pa_nil)))))))
   (zae (zal (pv 2))))),?_⟩
  obtain ⟨_,a,b,hs,rs,rfl,ha,L,B,q0,q1⟩:=h;have B1:=B.lp;symm;refine zaA (by decide) fun p1 H1 f1 s1 e1=>?_;symm;refine ⟨fun n σ H'=>∃ rows v,σ=[some (.ref a),some (.ref b),some (.ref p1),v]∧RowsAt H p1 rows H'∧rows.length+n=hs.length∧zb3 hs rs rows∧(rows=[]∨Ext hs rs rows)∧∀ full,zaT hs rs full=true→nbB rows full=true,⟨hs.length,[],none,rfl,RowsAt.start f1 s1 e1,by simp,⟨by simp,fun k hk=>absurd hk (by simp)⟩,.inl rfl,fun full _=>rfl⟩,?_⟩;rintro n σ H' ⟨rows,v,rfl,R,hn,P,hx,hb⟩;obtain ⟨sR,fR,ps,eR,lR,ndR,rR⟩:=id R;have ha':=sR.seq ha;symm;refine zbN (fun hlt=>?_) (fun hge=>?_)
  ·refine ⟨fun σ H''=>∃ rows v,σ=[some (.ref a),some (.ref b),some (.ref p1),v]∧RowsAt H p1 rows H''∧rows.length+(n-1)=hs.length∧zb3 hs rs rows∧(rows=[]∨Ext hs rs rows)∧∀ full,zaT hs rs full=true→nbB rows full=true,?_,?_⟩
   ·rintro σ' H'' ⟨rows',v',h1,h2,h3,h4⟩;exact ⟨n-1,by omega,rows',v',h1,h2,h3,h4⟩
   ·symm;refine zdu ha' (L.same sR) eR lR (fun i hi=>(rR i hi).1) B P (by omega) (fun hno H2 s2=>?_) (fun i hi hxi h0 p2 H2 f2 s2 e2=>?_)
    ·symm;refine iteT ?_;symm;have hne:=zhG (by omega) hno;refine q0 (fun rows'=>?_) _ (sR.trans s2);rcases hx with hx | hx
     ·subst hx;rw [Bool.eq_false_iff];intro z;exact hne ⟨rows',z⟩
     ·exact absurd hx hne
    ·have hpair:=zd3.mp (getD_mem (d:=[]) hi);have hst:=zhH P (by omega) hi h0 hb;symm;refine iteF ?_;generalize (prsB (zag hs rs ((rows.length:Int)+1))).getD i []=row at *;have eR2:=s2 _ _ eR;symm;refine zaS (s2 _ _ eR) (by rw [List.length_map];omega) fun H3 b3 e3=>?_;symm;exact ⟨rows++[row],_,rfl,R.push f2 s2 e2 (s2 _ _ eR) b3 e3,by rw [List.length_append,List.length_singleton];omega,zeM P (by omega) hpair,.inr hxi,hst⟩
  ·have hlen:rows.length=hs.length:=by omega
   symm;refine q1 rows ⟨?_,hb⟩ _ _ R;rcases hx with hx | ⟨more,hm⟩
   ·subst hx;refine zbi.mpr ⟨hlen,fun k hk=>?_,fun k hk=>?_⟩
    ·rw [← hlen] at hk;simp at hk
    ·have:=(B.rl k hk).1;show ((0:Nat):Int)≤_;simpa using this
   ·have h1:=(zbi.mp hm).1;rw [List.length_append] at h1;have:more=[]:=List.eq_nil_of_length_eq_zero (by omega);rw [this,List.append_nil] at hm;exact hm
theorem zep {H:Hp} {a b:Addr} {hs:List Int} {rs:List (List Int)} {Q:VK} {E:XK} (h1:SqL K H a (hs.map V.int)) (h2:LL K H b rs) (h4:InB hs rs) (q0:zbL hs rs none→∀ H',Same H H'→Q .non H') (q1:∀ rows,zbL hs rs (some rows)→∀ p H',RowsAt H p rows H'→Q (.ref p) H'):zcr K [.ref a,.ref b] H Q E:=⟨rfl,a,b,hs,rs,rfl,h1,h2,h4,q0,q1⟩
def zdQ (K:PySem.W.Frag) (C:Addr):Sp:=fun vs H Q _=>vs.length=1∧∃ (x:Addr) (F:Addr→Prop) (st:ExS),vs=[.ref x]∧ExAt C H x F st∧InB st.hs st.rs∧st.dl=none∧(zbL st.hs st.rs none→∀ H',Same H H'→Q (.bl false) H')∧∀ rows,zbL st.hs st.rs (some rows)→∀ H' F',ExFr H H' F F'→ExAt C H' x F' { st with dl:=some (rows,[]) }→Q (.bl true) H'
theorem zfQ (T:Txt K mg t):FnOk P w K mg base CX0 22 t.f_24 t.d_24 ["self"] (zdQ K t.C_Exam):=by
 have G_35:=zaI (P:=P) (w:=w) (base:=base) T;have G_10:=zdY (P:=P) (w:=w) (base:=base) T;refine T.F_24.ok sc_24 (fun _ _ _ _ h=>h.1) fun cdv A outer s H vs Q E hr h=>by
  refine ⟨_,(zac (zaG (zbm (pv 0) T.cl_Exam T.me_35 G_35 (hr.mono (by decide)) T.b_35 .nil zav))
   (zac (zaL (i:=1) sc_24.nd rfl (Or.inl rfl) (zan G_10 (hr.mono (by decide)) (by rfl) T.m_10 T.F_10.kp T.b_10 .nil zav (zaa (zaD (K:=K) rfl (pv 0)) (zaa (zaD (K:=K) rfl (pv 0)) pa_nil))))
   (zac (zaX (zaq (op_isNN) (pv 1) zfa (zaB _))
   (zae (zal zbe)) pss_nil)
   (zac (zbF (K:=K) rfl (pv 0) zbe)
   (zac (zbF (K:=K) rfl (pv 0) (pv 1))
   (zac (zbF (K:=K) rfl (pv 0) (zbd (zat (sc:=zab s_24) (XN:=["self","rows"]) (N:=["row"]) (own:=1) (js:=[]) rfl rfl (by decide +kernel)) rfl (zaO (K:=K) rfl (pv 1)) (fun _ _ _ _ _=>(zar (i:=0) (show List.Nodup [(Str.ofString "row")] by decide +kernel) rfl (Or.inl rfl))) (fun _ _ _ _ _=>zbM) (fun _ _ _ _ _=>pe_dnewK)))
   (zae (zal zbe)))))))),?_⟩
  obtain ⟨_,x,F,st,rfl,E0,BB,hd,q0,q1⟩:=h;have B1:=BB.lp;have B2:=BB.lr;have E0':=E0;walk_at "hd";have L:LL K H e.b st.rs:=⟨e.ps,SqL.of hhb,I.lp,I.rp⟩
  symm;refine za1 E0' hd ?_;symm;refine zep (SqL.of hha) L BB (fun F0 H1 s1=>?_) (fun rows F1 p H1 R1=>?_)
  ·symm;rw [decide_eq_true (rfl:V.non=V.non)];refine iteT ?_;symm;exact q0 F0 H1 s1
  ·have hrt:zaT st.hs st.rs rows=true:=F1.1;have hrl:=(zbi.mp hrt).1;obtain ⟨psr,hpr,hlr,_⟩:=R1.rows;symm;rw [decide_eq_false (show ¬V.ref p=V.non by intro z;cases z)];refine iteF ?_;have x1:=R1.same _ _ hob;have xp:p≠e.x:=(zai hob R1.new).symm;symm;refine za3 x1 hcl nD (show 6 < 1000 by decide) fun H2 b2 x2=>?_;rw [exFs_pd] at x2;symm;refine za3 x2 hcl nC (show 6 < 1000 by decide) fun H3 b3 x3=>?_;rw [exFs_pc] at x3;have hp3:H3 p=some (.lst (psr.map V.ref)):=by rw [b3 _ xp,b2 _ xp];exact hpr
   symm;refine zaW (SqL.of hp3) ?_;refine zcf (zht (zcg.one (zbh (SqL.of hp3))) (by rw [List.length_map];omega) rfl fun d ds H4 f4 s4 e4 l4 nd4 hd4=>?_);rw [List.length_map,hlr] at l4;rw [List.length_map,hlr] at hd4;have x4:=s4 _ _ x3;symm;refine za3 x4 hcl nE (show 6 < 1000 by decide) fun H5 b5 x5=>?_;rw [exFs_pe] at x5;have xd:d≠e.x:=(zai x3 f4).symm;have kk:∀ b o,H1 b=some o→b≠e.x→H5 b=some o:=fun b o eb nb=>by
    rw [b5 _ nb];refine s4 _ _ ?_;rw [b3 _ nb,b2 _ nb];exact eb
   have n1:∀ b,H3 b=none→H1 b=none:=fun b eb=>by
    cases h1:H1 b with
    | none=>rfl
    | some o =>
      by_cases nb:b=e.x
      ·rw [nb,x3] at eb;cases eb
      ·rw [b3 _ nb,b2 _ nb,h1] at eb;cases eb
   have nx4:∀ i,i < rows.length→ds.getD i 0≠e.x:=fun i hi z=>by have:=(hd4 i hi).2.1;rw [z,x3] at this;cases this
   obtain ⟨e',hx',I',fp'⟩:=I.deal (H5:=H5) (p:=p) (q:=d) (rows:=rows) (ds:=ds) hrt R1 kk x5 (by rw [b5 _ xd];exact e4) (n1 _ f4) l4 nd4 (fun i hi=>⟨by rw [b5 _ (nx4 i hi)];exact (hd4 i hi).1,n1 _ (hd4 i hi).2.1,(hd4 i hi).2.2⟩);symm;refine q1 rows F1 H5 _ ⟨fun b o eb nb=>?_,fun b z=>?_⟩ (hx'▸I'.at)
   ·exact kk b o (R1.same _ _ eb) (fun z=>nb ((hF _).mpr (by rw [z];exact own_x)))
   ·exact (fp' b z).imp (fun z=>(hF b).mpr z) id
theorem zgw {K:PySem.W.Frag} {C x:Addr} {H:Hp} {F:Addr→Prop} {st:ExS} {Q:VK} {E:XK} (h:ExAt C H x F st) (B:InB st.hs st.rs) (hd:st.dl=none) (q0:zbL st.hs st.rs none→∀ H',Same H H'→Q (.bl false) H') (q1:∀ rows,zbL st.hs st.rs (some rows)→∀ H' F',ExFr H H' F F'→ExAt C H' x F' { st with dl:=some (rows,[]) }→Q (.bl true) H'):zdQ K C [.ref x] H Q E:=⟨rfl,x,F,st,rfl,h,B,hd,q0,q1⟩
def zdR (K:PySem.W.Frag):Sp:=fun vs H Q _=>vs.length=2∧∃ (a b:Addr) (rs nm:List (List Int)),vs=[.ref a,.ref b]∧LL K H a rs∧LL K H b nm∧rs.length≤8∧nm.length≤20∧(∀ i,i < rs.length→(rs.getD i []).length=2)∧∀ p H',H p=none→Same H H'→H' p=some (.lst ((zaZ rs nm).map V.int))→Q (.ref p) H'
theorem zfR (T:Txt K mg t):FnOk P w K mg base CX0 1 t.f_52 t.d_52 ["_law_staff","_law_names"] (zdR K):=by
 refine T.F_52.ok sc_52 (fun _ _ _ _ h=>h.1) fun cdv A outer s H vs Q E hr h=>by
  refine ⟨_,(zac (zaL (i:=2) sc_52.nd rfl (Or.inl rfl) (zaV pa_nil))
   (zac (zbc PassesOwn.never rfl (za8 (by rfl) T.z_range (zaa (zah (zaj (K:=K) rfl) (by rfl) T.z_len (by rfl) (zaa (pv 0) pa_nil)) pa_nil)) (zar (i:=3) sc_52.nd rfl (Or.inr rfl))
   (zae (zaG (zbW (K:=K) rfl PySem.F.plainAttrs_list PySem.F.slot_list_append PySem.F.type_list_append mt_append (pv 2) (zaa (zap (op_sub) (zax (zaf (K:=K) rfl) (zax (zaf (K:=K) rfl) (pv 0) (pv 3) (fun _ _=>rfl)) zad (fun _ _=>rfl)) (zah (zaj (K:=K) rfl) (by rfl) T.z_len (by rfl) (zaa (zbd (zat (sc:=zab s_52) (XN:=["_law_staff","_law_names","_law_left","_law_k"]) (N:=["_law_row_here","_law_k"]) (own:=1) (js:=[3]) rfl rfl (by decide +kernel)) rfl (zaO (K:=K) rfl (pv 1)) (fun _ _ _ _ _=>(zar (i:=0) (show List.Nodup [(Str.ofString "_law_row_here"),(Str.ofString "_law_k")] by decide +kernel) rfl (Or.inl rfl))) (fun _ _ _ _ _=>(zc2 (zaq (zeL (K:=K) rfl (zc0 hr)) (zap (op_addG) (pv 1) zad) (pv 0) (by with_unfolding_all rfl)))) (fun _ _ _ _ _=>(pv 0))) pa_nil))) pa_nil)))))
   (zae (zal (pv 2))))),?_⟩
  obtain ⟨_,a,b,rs,nm,rfl,L1,L2,l1,l2,r2,q⟩:=h;obtain ⟨ps,ha,hpl,hpr⟩:=id L1;symm;refine zaA (by decide) fun p1 H1 f1 s1 e1=>?_;have ha1:=s1.seq ha;symm;refine zco (by omega) (by omega) ?_;have en:((ps.length:Int)).toNat=rs.length:=by omega
  rw [en];have hll:(zaZ rs nm).length=rs.length:=by unfold zaZ;rw [List.length_map,List.length_range]
  refine zbX (fun i σ H'=>(∃ v,σ=[some (.ref a),some (.ref b),some (.ref p1),v])∧Same H H'∧H' p1=some (.lst (((zaZ rs nm).take i).map V.int))) ⟨⟨none,rfl⟩,s1,e1⟩ ?_ ?_
  ·rintro i σ H' hi ⟨⟨v,rfl⟩,s,ep⟩;have ei:((0+(i:Int))).toNat=i:=by omega
   have hrow:=s _ _ (hpr i hi);have h2:=r2 i hi;obtain ⟨pn,hn,ln,rn⟩:=id (L2.same s);have has:=s.seq ha;symm;rw [ei];symm;refine zaW hn ?_;refine zd0 hn ln (by omega) (x:=(i:Int)+1) (fun j H2 Q' hj s2 q'=>?_) fun p2 H2 zs f2 s2 e2 ez=>?_
   ·have hrow2:=s2 _ _ (rn j hj);have e0:(0:Int)+(i:Int)+1=(i:Int)+1:=by omega
    symm;rw [e0];exact q'
   have ep2:=s2 _ _ ep;symm;refine zaS ep2 (by rw [List.length_map,List.length_take];omega) fun H3 b3 e3=>?_;symm;refine ⟨⟨_,rfl⟩,(s.trans s2).but b3 f1,?_⟩;rw [e3,List.take_add_one,List.getElem?_eq_getElem (by omega),List.map_append,ez];have eg:(zaZ rs nm)[i]'(by omega)=(rs.getD i []).getD 1 0-(cntB nm ((i:Int)+1):Int):=by
    have:=ze1 (rs:=rs) (rows:=nm) hi;rw [List.getD_eq_getElem?_getD,List.getElem?_eq_getElem (by omega)] at this;exact this
   rw [eg];rfl
  ·rintro σ H' ⟨⟨v,rfl⟩,s,ep⟩;rw [← hll,List.take_length] at ep;symm;exact q _ _ f1 s ep
theorem zc8 {H:Hp} {a b:Addr} {rs nm:List (List Int)} {Q:VK} {E:XK} (h1:LL K H a rs) (h2:LL K H b nm) (l1:rs.length≤8) (l2:nm.length≤20) (r2:∀ i,i < rs.length→(rs.getD i []).length=2) (q:∀ p H',H p=none→Same H H'→H' p=some (.lst ((zaZ rs nm).map V.int))→Q (.ref p) H'):zdR K [.ref a,.ref b] H Q E:=⟨rfl,a,b,rs,nm,rfl,h1,h2,l1,l2,r2,q⟩
def zdv (K:PySem.W.Frag):Sp:=fun vs H Q _=>vs.length=2∧∃ (a b:Addr) (nm en:List (List Int)) (n:Nat),vs=[.ref a,.ref b]∧LL K H a nm∧LL K H b (en.map (List.take 2))∧nm.length≤10∧(∀ i,i < en.length→(en.getD i []).length=3)∧(∀ k,k < nm.length→zcC n en k (nm.getD k []))∧∀ p H',RowsAt H p (dueB nm en) H'→Q (.ref p) H'
theorem ze7 (T:Txt K mg t):FnOk P w K mg base CX0 1 t.f_54 t.d_54 ["_law_names","_law_entered"] (zdv K):=by
 refine T.F_54.ok sc_54 (fun _ _ _ _ h=>h.1) fun cdv A outer s H vs Q E hr h=>by
  refine ⟨_,(zac (zaL (i:=2) sc_54.nd rfl (Or.inl rfl) (zaV pa_nil))
   (zac (zbc PassesOwn.never rfl (za8 (by rfl) T.z_range (zaa (zah (zaj (K:=K) rfl) (by rfl) T.z_len (by rfl) (zaa (pv 0) pa_nil)) pa_nil)) (zar (i:=3) sc_54.nd rfl (Or.inl rfl))
   (zae (zbc PassesOwn.never rfl (zaO (K:=K) rfl (zah (zfx (K:=K) rfl) (by rfl) T.z_sorted (by rfl) (zaa (zax (zaf (K:=K) rfl) (pv 0) (pv 3) (fun _ _=>rfl)) pa_nil))) (zar (i:=4) sc_54.nd rfl (Or.inl rfl))
   (zae (zaX (zaq (zdp (K:=K) rfl (zc0 hr)) (zaV (zaa (zap (op_addG) (pv 3) zad) (zaa (pv 4) pa_nil))) (pv 1) (by with_unfolding_all rfl))
   (zae (zaG (zbW (K:=K) rfl PySem.F.plainAttrs_list PySem.F.slot_list_append PySem.F.type_list_append mt_append (pv 2) (zaa (zaV (zaa (zap (op_addG) (pv 3) zad) (zaa (pv 4) pa_nil))) pa_nil)))) pss_nil)))))
   (zae (zal (pv 2))))),?_⟩
  obtain ⟨_,a,b,nm,en,n,rfl,LA,LB,l10,e3,hro,q⟩:=h;obtain ⟨ps,ha,hla,hra⟩:=id LA;symm;refine zaA (by decide) fun p1 H1 f1 s1 e1=>?_;have ha1:=s1.seq ha;symm;refine zco (by omega) (by omega) ?_;have en':((ps.length:Int)).toNat=nm.length:=by omega
  rw [en'];refine zbX (fun i σ H'=>(∃ v3 v4,σ=[some (.ref a),some (.ref b),some (.ref p1),v3,v4])∧RowsAt H p1 ((List.range i).flatMap fun k=>(zaQ nm en k).map fun r=>[(k:Int)+1,r]) H'∧((List.range i).flatMap fun k=>(zaQ nm en k).map fun r=>[(k:Int)+1,r]).length≤3 * i) ⟨⟨none,none,rfl⟩,RowsAt.start f1 s1 e1,by simp⟩ ?_ ?_
  ·rintro i σ H' hi ⟨⟨v3,v4,rfl⟩,R,hlen⟩;have s:=R.same;have hro':=hro i hi;have hlr:=hro'.len;have hw:=zgh nm en i;have e0:(0:Int)+(i:Int)=(i:Int):=by omega
   have ha2:=s.seq ha;have hrow2:=s _ _ (hra i hi);rw [e0];symm;refine zf9 (SqL.of hrow2) (by omega) fun ns' hp hs p4 H4 f4 s4 e4=>?_;have ew:=zhw hro' hp hs e3;have hnl:ns'.length=(nm.getD i []).length:=hp.length_eq;have R4:RowsAt H p1 ((List.range i).flatMap fun k=>(zaQ nm en k).map fun r=>[(k:Int)+1,r]) H4:=R.mono s4;refine zaW (SqL.of e4) ?_;refine zce (xs:=ns'.map V.int) (fun j σ H'=>(∃ v4,σ=[some (.ref a),some (.ref b),some (.ref p1),some (.int (i:Int)),v4])∧RowsAt H p1 (((List.range i).flatMap fun k=>(zaQ nm en k).map fun r=>[(k:Int)+1,r])++((ns'.take j).filter fun r=>!decide ([(i:Int)+1,r]∈en.map (List.take 2))).map fun r=>[(i:Int)+1,r]) H'∧H' p4=some (.lst (ns'.map V.int))) ⟨⟨_,rfl⟩,by simpa using R4,e4⟩ ?_ ?_ ?_
   ·rintro j σ H5 _ ⟨_,_,e5⟩;exact SqL.of e5
   ·rintro j y σ H5 hy ⟨⟨w4,rfl⟩,R5,e5⟩;obtain ⟨hj,rfl⟩:=zcx hy;obtain ⟨zs5,z5,zl5⟩:=R5.lst;have np4:p4≠p1:=fun z=>by
     obtain ⟨zs0,z0,_⟩:=R.lst;rw [z,z0] at f4
     cases f4
    have et:ns'.take (j+1)=ns'.take j++[ns'.getD j 0]:=ziS hj;symm;refine zaA (by simp) fun p6 H6 f6 s6 e6=>?_;have R6:=R5.mono s6;have e6':H6 p6=some (.lst (([(i:Int)+1,ns'.getD j 0]:List Int).map V.int)):=e6;symm;refine ziW e6' (LB.same R6.same) ?_;symm;refine zdj (fun c=>?_) (fun c=>?_)
    ·have z6:=s6 _ _ z5;symm;refine zaA (by simp) fun p7 H7 f7 s7 e7=>?_;symm;have hfl:((ns'.take j).filter fun r=>!decide ([(i:Int)+1,r]∈en.map (List.take 2))).length≤ns'.length:=Nat.le_trans (List.length_filter_le _ _) (by rw [List.length_take];omega);refine zaS (s7 _ _ (s6 _ _ z5)) (by rw [zl5,List.length_append,List.length_map];omega) fun H8 b8 e8=>?_;symm;refine ⟨⟨_,rfl⟩,?_,by rw [b8 _ np4];exact s7 _ _ (s6 _ _ e5)⟩;have R7:=R6.push (r:=[(i:Int)+1,ns'.getD j 0]) f7 s7 e7 (s7 _ _ (s6 _ _ z5)) b8 e8;rw [et,List.filter_append,List.map_append,← List.append_assoc,List.filter_cons,if_pos (by rw [decide_eq_false c];rfl)];exact R7
    ·symm;refine ⟨⟨_,rfl⟩,?_,s6 _ _ e5⟩;rw [et,List.filter_append,List.map_append,← List.append_assoc,List.filter_cons,if_neg (by rw [decide_eq_true c];decide)];rw [List.filter_nil,List.map_nil,List.append_nil];exact R6
   ·rintro σ H5 ⟨⟨w4,rfl⟩,R5,e5⟩;rw [List.length_map,List.take_length,ew] at R5;refine ⟨⟨_,_,rfl⟩,?_,?_⟩
    ·rw [zcD _ _ _ hi];exact R5
    ·rw [zcD _ _ _ hi,List.length_append,List.length_map];omega
  ·rintro σ H' ⟨⟨v3,v4,rfl⟩,R,_⟩;symm;exact q p1 H' R
theorem zfS {H:Hp} {a b:Addr} {nm en:List (List Int)} {n:Nat} {Q:VK} {E:XK} (h1:LL K H a nm) (h2:LL K H b (en.map (List.take 2))) (l10:nm.length≤10) (h3:∀ i,i < en.length→(en.getD i []).length=3) (h4:∀ k,k < nm.length→zcC n en k (nm.getD k [])) (q:∀ p H',RowsAt H p (dueB nm en) H'→Q (.ref p) H'):zdv K [.ref a,.ref b] H Q E:=⟨rfl,a,b,nm,en,n,rfl,h1,h2,l10,h3,h4,q⟩
def zeN (K:PySem.W.Frag):Sp:=fun vs H Q _=>vs.length=2∧∃ (a b:Addr) (xs ys:List Int),vs=[.ref a,.ref b]∧H a=some (.lst (xs.map V.int))∧SqL K H b (ys.map V.int)∧ys.length≤1000000∧Q (.bl (decide (xs=ys))) H
theorem zeO (T:Txt K mg t):FnOk P w K mg base CX0 2 t.f_46 t.d_46 ["_law_found","_law_due"] (zeN K):=by
 have G_44:=zcF (P:=P) (w:=w) (base:=base) T;refine T.F_46.ok sc_46 (fun _ _ _ _ h=>h.1) fun cdv A outer s H vs Q E hr h=>by
  refine ⟨_,(zac (zaX (zcM (zbD (zaC (K:=K) rfl (zah (zaR (K:=K) rfl) (by rfl) T.z_isinstance (by rfl) (zaa (pv 0) (zaa (zcZ (v:=.ty "list") (u:=.type "list") (by rfl) T.z_list (by rfl) rfl) pa_nil))) (fun _=>rfl))) (zb5 (zaq (zcS (K:=K) rfl hr.units0) (zah (zaj (K:=K) rfl) (by rfl) T.z_len (by rfl) (zaa (pv 0) pa_nil)) (zah (zaj (K:=K) rfl) (by rfl) T.z_len (by rfl) (zaa (pv 1) pa_nil)) (zaB _)))).pt
   (zae (zal zbe)) pss_nil)
   (zac (zbc PassesOwn.never rfl (za8 (by rfl) T.z_range (zaa (zah (zaj (K:=K) rfl) (by rfl) T.z_len (by rfl) (zaa (pv 1) pa_nil)) pa_nil)) (zar (i:=2) sc_46.nd rfl (Or.inl rfl))
   (zae (zaX (zcM (zbD (zaC (K:=K) rfl (zan G_44 (hr.mono (by decide)) (by rfl) T.m_44 T.F_44.kp T.b_44 .nil zav (zaa (zax (zaf (K:=K) rfl) (pv 0) (pv 2) (fun _ _=>rfl)) pa_nil)) (fun _=>rfl))) (zb5 (zaq (zcS (K:=K) rfl hr.units0) (zax (zaf (K:=K) rfl) (pv 0) (pv 2) (fun _ _=>rfl)) (zax (zaf (K:=K) rfl) (pv 1) (pv 2) (fun _ _=>rfl)) (zaB _)))).pt
   (zae (zal zbe)) pss_nil)))
   (zae (zal zbe)))),?_⟩
  obtain ⟨_,a,b,xs,ys,rfl,ha,hb,hy,q⟩:=h;symm;refine iteF ?_;symm;refine zdj (fun h0=>?_) (fun h0=>?_)
  ·rw [decide_eq_false (by rintro rfl;exact h0 rfl)] at q;symm;exact q
  ·have hlen:xs.length=ys.length:=by omega
   symm;refine zco (by omega) (by omega) ?_;refine zbX (fun i σ H1=>∃ v,σ=[some (.ref a),some (.ref b),v]∧H1=H∧∀ j,j < i→xs.getD j 0=ys.getD j 0) ⟨none,rfl,rfl,fun j hj=>absurd hj (by omega)⟩ ?_ ?_
   ·rintro i σ H1 hi ⟨v,rfl,rfl,hall⟩;symm;refine iteF ?_;symm;refine zdj (fun h1=>?_) (fun h1=>?_)
    ·rw [decide_eq_false (by rintro rfl;exact h1 rfl)] at q;symm;exact q
    ·symm;refine ⟨_,rfl,rfl,fun j hj=>?_⟩
     by_cases e:j=i
     ·subst e;have e2:(0+(j:Int)).toNat=j:=by omega
      rw [e2] at h1;exact h1
     ·exact hall j (by omega)
   ·rintro σ H1 ⟨v,rfl,rfl,hall⟩;rw [decide_eq_true (zjl hlen fun j hj=>hall j (by omega))] at q;symm;exact q
theorem zeq {H:Hp} {a b:Addr} {xs ys:List Int} {Q:VK} {E:XK} (h:H a=some (.lst (xs.map V.int))) (h':SqL K H b (ys.map V.int)) (hl:ys.length≤1000000) (q:Q (.bl (decide (xs=ys))) H):zeN K [.ref a,.ref b] H Q E:=⟨rfl,a,b,xs,ys,rfl,h,h',hl,q⟩
def zer (K:PySem.W.Frag):Sp:=fun vs H Q _=>vs.length=2∧∃ (a b:Addr) (xs ys:List (List Int)),vs=[.ref a,.ref b]∧(∃ zs,H a=some (.lst zs))∧LL K H a xs∧LL K H b ys∧ys.length≤1000000∧(∀ i,i < ys.length→(ys.getD i []).length≤1000000)∧Q (.bl (decide (xs=ys))) H
theorem zgx (T:Txt K mg t):FnOk P w K mg base CX0 3 t.f_47 t.d_47 ["_law_found","_law_due"] (zer K):=by
 have G_46:=zeO (P:=P) (w:=w) (base:=base) T;refine T.F_47.ok sc_47 (fun _ _ _ _ h=>h.1) fun cdv A outer s H vs Q E hr h=>by
  refine ⟨_,(zac (zaX (zcM (zbD (zaC (K:=K) rfl (zah (zaR (K:=K) rfl) (by rfl) T.z_isinstance (by rfl) (zaa (pv 0) (zaa (zcZ (v:=.ty "list") (u:=.type "list") (by rfl) T.z_list (by rfl) rfl) pa_nil))) (fun _=>rfl))) (zb5 (zaq (zcS (K:=K) rfl hr.units0) (zah (zaj (K:=K) rfl) (by rfl) T.z_len (by rfl) (zaa (pv 0) pa_nil)) (zah (zaj (K:=K) rfl) (by rfl) T.z_len (by rfl) (zaa (pv 1) pa_nil)) (zaB _)))).pt
   (zae (zal zbe)) pss_nil)
   (zac (zbc PassesOwn.never rfl (za8 (by rfl) T.z_range (zaa (zah (zaj (K:=K) rfl) (by rfl) T.z_len (by rfl) (zaa (pv 1) pa_nil)) pa_nil)) (zar (i:=2) sc_47.nd rfl (Or.inl rfl))
   (zae (zaX (zbD (zaC (K:=K) rfl (zan G_46 (hr.mono (by decide)) (by rfl) T.m_46 T.F_46.kp T.b_46 .nil zav (zaa (zax (zaf (K:=K) rfl) (pv 0) (pv 2) (fun _ _=>rfl)) (zaa (zax (zaf (K:=K) rfl) (pv 1) (pv 2) (fun _ _=>rfl)) pa_nil))) (fun _=>rfl)))
   (zae (zal zbe)) pss_nil)))
   (zae (zal zbe)))),?_⟩
  obtain ⟨_,a,b,xs,ys,rfl,⟨zs,hz⟩,⟨ps,ha,hla,hpa⟩,⟨qs,hb,hlb,hpb⟩,hy,hyi,q⟩:=h;symm;refine iteF ?_;symm;refine zdj (fun h0=>?_) (fun h0=>?_)
  ·rw [decide_eq_false (by rintro rfl;exact h0 (by omega))] at q;symm;exact q
  ·have hlen:xs.length=ys.length:=by omega
   symm;refine zco (by omega) (by omega) ?_;refine zbX (fun i σ H1=>∃ v,σ=[some (.ref a),some (.ref b),v]∧H1=H∧∀ j,j < i→xs.getD j []=ys.getD j []) ⟨none,rfl,rfl,fun j hj=>absurd hj (by omega)⟩ ?_ ?_
   ·rintro i σ H1 hi ⟨v,rfl,rfl,hall⟩;symm;have e2:(0+(i:Int)).toNat=i:=by omega
    rw [e2];refine zeq (hpa i (by omega)) (SqL.of (hpb i (by omega))) (hyi i (by omega)) ?_;symm;refine zdj (fun h1=>?_) (fun h1=>?_)
    ·rw [decide_eq_false (by rintro rfl;exact h1 rfl)] at q;symm;exact q
    ·symm;refine ⟨_,rfl,rfl,fun j hj=>?_⟩
     by_cases e:j=i
     ·subst e;exact h1
     ·exact hall j (by omega)
   ·rintro σ H1 ⟨v,rfl,rfl,hall⟩;rw [decide_eq_true (zfs hlen fun j hj=>hall j (by omega))] at q;symm;exact q
theorem zhI {H:Hp} {a b:Addr} {xs ys:List (List Int)} {Q:VK} {E:XK} (hz:∃ zs,H a=some (.lst zs)) (h:LL K H a xs) (h':LL K H b ys) (hl:ys.length≤1000000) (hi:∀ i,i < ys.length→(ys.getD i []).length≤1000000) (q:Q (.bl (decide (xs=ys))) H):zer K [.ref a,.ref b] H Q E:=⟨rfl,a,b,xs,ys,rfl,hz,h,h',hl,hi,q⟩
def zbr (K:PySem.W.Frag) (C:Addr):Sp:=fun vs H Q _=>vs.length=2∧∃ (x:Addr) (F:Addr→Prop) (st:ExS) (k:Int),vs=[.ref x,.int k]∧ExAt C H x F st∧InB st.hs st.rs∧1≤k∧k≤st.nm.length∧(∀ p H',H p=none→Same H H'→H' p=some (.lst ((zaQ st.nm st.en (k-1).toNat).map V.int))→Q (.ref p) H')
theorem zbs (T:Txt K mg t):FnOk P w K mg base CX0 1 t.f_38 t.d_38 ["self","paper"] (zbr K t.C_Exam):=by
 refine T.F_38.ok sc_38 (fun _ _ _ _ h=>h.1) fun cdv A outer s H vs Q E hr h=>by
  refine ⟨_,(zac (zaL (i:=2) sc_38.nd rfl (Or.inr rfl) (zax (zaf (K:=K) rfl) (zaD (K:=K) rfl (pv 0)) (zap (op_sub) (pv 1) zad) (fun _ _=>rfl)))
   (zae (zal (zbd (zat (sc:=zab s_38) (XN:=["self","paper","entered"]) (N:=["reader","entered"]) (own:=1) (js:=[2]) rfl rfl (by decide +kernel)) rfl (zaO (K:=K) rfl (zax (zaf (K:=K) rfl) (zaD (K:=K) rfl (pv 0)) (zap (op_sub) (pv 1) zad) (fun _ _=>rfl))) (fun _ _ _ _ _=>(zar (i:=0) (show List.Nodup [(Str.ofString "reader"),(Str.ofString "entered")] by decide +kernel) rfl (Or.inl rfl))) (fun _ _ _ _ _=>(zc2 (zjX (zif (zc0 hr) (pv 0) (pv 1))))) (fun _ _ _ _ _=>(pv 0)))))),?_⟩
  obtain ⟨_,x,F,st,k,rfl,E0,BB,k1,k2,q⟩:=h;have B1:=BB.lp;have B2:=BB.lr;have E0':=E0;walk_at "hd";have lq:=I.lq;have ld:=I.ld;have l10:=I.wf.n10 BB;have hk:(k-1).toNat < st.nm.length:=by omega
  have hdic:=I.rd _ hk;have hrow:=I.rq _ hk;have hvk:=I.vk _ hk;have hlr:=(I.wf.row _ hk).len;symm;refine zaW (SqL.of hrow) ?_;refine zim (SqL.of hrow) (by rw [List.length_map];omega) (fun v=>match v with | .int r=>(zaH st.en (k-1).toNat r).isNone | _=>false) (fun i H' Q' hi s q'=>?_) fun p H2 f s e2=>?_
  ·rw [List.length_map] at hi;have ex:((st.nm.getD (k-1).toNat []).map V.int).getD i .non=.int ((st.nm.getD (k-1).toNat []).getD i 0):=zed hi;rw [ex] at q' ⊢;symm;refine ziJ (s _ _ hdic) ?_;rw [hvk];have eb:(!((zaH st.en (k-1).toNat ((st.nm.getD (k-1).toNat []).getD i 0)).map V.int).isSome)=(zaH st.en (k-1).toNat ((st.nm.getD (k-1).toNat []).getD i 0)).isNone:=by
    cases zaH st.en (k-1).toNat ((st.nm.getD (k-1).toNat []).getD i 0) <;> rfl
   symm;rw [eb];exact q'
  ·have ew:((st.nm.getD (k-1).toNat []).map V.int).filter (fun v=>match v with | .int r=>(zaH st.en (k-1).toNat r).isNone | _=>false)=(zaQ st.nm st.en (k-1).toNat).map V.int:=by
    unfold zaQ;rw [List.filter_map];rfl
   rw [ew] at e2;exact q p H2 f s e2
theorem zdw {K:PySem.W.Frag} {C x:Addr} {H:Hp} {F:Addr→Prop} {st:ExS} {k:Int} {Q:VK} {E:XK} (h:ExAt C H x F st) (B:InB st.hs st.rs) (k1:1≤k) (k2:k≤st.nm.length) (q:(∀ p H',H p=none→Same H H'→H' p=some (.lst ((zaQ st.nm st.en (k-1).toNat).map V.int))→Q (.ref p) H')):zbr K C [.ref x,.int k] H Q E:=⟨rfl,x,F,st,k,rfl,h,B,k1,k2,q⟩
theorem zbB {K:PySem.W.Frag} {C x:Addr} {H:Hp} {F:Addr→Prop} {st:ExS} {k:Int} {Q:VK} {E:XK} {σ:L2.St} {tk:TE} (h:ExAt C H x F st) (B:InB st.hs st.rs) (k1:1≤k) (k2:k≤st.nm.length) (hk:∀ Q:VK,Q (.int k) H→tk σ H Q) (q:(∀ p H',H p=none→Same H H'→H' p=some (.lst ((zaQ st.nm st.en (k-1).toNat).map V.int))→Q (.ref p) H')):zby C "due_readers" (zbr K C) E (zf0 tk tNil) σ (.ref x) H Q:=by
 obtain ⟨dx,fs,e,l⟩:=h.ob;exact zaM e (l _ (by decide +kernel)) (zfo (hk _ (zes (zdw h B k1 k2  q))))
def zc9 (K:PySem.W.Frag) (C:Addr):Sp:=fun vs H Q _=>vs.length=1∧∃ (x:Addr) (F:Addr→Prop) (st:ExS),vs=[.ref x]∧ExAt C H x F st∧InB st.hs st.rs∧(∀ p H',RowsAt H p (dueS st) H'→Q (.ref p) H')
theorem zgy (T:Txt K mg t):FnOk P w K mg base CX0 2 t.f_32 t.d_32 ["self"] (zc9 K t.C_Exam):=by
 have G_38:=zbs (P:=P) (w:=w) (base:=base) T;refine T.F_32.ok sc_32 (fun _ _ _ _ h=>h.1) fun cdv A outer s H vs Q E hr h=>by
  refine ⟨_,(zac (zaL (i:=1) sc_32.nd rfl (Or.inl rfl) (zaV pa_nil))
   (zac (zbc PassesOwn.never rfl (zb6 (by rfl) T.z_range (zaa zad (zaa (zap (op_addG) (zah (zaj (K:=K) rfl) (by rfl) T.z_len (by rfl) (zaa (zaD (K:=K) rfl (pv 0)) pa_nil)) zad) pa_nil))) (zar (i:=2) sc_32.nd rfl (Or.inr rfl))
   (zae (zaG (zbW (K:=K) rfl PySem.F.plainAttrs_list PySem.F.slot_list_extend PySem.F.type_list_extend mt_extend (pv 1) (zaa (zbd (zat (sc:=zab s_32) (XN:=["self","rows","paper"]) (N:=["reader","paper"]) (own:=1) (js:=[2]) rfl rfl (by decide +kernel)) rfl (zaO (K:=K) rfl (zbq (pv 0) T.cl_Exam T.me_38 G_38 (hr.mono (by decide)) T.b_38 .nil zav (zaa (pv 2) pa_nil))) (fun _ _ _ _ _=>(zar (i:=0) (show List.Nodup [(Str.ofString "reader"),(Str.ofString "paper")] by decide +kernel) rfl (Or.inl rfl))) (fun _ _ _ _ _=>zbM) (fun _ _ _ _ _=>(zaV (zaa (pv 1) (zaa (pv 0) pa_nil))))) pa_nil)))))
   (zae (zal (pv 1))))),?_⟩
  obtain ⟨_,x,F,st,rfl,E0,BB,q⟩:=h;have B1:=BB.lp;have B2:=BB.lr;have E0':=E0;walk_at "hd";have lq:=I.lq;have l10:=I.wf.n10 BB;symm;refine zaA (by decide) fun p1 H1 f1 s1 e1=>?_;have hob1:=s1 _ _ hob;have hhc1:=s1 _ _ hhc;symm;refine zeD ⟨by omega,by omega,by omega,by omega⟩ ?_;have en:((e.qs.length:Int)+1-1).toNat=st.nm.length:=by omega
  rw [en];refine zbX (fun i σ H'=>(∃ v,σ=[some (.ref e.x),some (.ref p1),v])∧RowsAt H p1 ((List.range i).flatMap fun k=>(zaQ st.nm st.en k).map fun r=>[(k:Int)+1,r]) H'∧((List.range i).flatMap fun k=>(zaQ st.nm st.en k).map fun r=>[(k:Int)+1,r]).length≤3 * i) ⟨⟨none,rfl⟩,RowsAt.start f1 s1 e1,by simp⟩ ?_ ?_
  ·rintro i σ H' hi ⟨⟨v,rfl⟩,R,hlen⟩;have E':=E0'.same R.same;have ek:(1+(i:Int)-1).toNat=i:=by omega
   have hw:=zgh st.nm st.en i;have hlr:=(I.wf.row i hi).len;obtain ⟨zs',z',_⟩:=R.lst;symm;refine zbB E' BB (k:=1+(i:Int)) (by omega) (by omega) (fun Q z=>zeV (i:=2) rfl z) fun p2 H2 f2 s2 e2=>?_;rw [ek] at e2;refine zaW (SqL.of e2) ?_;refine zcf (zca (zcg.one (zbh (SqL.of e2))) (by rw [List.length_map];omega) (fun j=>[(i:Int)+1,(zaQ st.nm st.en i).getD j 0]) (fun j H3 Q' hj s3 q'=>?_) fun p3 H3 R3=>?_)
   ·rw [List.length_map] at hj;have ex:((zaQ st.nm st.en i).map V.int).getD j .non=.int ((zaQ st.nm st.en i).getD j 0):=zed hj;rw [ex];show (_:TE) (some (.int _)::some (.int (1+(i:Int)))::_) _ _;symm;rw [Int.add_comm 1 (i:Int)];refine zaA (by simp) fun p4 H4 f4 s4 e4=>?_;exact q' p4 H4 f4 s4 e4
   ·have er:(List.range ((zaQ st.nm st.en i).map V.int).length).map (fun j=>[(i:Int)+1,(zaQ st.nm st.en i).getD j 0])=(zaQ st.nm st.en i).map fun r=>[(i:Int)+1,r]:=by
     rw [List.length_map]
     conv=>rhs;rw [← zcQ (zaQ st.nm st.en i) 0]
     rw [List.map_map];rfl
    rw [er] at R3;have R':RowsAt H p1 _ H2:=⟨R.same.trans s2,R.new,by obtain ⟨ps,a1,a2,a3,a4⟩:=R.rows;exact ⟨ps,s2 _ _ a1,a2,a3,fun j hj=>⟨s2 _ _ (a4 j hj).1,(a4 j hj).2⟩⟩⟩
    obtain ⟨zs,zs2,z1,z2,z3,z4,zz⟩:=R'.ext (H3:=H3) R3;rw [List.length_map] at z4;obtain ⟨zs,zs2,z1,z2,z3,z4,_⟩:=R'.ext (H3:=H3) R3;rw [List.length_map] at z4;symm;refine zjK z1 z2 (by omega) fun H4 b4 e4=>?_;obtain ⟨ys,ys2,y1,y2,y3,y4,yy⟩:=R'.ext (H3:=H4) R3;have eq1:ys=zs:=by rw [y1] at z1;exact HO.lst.inj (Option.some.inj z1)
    have eq2:ys2=zs2:=by rw [y2] at z2;exact HO.lst.inj (Option.some.inj z2)
    rw [eq1,eq2] at yy;symm;refine ⟨⟨_,rfl⟩,?_,?_⟩
    ·rw [zcD _ _ _ hi];exact yy b4 e4
    ·rw [zcD _ _ _ hi,List.length_append,List.length_map];omega
  ·rintro σ H' ⟨⟨v,rfl⟩,R,_⟩;symm;exact q p1 H' R
theorem zhJ {K:PySem.W.Frag} {C x:Addr} {H:Hp} {F:Addr→Prop} {st:ExS} {Q:VK} {E:XK} (h:ExAt C H x F st) (B:InB st.hs st.rs) (q:(∀ p H',RowsAt H p (dueS st) H'→Q (.ref p) H')):zc9 K C [.ref x] H Q E:=⟨rfl,x,F,st,rfl,h,B,q⟩
theorem zhK {K:PySem.W.Frag} {C x:Addr} {H:Hp} {F:Addr→Prop} {st:ExS} {Q:VK} {E:XK} {σ:L2.St} (h:ExAt C H x F st) (B:InB st.hs st.rs) (q:(∀ p H',RowsAt H p (dueS st) H'→Q (.ref p) H')):zby C "due" (zc9 K C) E tNil σ (.ref x) H Q:=by
 obtain ⟨dx,fs,e,l⟩:=h.ob;exact zaM e (l _ (by decide +kernel)) (zes (zhJ h B q))
def zcG (K:PySem.W.Frag) (C:Addr):Sp:=fun vs H Q _=>vs.length=1∧∃ (x:Addr) (F:Addr→Prop) (st:ExS),vs=[.ref x]∧ExAt C H x F st∧InB st.hs st.rs∧(∀ p H',H p=none→Same H H'→H' p=some (.lst ((zgg st).map V.int))→Q (.ref p) H')
theorem zdS (T:Txt K mg t):FnOk P w K mg base CX0 3 t.f_34 t.d_34 ["self"] (zcG K t.C_Exam):=by
 have G_8:=zcm (P:=P) (w:=w) (base:=base) T;refine T.F_34.ok sc_34 (fun _ _ _ _ h=>h.1) fun cdv A outer s H vs Q E hr h=>by
  refine ⟨_,(zae (zal (zan G_8 (hr.mono (by decide)) (by rfl) T.m_8 T.F_8.kp T.b_8 .nil zav (zaa (zaD (K:=K) rfl (pv 0)) (zaa (zaD (K:=K) rfl (pv 0)) pa_nil))))),?_⟩;obtain ⟨_,x,F,st,rfl,E0,BB,q⟩:=h;have B1:=BB.lp;have B2:=BB.lr;walk_at "hd";have L:LL K H e.b st.rs:=⟨e.ps,SqL.of hhb,I.lp,I.rp⟩
  have M:LL K H e.c st.nm:=⟨e.qs,SqL.of hhc,I.lq,I.rq⟩
  symm;refine zcn L M (by omega) (by have:=I.wf.n10 BB;omega) BB.r2 fun p H2 f s z=>?_;exact q p H2 f s z
theorem zgz {K:PySem.W.Frag} {C x:Addr} {H:Hp} {F:Addr→Prop} {st:ExS} {Q:VK} {E:XK} (h:ExAt C H x F st) (B:InB st.hs st.rs) (q:(∀ p H',H p=none→Same H H'→H' p=some (.lst ((zgg st).map V.int))→Q (.ref p) H')):zcG K C [.ref x] H Q E:=⟨rfl,x,F,st,rfl,h,B,q⟩
theorem zda {K:PySem.W.Frag} {C x:Addr} {H:Hp} {F:Addr→Prop} {st:ExS} {Q:VK} {E:XK} {σ:L2.St} (h:ExAt C H x F st) (B:InB st.hs st.rs) (q:(∀ p H',H p=none→Same H H'→H' p=some (.lst ((zgg st).map V.int))→Q (.ref p) H')):zby C "left" (zcG K C) E tNil σ (.ref x) H Q:=by
 obtain ⟨dx,fs,e,l⟩:=h.ob;exact zaM e (l _ (by decide +kernel)) (zes (zgz h B q))
def zdT (K:PySem.W.Frag):Sp:=fun vs H Q _=>vs.length=2∧∃ (c:Int) (m:Nat),vs=[.int c,.int (m:Int)]∧m < 3∧∀ (v:Int) H',0≤v→v≤100→Same H H'→Q (.int v) H'
theorem zfT (T:Txt K mg t):FnOk P w K mg base CX0 1 t.f_55 t.d_55 ["_law_cell","_law_before"] (zdT K):=by
 refine T.F_55.ok sc_55 (fun _ _ _ _ h=>h.1) fun cdv A outer s H vs Q E hr h=>by
  refine ⟨_,(zac (zaX (zaq (zcR (K:=K) rfl hr.units0) (zap (op_mod) (pv 0) zad) zad (zaB _))
   (zae (zal (zap (op_mod) (zap (op_fdivB) (pv 0) zad) zad))) pss_nil)
   (zae (zal (zax (zaf (K:=K) rfl) (zaV (zaa (zap (op_mod) (zap (op_fdivB) (pv 0) zad) zad) (zaa (zap (op_addG) zad (zap (op_mod) (zap (op_fdivB) (pv 0) zad) zad)) (zaa (zap (op_mod) (zap (op_fdivB) (pv 0) zad) zad) pa_nil)))) (pv 1) (fun _ _=>rfl))))),?_⟩
  obtain ⟨_,c,m,rfl,hm,q⟩:=h;symm;refine zbN (fun h1=>?_) (fun h1=>?_)
  ·symm;exact q _ _ (by omega) (by omega) fun _ _ z=>z
  ·symm;refine zaA (by simp) fun p1 H1 f1 s1 e1=>?_;have e1:H1 p1=some (.lst (([c / 5 % 30,70+c / 5 % 31,c / 5 % 101]:List Int).map V.int)):=e1;have hv:0≤([c / 5 % 30,70+c / 5 % 31,c / 5 % 101]:List Int).getD m 0∧([c / 5 % 30,70+c / 5 % 31,c / 5 % 101]:List Int).getD m 0≤100:=by
    match m,hm with
    | 0,_=>show 0≤c / 5 % 30∧c / 5 % 30≤100;omega
    | 1,_=>show 0≤70+c / 5 % 31∧70+c / 5 % 31≤100;omega
    | 2,_=>show 0≤c / 5 % 101∧c / 5 % 101≤100;omega
   have hxl:([c / 5 % 30,70+c / 5 % 31,c / 5 % 101]:List Int).length=3:=rfl;generalize ([c / 5 % 30,70+c / 5 % 31,c / 5 % 101]:List Int)=xs at *;symm;exact q _ _ hv.1 hv.2 s1
theorem zgA {H:Hp} {c:Int} (m:Nat) {Q:VK} {E:XK} (hm:m < 3) (q:∀ (v:Int) H',0≤v→v≤100→Same H H'→Q (.int v) H'):zdT K [.int c,.int (m:Int)] H Q E:=⟨rfl,c,m,rfl,hm,q⟩
def za4 (K:PySem.W.Frag) (C:Addr):Sp:=fun vs H Q _=>vs.length=1∧∃ (x:Addr) (F:Addr→Prop) (st:ExS),vs=[.ref x]∧ExAt C H x F st∧st.dl.isSome=true∧Q .non H
theorem zbH (T:Txt K mg t):FnOk P w K mg base CX0 1 t.f_36 t.d_36 ["self"] (za4 K t.C_Exam):=by
 refine T.F_36.ok sc_36 (fun _ _ _ _ h=>h.1) fun cdv A outer s H vs Q E hr h=>by
  refine ⟨_,(zae (zaX (zbD (zaC (K:=K) rfl (zaD (K:=K) rfl (pv 0)) (fun _=>rfl)))
   (zae ps_never) pss_nil)),?_⟩
  obtain ⟨_,x,F,st,rfl,E0,hd,q⟩:=h;walk_at "hd";symm;rw [hd];refine iteF ?_;symm;exact q
theorem zdb {K:PySem.W.Frag} {C x:Addr} {H:Hp} {F:Addr→Prop} {st:ExS} {Q:VK} {E:XK} {σ:L2.St} (h:ExAt C H x F st) (hd:st.dl.isSome=true) (q:Q .non H):zby C "refuse_ahead_of_dealing" (za4 K C) E tNil σ (.ref x) H Q:=by
 obtain ⟨dx,fs,e,l⟩:=h.ob;exact zaM e (l _ (by decide +kernel)) (zes ⟨rfl,x,F,st,rfl,h,hd,q⟩)
def zbE (K:PySem.W.Frag) (C:Addr):Sp:=fun vs H Q _=>vs.length=3∧∃ (x:Addr) (F:Addr→Prop) (st:ExS) (k r:Int),vs=[.ref x,.int k,.int r]∧ExAt C H x F st∧InB st.hs st.rs∧1≤k∧k≤st.nm.length∧r∈zaQ st.nm st.en (k-1).toNat∧∀ H',Same H H'→Q .non H'
theorem zcu (T:Txt K mg t):FnOk P w K mg base CX0 2 t.f_37 t.d_37 ["self","paper","reader"] (zbE K t.C_Exam):=by
 have G_38:=zbs (P:=P) (w:=w) (base:=base) T;refine T.F_37.ok sc_37 (fun _ _ _ _ h=>h.1) fun cdv A outer s H vs Q E hr h=>by
  refine ⟨_,(zae (zaX (zaq (zdp (K:=K) rfl (zc0 hr)) (pv 2) (zbq (pv 0) T.cl_Exam T.me_38 G_38 (hr.mono (by decide)) T.b_38 .nil zav (zaa (pv 1) pa_nil)) (by with_unfolding_all rfl))
   (zae ps_never) pss_nil)),?_⟩
  obtain ⟨_,x,F,st,k,r,rfl,E0,BB,k1,k2,hr',q⟩:=h;have E0':=E0;walk_at "hd";symm;refine zbB E0' BB k1 k2 (fun Q z=>zeV (i:=1) rfl z) fun p1 H1 f1 s1 e1=>?_;symm;rw [decide_eq_true hr'];refine iteF ?_;symm;exact q H1 s1
theorem zcH {K:PySem.W.Frag} {C x:Addr} {H:Hp} {F:Addr→Prop} {st:ExS} {k r:Int} {Q:VK} {E:XK} (h:ExAt C H x F st) (B:InB st.hs st.rs) (k1:1≤k) (k2:k≤st.nm.length) (hr:r∈zaQ st.nm st.en (k-1).toNat) (q:∀ H',Same H H'→Q .non H'):zbE K C [.ref x,.int k,.int r] H Q E:=⟨rfl,x,F,st,k,r,rfl,h,B,k1,k2,hr,q⟩
def zbC (K:PySem.W.Frag) (C:Addr):Sp:=fun vs H Q _=>vs.length=2∧∃ (x:Addr) (F:Addr→Prop) (st:ExS) (k:Int),vs=[.ref x,.int k]∧ExAt C H x F st∧InB st.hs st.rs∧1≤k∧k≤st.nm.length∧zaQ st.nm st.en (k-1).toNat=[]∧(∀ p H',H p=none→Same H H'→H' p=some (.lst ((zdV st.nm st.en (k-1).toNat).map V.int))→Q (.ref p) H')
theorem zdx (T:Txt K mg t):FnOk P w K mg base CX0 1 t.f_39 t.d_39 ["self","paper"] (zbC K t.C_Exam):=by
 refine T.F_39.ok sc_39 (fun _ _ _ _ h=>h.1) fun cdv A outer s H vs Q E hr h=>by
  refine ⟨_,(zac (zaL (i:=2) sc_39.nd rfl (Or.inr rfl) (zax (zaf (K:=K) rfl) (zaD (K:=K) rfl (pv 0)) (zap (op_sub) (pv 1) zad) (fun _ _=>rfl)))
   (zae (zal (zbd (zat (sc:=zab s_39) (XN:=["self","paper","entered"]) (N:=["reader","entered"]) (own:=1) (js:=[2]) rfl rfl (by decide +kernel)) rfl (zaO (K:=K) rfl (zax (zaf (K:=K) rfl) (zaD (K:=K) rfl (pv 0)) (zap (op_sub) (pv 1) zad) (fun _ _=>rfl))) (fun _ _ _ _ _=>(zar (i:=0) (show List.Nodup [(Str.ofString "reader"),(Str.ofString "entered")] by decide +kernel) rfl (Or.inl rfl))) (fun _ _ _ _ _=>zbM) (fun _ _ _ _ _=>(zkw (zc0 hr) (pv 1) (pv 0) (fun _ _=>rfl))))))),?_⟩
  obtain ⟨_,x,F,st,k,rfl,E0,BB,k1,k2,hw,q⟩:=h;have B1:=BB.lp;have B2:=BB.lr;have E0':=E0;walk_at "hd";have lq:=I.lq;have ld:=I.ld;have l10:=I.wf.n10 BB;have hk:(k-1).toNat < st.nm.length:=by omega
  have hdic:=I.rd _ hk;have hrow:=I.rq _ hk;have hvk:=I.vk _ hk;have hlr:=(I.wf.row _ hk).len;symm;refine zaW (SqL.of hrow) ?_;refine zfq (zbh (SqL.of hrow)) (by rw [List.length_map];omega) (fun i=>(zaH st.en (k-1).toNat ((st.nm.getD (k-1).toNat []).getD i 0)).getD 0) (fun i H' Q' hi s q'=>?_) fun p H2 f s e2=>?_
  ·rw [List.length_map] at hi;have ex:((st.nm.getD (k-1).toNat []).map V.int).getD i .non=.int ((st.nm.getD (k-1).toNat []).getD i 0):=zed hi;rw [ex];obtain ⟨p,hp⟩:=zgW hw (getD_mem (d:=0) hi);rw [hp] at q';symm;refine ziK (s _ _ hdic) (by rw [hvk,hp];rfl) ?_;exact q'
  ·have ew:(List.range ((st.nm.getD (k-1).toNat []).map V.int).length).map (fun i=>(zaH st.en (k-1).toNat ((st.nm.getD (k-1).toNat []).getD i 0)).getD 0)=zdV st.nm st.en (k-1).toNat:=by
    unfold zdV;rw [List.length_map]
    conv=>rhs;rw [← zcQ (st.nm.getD (k-1).toNat []) 0]
    rw [List.map_map];rfl
   rw [ew] at e2;exact q p H2 f s e2
theorem zdI {K:PySem.W.Frag} {C x:Addr} {H:Hp} {F:Addr→Prop} {st:ExS} {k:Int} {Q:VK} {E:XK} (h:ExAt C H x F st) (B:InB st.hs st.rs) (k1:1≤k) (k2:k≤st.nm.length) (hw:zaQ st.nm st.en (k-1).toNat=[]) (q:(∀ p H',H p=none→Same H H'→H' p=some (.lst ((zdV st.nm st.en (k-1).toNat).map V.int))→Q (.ref p) H')):zbC K C [.ref x,.int k] H Q E:=⟨rfl,x,F,st,k,rfl,h,B,k1,k2,hw,q⟩
theorem zdJ {K:PySem.W.Frag} {C x:Addr} {H:Hp} {F:Addr→Prop} {st:ExS} {k:Int} {Q:VK} {E:XK} {σ:L2.St} {tk:TE} (h:ExAt C H x F st) (B:InB st.hs st.rs) (k1:1≤k) (k2:k≤st.nm.length) (hw:zaQ st.nm st.en (k-1).toNat=[]) (hk:∀ Q:VK,Q (.int k) H→tk σ H Q) (q:(∀ p H',H p=none→Same H H'→H' p=some (.lst ((zdV st.nm st.en (k-1).toNat).map V.int))→Q (.ref p) H')):zby C "points_for" (zbC K C) E (zf0 tk tNil) σ (.ref x) H Q:=by
 obtain ⟨dx,fs,e,l⟩:=h.ob;exact zaM e (l _ (by decide +kernel)) (zfo (hk _ (zes (zdI h B k1 k2 hw q))))
def zg7 (K:PySem.W.Frag):Sp:=fun vs H Q _=>vs.length=3∧∃ x y s:Int,vs=[.int x,.int y,.int s]∧Q (.bl (zb9 x y s)) H
theorem zjV (T:Txt K mg t):FnOk P w K mg base CX0 1 t.f_15 t.d_15 ["one","other","step"] (zg7 K):=by
 refine T.F_15.ok sc_15 (fun _ _ _ _ h=>h.1) fun cdv A outer s H vs Q E hr h=>by
  refine ⟨_,(zae (zal (zcd (op_le) (zah (call_abs) (by rfl) T.z_abs (by rfl) (zaa (zap (op_sub) (pv 0) (pv 1)) pa_nil)) (pv 2) (zaB _)))),?_⟩;obtain ⟨_,x,y,s,rfl,q⟩:=h;symm;refine ⟨_,rfl,?_⟩;symm;have e:zb9 x y s=decide ((if x-y < 0 then -(x-y) else x-y)≤s):=by
   unfold zb9;rw [decide_eq_decide];split <;> constructor <;> intro h <;> first | omega | (constructor <;> omega)
  rw [e] at q;exact q
theorem zkX {H:Hp} {x y s:Int} {Q:VK} {E:XK} (q:Q (.bl (zb9 x y s)) H):zg7 K [.int x,.int y,.int s] H Q E:=⟨rfl,x,y,s,rfl,q⟩
def zbt (K:PySem.W.Frag) (C:Addr):Sp:=fun vs H Q _=>vs.length=2∧∃ (x:Addr) (F:Addr→Prop) (st:ExS) (k:Int),vs=[.ref x,.int k]∧ExAt C H x F st∧InB st.hs st.rs∧1≤k∧k≤st.nm.length∧(∀ H',Same H H'→Q (.bl (zbz st (k-1).toNat)) H')
theorem zdc (T:Txt K mg t):FnOk P w K mg base CX0 2 t.f_42 t.d_42 ["self","paper"] (zbt K t.C_Exam):=by
 have G_38:=zbs (P:=P) (w:=w) (base:=base) T;have G_39:=zdx (P:=P) (w:=w) (base:=base) T;have G_15:=zjV (P:=P) (w:=w) (base:=base) T;refine T.F_42.ok sc_42 (fun _ _ _ _ h=>h.1) fun cdv A outer s H vs Q E hr h=>by
  refine ⟨_,(zac (zaX (zcM (zaq (op_gt) (zah (zaj (K:=K) rfl) (by rfl) T.z_len (by rfl) (zaa (zax (zaf (K:=K) rfl) (zaD (K:=K) rfl (pv 0)) (zap (op_sub) (pv 1) zad) (fun _ _=>rfl)) pa_nil)) zad (zaB _)) (zb5 (zaq (op_gt) (zah (zaj (K:=K) rfl) (by rfl) T.z_len (by rfl) (zaa (zbq (pv 0) T.cl_Exam T.me_38 G_38 (hr.mono (by decide)) T.b_38 .nil zav (zaa (pv 1) pa_nil)) pa_nil)) zad (zaB _)))).pt
   (zae (zal zbe)) pss_nil)
   (zac (zaL (i:=2) sc_42.nd rfl (Or.inl rfl) (zbq (pv 0) T.cl_Exam T.me_39 G_39 (hr.mono (by decide)) T.b_39 .nil zav (zaa (pv 1) pa_nil)))
   (zae (zal (zjY (zan G_15 (hr.mono (by decide)) (by rfl) T.m_15 T.F_15.kp T.b_15 .nil zav (zaa (zax (zaf (K:=K) rfl) (pv 2) zad (fun _ _=>rfl)) (zaa (zax (zaf (K:=K) rfl) (pv 2) zad (fun _ _=>rfl)) (zaa (zaD (K:=K) rfl (pv 0)) pa_nil))))))))),?_⟩
  obtain ⟨_,x,F,st,k,rfl,E0,BB,k1,k2,q⟩:=h;have B1:=BB.lp;have B2:=BB.lr;have E0':=E0;walk_at "hd";have lq:=I.lq;have ld:=I.ld;have l10:=I.wf.n10 BB;have hk:(k-1).toNat < st.nm.length:=by omega
  have hdic:=I.rd _ hk;have hrow:=I.rq _ hk;have hvk:=I.vk _ hk;have hlr:=(I.wf.row _ hk).len;have hpl:=zkU st.nm st.en (k-1).toNat;symm;refine zbN (fun h0=>?_) (fun h0=>?_)
  ·refine iteT ?_;symm;have hn:zbz st (k-1).toNat=false:=by unfold zbz;rw [decide_eq_false (by omega)];rfl
   rw [hn] at q;exact q H (Same.refl H)
  have hl2:(st.nm.getD (k-1).toNat []).length=2:=by omega
  symm;refine zbB E0' BB k1 k2 (fun Q z=>zeV (i:=1) rfl z) fun p1 H1 f1 s1 e1=>?_;symm;refine zbN (fun h1=>?_) (fun h1=>?_)
  ·symm;have hn:zbz st (k-1).toNat=false:=by
    unfold zbz;rw [decide_eq_false (show ¬zaQ st.nm st.en (k-1).toNat=[] from fun z=>by rw [z] at h1;exact absurd h1 (by simp)),Bool.and_false];rfl
   rw [hn] at q;exact q H1 s1
  have hw:zaQ st.nm st.en (k-1).toNat=[]:=List.eq_nil_of_length_eq_zero (by omega);have E1:=E0'.same s1;symm;refine zdJ E1 BB k1 k2 hw (fun Q z=>zeV (i:=1) rfl z) fun p2 H2 f2 s2 e2=>?_;have hob:=s2 _ _ (s1 _ _ hob);symm;refine zkX ?_;symm;have hn:zbz st (k-1).toNat = !zb9 ((zdV st.nm st.en (k-1).toNat).getD 0 0) ((zdV st.nm st.en (k-1).toNat).getD 1 0) st.step:=by unfold zbz;rw [decide_eq_true hl2,decide_eq_true hw];rfl
  rw [hn] at q;exact q H2 (s1.trans s2)
theorem zdy {K:PySem.W.Frag} {C x:Addr} {H:Hp} {F:Addr→Prop} {st:ExS} {k:Int} {Q:VK} {E:XK} (h:ExAt C H x F st) (B:InB st.hs st.rs) (k1:1≤k) (k2:k≤st.nm.length) (q:(∀ H',Same H H'→Q (.bl (zbz st (k-1).toNat)) H')):zbt K C [.ref x,.int k] H Q E:=⟨rfl,x,F,st,k,rfl,h,B,k1,k2,q⟩
theorem zdz {K:PySem.W.Frag} {C x:Addr} {H:Hp} {F:Addr→Prop} {st:ExS} {k:Int} {Q:VK} {E:XK} {σ:L2.St} {tk:TE} (h:ExAt C H x F st) (B:InB st.hs st.rs) (k1:1≤k) (k2:k≤st.nm.length) (hk:∀ Q:VK,Q (.int k) H→tk σ H Q) (q:(∀ H',Same H H'→Q (.bl (zbz st (k-1).toNat)) H')):zby C "needs_third" (zbt K C) E (zf0 tk tNil) σ (.ref x) H Q:=by
 obtain ⟨dx,fs,e,l⟩:=h.ob;exact zaM e (l _ (by decide +kernel)) (zfo (hk _ (zes (zdy h B k1 k2  q))))
def okT (left row:List Int) (r:Int):Bool:=!decide (r∈row) && decide (0 < left.getD (r-1).toNat 0)
theorem zgB {hs:List Int} {rs:List (List Int)} {left row:List Int} {k:Int} {i:Nat}:fitT hs rs left k row i=(mayB hs rs k i && okT left row (1+(i:Int))):=by
 unfold fitT mayB okT;have e:((1:Int)+(i:Int)-1).toNat=i:=by omega
 have e2:(1:Int)+(i:Int)=(i:Int)+1:=by omega
 have e3:decide (1≤left.getD i 0)=decide (0 < left.getD i 0):=decide_eq_decide.mpr (by omega);rw [e,e2,e3];generalize decide (0 < left.getD i 0)=x;generalize decide ((i:Int)+1∈row)=y
 cases x <;> cases y <;> simp
theorem zkc {hs:List Int} {rs:List (List Int)} {k:Int} {i:Nat} (hi:i < (zag hs rs k).length):∃ a,a < rs.length∧mayB hs rs k a=true∧(zag hs rs k).getD i 0=1+(a:Int)∧∀ b,b < a→mayB hs rs k b=true→∃ j,j < i∧(zag hs rs k).getD j 0=1+(b:Int):=by
 unfold zag at hi ⊢;generalize hl:(List.range rs.length).filter (mayB hs rs k)=l at hi ⊢;rw [List.length_map] at hi;have hm:l[i]∈(List.range rs.length).filter (mayB hs rs k):=hl▸List.getElem_mem hi;obtain ⟨m1,m2⟩:=List.mem_filter.mp hm;have hp:l.Pairwise (· < ·):=hl▸List.Pairwise.filter _ List.pairwise_lt_range;have hg:∀ j (hj:j < l.length),(l.map fun i:Nat=>1+(i:Int)).getD j 0=1+((l[j]:Nat):Int):=fun j hj=>by
  rw [List.getD_eq_getElem?_getD,List.getElem?_map,List.getElem?_eq_getElem hj];rfl
 refine ⟨l[i],List.mem_range.mp m1,m2,hg i hi,fun b hb hm=>?_⟩;have hbm:b∈l:=hl▸List.mem_filter.mpr ⟨List.mem_range.mpr (by have:=List.mem_range.mp m1;omega),hm⟩;obtain ⟨j,hj,ej⟩:=List.getElem_of_mem hbm;refine ⟨j,?_,by rw [hg j hj,ej]⟩;refine Nat.lt_of_not_le fun hle=>?_;rcases Nat.eq_or_lt_of_le hle with z | z
 ·subst z;omega
 ·have:=List.pairwise_iff_getElem.mp hp i j hi hj z;omega
theorem zkY {hs:List Int} {rs:List (List Int)} {k:Int} {b:Nat} (hb:b < rs.length) (hm:mayB hs rs k b=true):∃ j,j < (zag hs rs k).length∧(zag hs rs k).getD j 0=1+(b:Int):=by
 have:(1+(b:Int))∈zag hs rs k:=List.mem_map.mpr ⟨b,List.mem_filter.mpr ⟨List.mem_range.mpr hb,hm⟩,rfl⟩;exact L2.mem_getD this
theorem zi2 {hs:List Int} {rs:List (List Int)} {left row:List Int} {k:Int} {i:Nat} (hi:i < (zag hs rs k).length) (h:okT left row ((zag hs rs k).getD i 0)=true) (hb:∀ j,j < i→okT left row ((zag hs rs k).getD j 0)=false):za5 hs rs left k row=(zag hs rs k).getD i 0:=by
 obtain ⟨a,a1,a2,a3,a4⟩:=zkc hi;rw [a3] at h ⊢;rw [Int.add_comm];refine zfH a1 (by rw [zgB,a2,h];rfl) fun b hlt=>?_;rw [zgB]
 cases hm:mayB hs rs k b with
 | false=>rfl
 | true =>
   obtain ⟨j,j1,j2⟩:=a4 b hlt hm;have:=hb j j1;rw [j2] at this;rw [this];rfl
theorem zhL {hs:List Int} {rs:List (List Int)} {left row:List Int} {k:Int} (hb:∀ j,j < (zag hs rs k).length→okT left row ((zag hs rs k).getD j 0)=false):za5 hs rs left k row=0:=by
 refine zgX fun b hlt=>?_;rw [zgB]
 cases hm:mayB hs rs k b with
 | false=>rfl
 | true =>
   obtain ⟨j,j1,j2⟩:=zkY hlt hm;have:=hb j j1;rw [j2] at this;rw [this];rfl
def zdU (K:PySem.W.Frag):Sp:=fun vs H Q _=>vs.length=5∧∃ (a b c d:Addr) (k:Int) (hs:List Int) (rs:List (List Int)) (left row:List Int),vs=[.ref a,.ref b,.ref c,.int k,.ref d]∧SqL K H a (hs.map V.int)∧LL K H b rs∧SqL K H c (left.map V.int)∧SqL K H d (row.map V.int)∧InB hs rs∧left.length=rs.length∧1≤k∧k≤hs.length∧∀ H',Same H H'→Q (.int (za5 hs rs left k row)) H'
theorem zfU (T:Txt K mg t):FnOk P w K mg base CX0 3 t.f_19 t.d_19 ["papers","readers","left","paper","row"] (zdU K):=by
 have G_2:=zb4 (P:=P) (w:=w) (base:=base) T;refine T.F_19.ok sc_19 (fun _ _ _ _ h=>h.1) fun cdv A outer s H vs Q E hr h=>by
  refine ⟨_,(zac (zbc PassesOwn.never rfl (zaO (K:=K) rfl (zan G_2 (hr.mono (by decide)) (by rfl) T.m_2 T.F_2.kp T.b_2 .nil zav (zaa (pv 0) (zaa (pv 1) (zaa (pv 3) pa_nil))))) (zar (i:=5) sc_19.nd rfl (Or.inl rfl))
   (zae (zaX (zfb (zaq (zdp (K:=K) rfl (zc0 hr)) (pv 5) (pv 4) (by with_unfolding_all rfl)) (zeR (zaq (op_gt) (zax (zaf (K:=K) rfl) (pv 2) (zap (op_sub) (pv 5) zad) (fun _ _=>rfl)) zad (zaB _)))).pt
   (zae (zal (pv 5))) pss_nil)))
   (zae (zal zad))),?_⟩
  obtain ⟨_,a,b,c,d,k,hs,rs,left,row,rfl,h1,h2,h3,h4,B,hl,k1,k2,q⟩:=h;have B1:=B.lp;have B2:=B.lr;symm;refine zcl h1 h2 k1 k2 (by omega) B.r2 fun p H2 f s e=>?_;have h3':=s.seq h3;have h4':=s.seq h4;refine zaW (SqL.of e) ?_;refine zce (xs:=(zag hs rs k).map V.int) (fun i σ H'=>(∃ v,σ=[some (.ref a),some (.ref b),some (.ref c),some (.int k),some (.ref d),v])∧H'=H2∧∀ j,j < i→okT left row ((zag hs rs k).getD j 0)=false) ⟨⟨none,rfl⟩,rfl,fun j hj=>absurd hj (by omega)⟩ ?_ ?_ ?_
  ·rintro i σ H' _ ⟨_,rfl,_⟩;exact SqL.of e
  ·rintro i y σ H' hy ⟨⟨v,rfl⟩,rfl,hall⟩;obtain ⟨hi,rfl⟩:=zcx hy;obtain ⟨x,x1,x2,x3,_⟩:=zkc hi;symm;have ends:okT left row ((zag hs rs k).getD i 0)=false→∀ j,j < i+1→okT left row ((zag hs rs k).getD j 0)=false:=fun z j hj=>by
    by_cases e:j=i
    ·rw [e];exact z
    ·exact hall j (by omega)
   refine zdj (fun g1=>?_) (fun g1=>?_)
   ·symm;refine zbN (fun g2=>?_) (fun g2=>?_)
    ·symm;have hok:okT left row ((zag hs rs k).getD i 0)=true:=by unfold okT;rw [decide_eq_false g1,decide_eq_true g2];rfl
     rw [← zi2 hi hok hall];exact q _ s
    ·symm;exact ⟨⟨_,rfl⟩,rfl,ends (by unfold okT;rw [decide_eq_false g2,Bool.and_false])⟩
   ·symm;refine iteF ?_;symm;exact ⟨⟨_,rfl⟩,rfl,ends (by unfold okT;rw [decide_eq_true g1];rfl)⟩
  ·rintro σ H' ⟨⟨v,rfl⟩,rfl,hall⟩;rw [List.length_map] at hall;symm;rw [← zhL (left:=left) (row:=row) hall];exact q _ s
theorem zgC {H:Hp} {a b c d:Addr} {k:Int} {hs:List Int} {rs:List (List Int)} {left row:List Int} {Q:VK} {E:XK} (h1:SqL K H a (hs.map V.int)) (h2:LL K H b rs) (h3:SqL K H c (left.map V.int)) (h4:SqL K H d (row.map V.int)) (B:InB hs rs) (hl:left.length=rs.length) (k1:1≤k) (k2:k≤hs.length) (q:∀ H',Same H H'→Q (.int (za5 hs rs left k row)) H'):zdU K [.ref a,.ref b,.ref c,.int k,.ref d] H Q E:=⟨rfl,a,b,c,d,k,hs,rs,left,row,rfl,h1,h2,h3,h4,B,hl,k1,k2,q⟩
def zb2 (K:PySem.W.Frag) (C:Addr):Sp:=fun vs H Q _=>vs.length=2∧∃ (x:Addr) (F:Addr→Prop) (st:ExS) (k:Int),vs=[.ref x,.int k]∧ExAt C H x F st∧InB st.hs st.rs∧st.dl.isSome=true∧1≤k∧k≤st.nm.length∧∀ H' F',ExFr H H' F F'→ExAt C H' x F' (zaK st (k-1).toNat)→Q (.int (zaF st (k-1).toNat)) H'
theorem zdA (T:Txt K mg t):FnOk P w K mg base CX0 4 t.f_41 t.d_41 ["self","paper"] (zb2 K t.C_Exam):=by
 have G_42:=zdc (P:=P) (w:=w) (base:=base) T;have G_19:=zfU (P:=P) (w:=w) (base:=base) T;have G_34:=zdS (P:=P) (w:=w) (base:=base) T;refine T.F_41.ok sc_41 (fun _ _ _ _ h=>h.1) fun cdv A outer s H vs Q E hr h=>by
  refine ⟨_,(zac (zaX (zbD (zaC (K:=K) rfl (zbq (pv 0) T.cl_Exam T.me_42 G_42 (hr.mono (by decide)) T.b_42 .nil zav (zaa (pv 1) pa_nil)) (fun _=>rfl)))
   (zae (zal zad)) pss_nil)
   (zac (zaL (i:=2) sc_41.nd rfl (Or.inl rfl) (zax (zaf (K:=K) rfl) (zaD (K:=K) rfl (pv 0)) (zap (op_sub) (pv 1) zad) (fun _ _=>rfl)))
   (zac (zaL (i:=3) sc_41.nd rfl (Or.inl rfl) (zan G_19 (hr.mono (by decide)) (by rfl) T.m_19 T.F_19.kp T.b_19 .nil zav (zaa (zaD (K:=K) rfl (pv 0)) (zaa (zaD (K:=K) rfl (pv 0)) (zaa (zbm (pv 0) T.cl_Exam T.me_34 G_34 (hr.mono (by decide)) T.b_34 .nil zav) (zaa (pv 1) (zaa (pv 2) pa_nil)))))))
   (zac (zaX (zaq (op_gt) (pv 3) zad (zaB _))
   (zae (zaG (zbW (K:=K) rfl PySem.F.plainAttrs_list PySem.F.slot_list_append PySem.F.type_list_append mt_append (pv 2) (zaa (pv 3) pa_nil)))) pss_nil)
   (zae (zal (pv 3))))))),?_⟩
  obtain ⟨_,x,F,st,k,rfl,E0,BB,hd,k1,k2,q⟩:=h;have B1:=BB.lp;have B2:=BB.lr;have E0':=E0;walk_at "hd";have lq:=I.lq;have ld:=I.ld;have l10:=I.wf.n10 BB;have hk:(k-1).toNat < st.nm.length:=by omega
  have hdic:=I.rd _ hk;have hrow:=I.rq _ hk;have hvk:=I.vk _ hk;have hlr:=(I.wf.row _ hk).len;symm;refine zdz E0' BB k1 k2 (fun Q z=>zeV (i:=1) rfl z) fun H1 s1=>?_;symm
  cases hn:zbz st (k-1).toNat with
  | false =>
    refine iteT ?_;have ht:zaF st (k-1).toNat=0:=by unfold zaF;rw [hn];rfl
    have hm:zaK st (k-1).toNat=st:=by unfold zaK;rw [ht];rfl
    rw [ht,hm] at q;symm;exact q H1 F (ExFr.same s1) (E0'.same s1)
  | true =>
    refine iteF ?_;have ht:zaF st (k-1).toNat=za5 st.hs st.rs (zgg st) (((k-1).toNat:Int)+1) (st.nm.getD (k-1).toNat []):=by unfold zaF;rw [hn];rfl
    have ek:((k-1).toNat:Int)+1=k:=by omega
    rw [ek] at ht;have E1:=E0'.same s1;have hob1:=s1 _ _ hob;have hhc1:=s1 _ _ hhc;symm;refine zda E1 BB fun p2 H2 f2 s2 e2=>?_;have s02:=s1.trans s2;have hrow2:=s02 _ _ hrow;have L:LL K H e.b st.rs:=⟨e.ps,SqL.of hhb,I.lp,I.rp⟩
    symm;refine zgC (SqL.of (s02 _ _ hha)) (L.same s02) (SqL.of e2) (SqL.of hrow2) BB (by unfold zgg zaZ;rw [List.length_map,List.length_range]) k1 (by have:=I.wf.ln hd;omega) fun H3 s3=>?_;rw [← ht];have s03:=s02.trans s3;have hrow3:=s03 _ _ hrow;symm;refine zbN (fun h0=>?_) (fun h0=>?_)
    ·symm;refine zaS hrow3 (by rw [List.length_map];omega) fun H4 b4 e4=>?_;symm;obtain ⟨d,hdl⟩:=Option.isSome_iff_exists.mp hd;obtain ⟨nm,en⟩:=d;have enm:st.nm=nm:=by unfold ExS.nm;rw [hdl];rfl
     have een:st.en=en:=by unfold ExS.en;rw [hdl];rfl
     have I3:ExIn t.C_Exam H3 e st kvs:=I.keep fun b o _ z=>s03 b o z;have hneed:=hn;unfold zbz at hneed;simp only [Bool.and_eq_true,decide_eq_true_eq] at hneed;obtain ⟨⟨n1,n2⟩,_⟩:=hneed;obtain ⟨f,s,r1,r2,r3,r4⟩:=I.wf.row _ hk;have hrw:st.nm.getD (k-1).toNat []=[f,s]:=by
      rcases r4 with r4 | ⟨t',r4,_⟩
      ·exact r4
      ·rw [r4] at n1;exact absurd n1 (by simp)
     have h0':0 < za5 st.hs st.rs (zgg st) k (st.nm.getD (k-1).toNat []):=by rw [← ht];exact h0
     have sp:=zcL h0';rw [← ht] at sp;have wn:∀ r∈st.nm.getD (k-1).toNat [],(zaH en (k-1).toNat r).isSome=true:=fun r hr=>by
      obtain ⟨p,hp⟩:=zgW n2 hr;rw [een] at hp;rw [hp];rfl
     have hm:zaK st (k-1).toNat={ st with dl:=some (nm.set (k-1).toNat (nm.getD (k-1).toNat []++[zaF st (k-1).toNat]),en) }:=by unfold zaK;rw [if_pos h0,enm,een]
     rw [hm] at q;rw [enm] at hrw hrow3 hk e4 wn sp;have I4:=I3.third (t:=zaF st (k-1).toNat) hdl hk hrw ⟨sp.1,sp.2.1⟩ (by rw [← hrw];exact sp.2.2.1) (wn f (by rw [hrw];simp)) (wn s (by rw [hrw];simp)) b4 e4;exact q H4 F ⟨fun b o eb nb=>by rw [b4 _ (fun z=>nb ((hF _).mpr (by rw [z];exact zjH (zcN (by omega)))))];exact s03 _ _ eb,fun b z=>.inl z⟩ ⟨e,kvs,rfl,hF,I4⟩
    ·symm;have hm:zaK st (k-1).toNat=st:=by unfold zaK;rw [if_neg h0]
     rw [hm] at q;exact q H3 F (ExFr.same s03) (E0'.same s03)
theorem zdK {K:PySem.W.Frag} {C x:Addr} {H:Hp} {F:Addr→Prop} {st:ExS} {k:Int} {Q:VK} {E:XK} {σ:L2.St} {tk:TE} (h:ExAt C H x F st) (B:InB st.hs st.rs) (hd:st.dl.isSome=true) (k1:1≤k) (k2:k≤st.nm.length) (hk:∀ Q:VK,Q (.int k) H→tk σ H Q) (q:∀ H' F',ExFr H H' F F'→ExAt C H' x F' (zaK st (k-1).toNat)→Q (.int (zaF st (k-1).toNat)) H'):zby C "name_third" (zb2 K C) E (zf0 tk tNil) σ (.ref x) H Q:=by
 obtain ⟨dx,fs,e,l⟩:=h.ob;exact zaM e (l _ (by decide +kernel)) (zfo (hk _ (zes ⟨rfl,x,F,st,k,rfl,h,B,hd,k1,k2,q⟩)))
def zdB (K:PySem.W.Frag) (C:Addr):Sp:=fun vs H Q _=>vs.length=4∧∃ (x:Addr) (F:Addr→Prop) (st:ExS) (k r p:Int),vs=[.ref x,.int k,.int r,.int p]∧ExAt C H x F st∧InB st.hs st.rs∧st.dl.isSome=true∧1≤k∧k≤st.nm.length∧r∈zaQ st.nm st.en (k-1).toNat∧0≤p∧p≤100∧st.en.length≤900∧∀ H' F',ExFr H H' F F'→ExAt C H' x F' (zaK (entS st (k-1).toNat r p) (k-1).toNat)→Q (.int (zaF (entS st (k-1).toNat r p) (k-1).toNat)) H'
theorem ze8 (T:Txt K mg t):FnOk P w K mg base CX0 5 t.f_25 t.d_25 ["self","paper","reader","points"] (zdB K t.C_Exam):=by
 have G_36:=zbH (P:=P) (w:=w) (base:=base) T;have G_16:=zbG (P:=P) (w:=w) (base:=base) T;have G_37:=zcu (P:=P) (w:=w) (base:=base) T;have G_17:=za7 (P:=P) (w:=w) (base:=base) T;have G_41:=zdA (P:=P) (w:=w) (base:=base) T;refine T.F_25.ok sc_25 (fun _ _ _ _ h=>h.1) fun cdv A outer s H vs Q E hr h=>by
  refine ⟨_,(zac (zaG (zbm (pv 0) T.cl_Exam T.me_36 G_36 (hr.mono (by decide)) T.b_36 .nil zav))
   (zac (zaG (zan G_16 (hr.mono (by decide)) (by rfl) T.m_16 T.F_16.kp T.b_16 .nil zav (zaa (pv 1) (zaa zad (zaa (zah (zaj (K:=K) rfl) (by rfl) T.z_len (by rfl) (zaa (zaD (K:=K) rfl (pv 0)) pa_nil)) pa_nil)))))
   (zac (zaG (zan G_16 (hr.mono (by decide)) (by rfl) T.m_16 T.F_16.kp T.b_16 .nil zav (zaa (pv 2) (zaa zad (zaa (zah (zaj (K:=K) rfl) (by rfl) T.z_len (by rfl) (zaa (zaD (K:=K) rfl (pv 0)) pa_nil)) pa_nil)))))
   (zac (zaG (zbq (pv 0) T.cl_Exam T.me_37 G_37 (hr.mono (by decide)) T.b_37 .nil zav (zaa (pv 1) (zaa (pv 2) pa_nil))))
   (zac (zaG (zan G_17 (hr.mono (by decide)) (by rfl) T.m_17 T.F_17.kp T.b_17 .nil zav (zaa (pv 3) (zaa (zcv (v:=.int 100) (by rfl) T.v_MOST_POINTS T.w_MOST_POINTS) pa_nil))))
   (zac (zig (zc0 hr) (zax (zaf (K:=K) rfl) (zaD (K:=K) rfl (pv 0)) (zap (op_sub) (pv 1) zad) (fun _ _=>rfl)) (pv 2) (pv 3) rfl)
   (zae (zal (zbq (pv 0) T.cl_Exam T.me_41 G_41 (hr.mono (by decide)) T.b_41 .nil zav (zaa (pv 1) pa_nil)))))))))),?_⟩
  obtain ⟨_,x,F,st,k,r,p,rfl,E0,BB,hd,k1,k2,hr',p0,p1,h900,q⟩:=h;have B1:=BB.lp;have B2:=BB.lr;have E0':=E0;walk_at "hd";have lq:=I.lq;have ld:=I.ld;have l10:=I.wf.n10 BB;have hk:(k-1).toNat < st.nm.length:=by omega
  have hdic:=I.rd _ hk;have hrow:=I.rq _ hk;have hvk:=I.vk _ hk;have hlr:=(I.wf.row _ hk).len;have hln:=I.wf.ln hd;have hrr:=(I.wf.row _ hk).rng (List.mem_filter.mp hr').1;have lp:=I.lp;symm;refine zdb E0' hd ?_;symm;refine zbp (by omega) (by omega) ?_;symm;refine zbp (by omega) (by omega) ?_;symm;refine zaM hob (ziL (zeJ (by decide +kernel))) ?_;symm;refine zcH E0' BB k1 k2 hr' fun H1 s1=>?_;symm;refine zbb (by omega) (by omega) ?_;have hob1:=s1 _ _ hob;have hhd1:=s1 _ _ hhd;have hdic1:=s1 _ _ hdic;have hsk:=I.sk _ hk;symm;refine zhs hdic1 (by omega) fun H2 b2 e2=>?_;obtain ⟨d,hdl⟩:=Option.isSome_iff_exists.mp hd;obtain ⟨nm,en⟩:=d;have enm:st.nm=nm:=by unfold ExS.nm;rw [hdl];rfl
  have een:st.en=en:=by unfold ExS.en;rw [hdl];rfl
  have I1:ExIn t.C_Exam H1 e st kvs:=I.keep fun b o _ z=>s1 b o z;have I2:=I1.enter (k:=(k-1).toNat) (r:=r) (pts:=p) hdl (by rw [← enm];exact hk) ⟨p0,p1⟩ b2 e2;have e2':entS st (k-1).toNat r p={ st with dl:=some (nm,en++[[((k-1).toNat:Int)+1,r,p]]) }:=by unfold entS;rw [enm,een]
  rw [← e2'] at I2;have E2:ExAt t.C_Exam H2 e.x F (entS st (k-1).toNat r p):=⟨e,_,rfl,hF,I2⟩
  have nm2:(entS st (k-1).toNat r p).nm=st.nm:=rfl;symm;refine zdK E2 BB rfl k1 (by rw [nm2];exact k2) (fun Q z=>zeV (i:=1) rfl z) fun H3 F3 f3 E3=>?_;refine q H3 F3 (ExFr.trans ?_ f3) E3;exact ⟨fun b o eb nb=>by rw [b2 _ (fun z=>nb ((hF _).mpr (by rw [z];exact zgV (zcN (by omega)))))];exact s1 _ _ eb,fun b z=>.inl z⟩
theorem zfV {K:PySem.W.Frag} {C x:Addr} {H:Hp} {F:Addr→Prop} {st:ExS} {k r p:Int} {Q:VK} {E:XK} (h:ExAt C H x F st) (B:InB st.hs st.rs) (hd:st.dl.isSome=true) (k1:1≤k) (k2:k≤st.nm.length) (hr:r∈zaQ st.nm st.en (k-1).toNat) (p0:0≤p) (p1:p≤100) (h9:st.en.length≤900) (q:∀ H' F',ExFr H H' F F'→ExAt C H' x F' (zaK (entS st (k-1).toNat r p) (k-1).toNat)→Q (.int (zaF (entS st (k-1).toNat r p) (k-1).toNat)) H'):zdB K C [.ref x,.int k,.int r,.int p] H Q E:=⟨rfl,x,F,st,k,r,p,rfl,h,B,hd,k1,k2,hr,p0,p1,h9,q⟩
def zeP (K:PySem.W.Frag):Sp:=fun vs H Q _=>vs.length=5∧∃ (a b l c:Addr) (k:Int) (hs:List Int) (rs nm:List (List Int)) (left:List Int),vs=[.ref a,.ref b,.ref l,.ref c,.int k]∧SqL K H a (hs.map V.int)∧LL K H b rs∧H l=some (.lst (left.map V.int))∧LL K H c nm∧InB hs rs∧left.length=rs.length∧1≤k∧k≤hs.length∧k≤nm.length∧Q (.bl (decide (0 < za5 hs rs left k (nm.getD (k-1).toNat [])))) H
theorem zhM (T:Txt K mg t):FnOk P w K mg base CX0 1 t.f_56 t.d_56 ["_law_homes","_law_staff","_law_left","_law_names","_law_paper"] (zeP K):=by
 refine T.F_56.ok sc_56 (fun _ _ _ _ h=>h.1) fun cdv A outer s H vs Q E hr h=>by
  refine ⟨_,(zac (zbc PassesOwn.never rfl (za8 (by rfl) T.z_range (zaa (zah (zaj (K:=K) rfl) (by rfl) T.z_len (by rfl) (zaa (pv 1) pa_nil)) pa_nil)) (zar (i:=5) sc_56.nd rfl (Or.inl rfl))
   (zae (zaX (zfb (zaq (zcS (K:=K) rfl hr.units0) (zax (zaf (K:=K) rfl) (zax (zaf (K:=K) rfl) (pv 1) (pv 5) (fun _ _=>rfl)) zad (fun _ _=>rfl)) (zax (zaf (K:=K) rfl) (pv 0) (zap (op_sub) (pv 4) zad) (fun _ _=>rfl)) (zaB _)) (zfb (zaq (op_gt) (zax (zaf (K:=K) rfl) (pv 2) (pv 5) (fun _ _=>rfl)) zad (zaB _)) (zeR (zaq (zdp (K:=K) rfl (zc0 hr)) (zap (op_addG) (pv 5) zad) (zax (zaf (K:=K) rfl) (pv 3) (zap (op_sub) (pv 4) zad) (fun _ _=>rfl)) (by with_unfolding_all rfl))))).pt
   (zae (zal zbe)) pss_nil)))
   (zae (zal zbe))),?_⟩
  obtain ⟨_,a,b,l,c,k,hs,rs,nm,left,rfl,ha,LB,el,LC,BB,hll,k1,k2,k3,q⟩:=h;have B1:=BB.lp;have B2:=BB.lr;obtain ⟨ps,hb,hlb,hrb⟩:=id LB;obtain ⟨qs,hc,hlc,hrc⟩:=id LC;have hk:(k-1).toNat < nm.length:=by omega
  have hrow:=hrc _ hk;generalize nm.getD (k-1).toNat []=row at *;symm;refine zco (by omega) (by omega) ?_;have en':((ps.length:Int)).toNat=rs.length:=by omega
  rw [en'];refine zbX (fun i σ H'=>(∃ v5,σ=[some (.ref a),some (.ref b),some (.ref l),some (.ref c),some (.int k),v5])∧H'=H∧∀ j,j < i→fitT hs rs left k row j=false) ⟨⟨none,rfl⟩,rfl,fun j hj=>absurd hj (by omega)⟩ ?_ ?_
  ·rintro i σ H' hi ⟨⟨v5,rfl⟩,rfl,hno⟩;have hsrow:=hrb i hi;have hs2:=BB.r2 i hi;have e0:(0:Int)+(i:Int)=(i:Int):=by omega
   have ei:((i:Nat):Int).toNat=i:=by omega
   rw [e0];have hft:fitT hs rs left k row i=(!decide ((rs.getD i []).getD 0 0=hs.getD (k-1).toNat 0) && decide (1≤left.getD i 0) && !decide ((i:Int)+1∈row)):=rfl;have skip:fitT hs rs left k row i=false→(∃ v5,[some (V.ref a),some (.ref b),some (.ref l),some (.ref c),some (.int k),some (.int (i:Int))]=[some (.ref a),some (.ref b),some (.ref l),some (.ref c),some (.int k),v5])∧H'=H'∧∀ j,j < i+1→fitT hs rs left k row j=false:=fun z=>⟨⟨_,rfl⟩,rfl,fun j hj=>by
    by_cases e:j=i
    ·rw [e];exact z
    ·exact hno j (by omega)⟩
   symm
   by_cases g1:(rs.getD i []).getD 0 0=hs.getD (k-1).toNat 0
   ·have g1':(rs.getD i []).getD (Int.toNat 0) 0=hs.getD (k-1).toNat 0:=g1;rw [decide_eq_true g1'];refine iteF ?_;refine iteF ?_;symm;exact skip (by rw [hft,decide_eq_true g1];rfl)
   have g1':¬(rs.getD i []).getD (Int.toNat 0) 0=hs.getD (k-1).toNat 0:=g1;rw [decide_eq_false g1'];refine iteT ?_;symm
   try rw [ei]
   refine zbN (fun g2=>?_) (fun g2=>?_)
   ·symm;refine zdj (fun g3=>?_) (fun g3=>?_)
    ·symm;have hok:fitT hs rs left k row i=true:=by rw [hft,decide_eq_false g1,decide_eq_false g3,decide_eq_true (show 1≤left.getD i 0 by omega)];rfl
     rw [decide_eq_true (show 0 < za5 hs rs left k row from zkW hi hok)] at q;exact q
    ·symm;exact skip (by rw [hft,decide_eq_true g3,Bool.not_true,Bool.and_false])
   ·refine iteF ?_;symm;exact skip (by rw [hft,decide_eq_false (show ¬1≤left.getD i 0 by omega),Bool.and_false];rfl)
  ·rintro σ H' ⟨⟨v5,rfl⟩,rfl,hno⟩;symm;rw [decide_eq_false (show ¬0 < za5 hs rs left k row from by unfold za5;rw [zgX hno];decide)] at q;exact q
theorem zi3 {H:Hp} {a b l c:Addr} {k:Int} {hs:List Int} {rs nm:List (List Int)} {left:List Int} {Q:VK} {E:XK} (h1:SqL K H a (hs.map V.int)) (h2:LL K H b rs) (el:H l=some (.lst (left.map V.int))) (h3:LL K H c nm) (B:InB hs rs) (hl:left.length=rs.length) (k1:1≤k) (k2:k≤hs.length) (k3:k≤nm.length) (q:Q (.bl (decide (0 < za5 hs rs left k (nm.getD (k-1).toNat [])))) H):zeP K [.ref a,.ref b,.ref l,.ref c,.int k] H Q E:=⟨rfl,a,b,l,c,k,hs,rs,nm,left,rfl,h1,h2,el,h3,B,hl,k1,k2,k3,q⟩
end
end Prf
namespace Prf
open PySem PySem.Spec PyProof.Rows L2
section
variable {P:Program} {w:World} {K:PySem.W.Frag} {mg:Str→Option Value} {base:Heap} {t:Adr}
local macro_rules | `(tactic| walk_at "rd1")=>`(tactic| ((with_reducible refine' zg3 ?h1 ?h2 ?_);(case h1=>walk_at "hp");(case h2=>omega)))
local macro_rules | `(tactic| walk_at "rd1")=>`(tactic| (with_reducible refine zei ?_))
local macro_rules | `(tactic| walk_at "rd1")=>`(tactic| (with_reducible refine zel ?_))
def Lim (rs nm:List (List Int)):Prop:=∀ j,j < rs.length→(cntB nm ((j:Int)+1):Int)≤(rs.getD j []).getD 1 0
theorem Lim.left {rs nm:List (List Int)} (L:Lim rs nm):∀ x∈zaZ rs nm,0≤x:=fun x hx=>by
 unfold zaZ at hx;obtain ⟨j,hj,rfl⟩:=List.mem_map.mp hx;have:=L j (List.mem_range.mp hj);omega
theorem Lim.named {st:ExS} {k:Nat} {r p:Int} (L:Lim st.rs st.nm) (hk:k < st.nm.length):Lim st.rs (zaK (entS st k r p) k).nm:=by
 by_cases h:0 < zaF (entS st k r p) k
 ·have hm:(zaK (entS st k r p) k).nm=st.nm.set k (st.nm.getD k []++[zaF (entS st k r p) k]):=by unfold zaK;rw [if_pos h];rfl
  have h0t:0 < za5 st.hs st.rs (zaZ st.rs st.nm) ((k:Int)+1) (st.nm.getD k [])∧zaF (entS st k r p) k=za5 st.hs st.rs (zaZ st.rs st.nm) ((k:Int)+1) (st.nm.getD k []):=by
   have c4':=h;unfold zaF at c4' ⊢
   cases hn':zbz (entS st k r p) k with
   | true=>rw [hn',if_pos rfl] at c4';rw [if_pos rfl];exact ⟨c4',rfl⟩
   | false=>rw [hn',if_neg (by decide)] at c4';exact absurd c4' (by decide)
  obtain ⟨s1,s2,s3,s4,s5⟩:=zcL h0t.1;rw [← h0t.2] at s1 s2 s3 s4;rw [hm];generalize zaF (entS st k r p) k=t at *;intro j hj;have h1:=L j hj;have h2:=zg2 (x:=(j:Int)+1) (r':=st.nm.getD k []++[t]) hk
  by_cases e:(j:Int)+1=t
  ·rw [e] at h2 h1 ⊢;rw [if_neg s3,if_pos (by simp)] at h2;have ej:(t-1).toNat=j:=by omega
   rw [ej] at s4;have e5:(zaZ st.rs st.nm).getD j 0=(st.rs.getD j []).getD 1 0-(cntB st.nm ((j:Int)+1):Int):=by
    unfold zaZ;rw [List.getD_eq_getElem?_getD,List.getElem?_map,List.getElem?_range hj];rfl
   rw [e5,e] at s4;omega
  ·have hiff:(j:Int)+1∈st.nm.getD k []++[t]↔(j:Int)+1∈st.nm.getD k []:=by simp [e]
   by_cases e2:(j:Int)+1∈st.nm.getD k []
   ·rw [if_pos e2,if_pos (hiff.mpr e2)] at h2;omega
   ·rw [if_neg e2,if_neg (fun z=>e2 (hiff.mp z))] at h2;omega
 ·have hm:zaK (entS st k r p) k=entS st k r p:=by unfold zaK;rw [if_neg h]
  rw [hm];exact L
theorem Nvr.mk0 {C:Addr} {H0 H7 H8 H9 H10:Hp} {x p8 p9 pg:Addr} {F:Addr→Prop} {st:ExS} {nm got:List (List Int)} (E:ExAt C H7 x F st) (B:InB st.hs st.rs) (S7:Same H0 H7) (nf:∀ c o,H0 c=some o→¬F c) (R8:RowsAt H7 p8 nm H8) (f9:H8 p9=none) (s9:Same H8 H9) (e9:H9 p9=some (.lst [])) (RG:RowsAt H9 pg got H10):∃ gs,gs.length=got.length∧Nvr C H0 H10 x p8 p9 pg gs F st nm [] got:=by
 obtain ⟨S8,n8,qs,q1,q2,q3,q4⟩:=R8;obtain ⟨SG,ng,gs,g1,g2,g3,g4⟩:=RG;have s07:=S7;have s79:=S8.trans s9;have s710:=s79.trans SG;have p8s:=s9 _ _ q1;have g9:∀ y∈gs,H9 y=none:=fun y hy=>by
  obtain ⟨i,hi,ei⟩:=L2.mem_getD (d:=0) hy;rw [← ei];exact (g4 i (by omega)).2.1
 have q8:∀ y∈qs,H7 y=none∧(∃ o,H8 y=some o)∧y≠p8:=fun y hy=>by
  obtain ⟨i,hi,ei⟩:=L2.mem_getD (d:=0) hy;rw [← ei];exact ⟨(q4 i (by omega)).2.1,⟨_,(q4 i (by omega)).1⟩,(q4 i (by omega)).2.2⟩
 have g0:pg∉gs:=fun z=>by
  obtain ⟨i,hi,ei⟩:=L2.mem_getD (d:=0) z;exact (g4 i (by omega)).2.2 ei
 have n89:p8≠p9:=fun z=>by rw [z,f9] at q1;cases q1
 have n8g:p8≠pg:=fun z=>by rw [z,ng] at p8s;cases p8s
 have n8s:p8∉gs:=fun z=>by rw [g9 _ z] at p8s;cases p8s
 have n9g:p9≠pg:=fun z=>by rw [z,ng] at e9;cases e9
 have n9s:p9∉gs:=fun z=>by rw [g9 _ z] at e9;cases e9
 have F9:∀ y,H9 y=none→¬F y:=fun y hy=>E.new (s79.free hy);refine ⟨gs,g2,S7.trans s710,nf,E.same s710,B,fun y hy=>?_,?_,⟨qs,⟨SG _ _ p8s,E.new n8,q2,fun i hi=>⟨SG _ _ (s9 _ _ (q4 i hi).1),E.new (q4 i hi).2.1⟩⟩,fun y hy=>?_⟩,⟨[],⟨SG _ _ e9,E.new (S8.free f9),rfl,fun i hi=>absurd hi (by simp)⟩,fun y hy=>by cases hy⟩,⟨g1,F9 _ ng,g2,fun i hi=>⟨(g4 i hi).1,F9 _ (g4 i hi).2.1⟩⟩⟩
 ·rcases List.mem_cons.mp hy with z | hy
  ·rw [z];exact S7.free n8
  rcases List.mem_cons.mp hy with z | hy
  ·rw [z];exact (S7.trans S8).free f9
  rcases List.mem_cons.mp hy with z | hy
  ·rw [z];exact (S7.trans s79).free ng
  ·exact (S7.trans s79).free (g9 y hy)
 ·simp only [List.nodup_cons,List.mem_cons,not_or];exact ⟨⟨n89,n8g,n8s⟩,⟨n9g,n9s⟩,g0,g3⟩
 ·obtain ⟨h1,⟨o,h2⟩,h3⟩:=q8 y hy;simp only [List.mem_cons,not_or];exact ⟨h3,(fun z=>by rw [z,f9] at h2;cases h2),(fun z=>by rw [z] at h2;rw [s9 _ _ h2] at ng;cases ng),(fun z=>by have:=g9 y z;rw [s9 _ _ h2] at this;cases this)⟩
theorem zjW {nm:List (List Int)} {k:Nat}:nm.set k (nm.getD k [])=nm:=by
 refine List.ext_getElem? fun j=>?_;rw [List.getElem?_set]
 by_cases e:k=j
 ·subst e;rw [if_pos rfl]
  by_cases h:k < nm.length
  ·rw [if_pos h,List.getElem?_eq_getElem h,List.getD_eq_getElem?_getD,List.getElem?_eq_getElem h];rfl
  ·rw [if_neg h,List.getElem?_eq_none (by omega)]
 ·rw [if_neg e]
def zfW (K:PySem.W.Frag):Sp:=fun vs H Q _=>vs.length=1∧∃ (a:Addr) (ns:List Int),vs=[.ref a]∧SqL K H a (ns.map V.int)∧ns.length≤63∧∀ H',Q (.bl true) H'
theorem zmk (T:Txt K mg t):FnOk P w K mg base CX0 23 t.f_57 t.d_57 ["_law_script"] (zfW K):=by
 have G_48:=zeu (P:=P) (w:=w) (base:=base) T;have G_53:=zgk (P:=P) (w:=w) (base:=base) T;have G_43:=zfL (P:=P) (w:=w) (base:=base) T;have G_51:=zgm (P:=P) (w:=w) (base:=base) T;have G_50:=zfM (P:=P) (w:=w) (base:=base) T;have G_30:=zek (P:=P) (w:=w) (base:=base) T;have G_45:=zfN (P:=P) (w:=w) (base:=base) T;have G_24:=zfQ (P:=P) (w:=w) (base:=base) T;have G_52:=zfR (P:=P) (w:=w) (base:=base) T;have G_54:=ze7 (P:=P) (w:=w) (base:=base) T;have G_47:=zgx (P:=P) (w:=w) (base:=base) T;have G_32:=zgy (P:=P) (w:=w) (base:=base) T;have G_46:=zeO (P:=P) (w:=w) (base:=base) T;have G_34:=zdS (P:=P) (w:=w) (base:=base) T;have G_55:=zfT (P:=P) (w:=w) (base:=base) T;have G_25:=ze8 (P:=P) (w:=w) (base:=base) T;have G_44:=zcF (P:=P) (w:=w) (base:=base) T;have G_56:=zhM (P:=P) (w:=w) (base:=base) T;refine T.F_57.ok sc_57 (fun _ _ _ _ h=>h.1) fun cdv A outer s H vs Q E hr h=>by
  refine ⟨_,(zac (zaL (i:=1) sc_57.nd rfl (Or.inl rfl) (zan G_48 (hr.mono (by decide)) (by rfl) T.m_48 T.F_48.kp T.b_48 .nil zav (zaa (pv 0) (zaa zad (zaa zad pa_nil)))))
   (zac (zaL (i:=2) sc_57.nd rfl (Or.inl rfl) (zan G_53 (hr.mono (by decide)) (by rfl) T.m_53 T.F_53.kp T.b_53 .nil zav (zaa (zan G_43 (hr.mono (by decide)) (by rfl) T.m_43 T.F_43.kp T.b_43 .nil zav (zaa (pv 0) (zaa zad pa_nil))) pa_nil)))
   (zac (zaL (i:=3) sc_57.nd rfl (Or.inl rfl) (zan G_51 (hr.mono (by decide)) (by rfl) T.m_51 T.F_51.kp T.b_51 .nil zav (zaa (zax (zaf (K:=K) rfl) (pv 1) zad (fun _ _=>rfl)) (zaa (zax (zaf (K:=K) rfl) (pv 1) zad (fun _ _=>rfl)) (zaa (pv 2) (zaa (zap (op_fdivB) (zan G_43 (hr.mono (by decide)) (by rfl) T.m_43 T.F_43.kp T.b_43 .nil zav (zaa (pv 0) (zaa zad pa_nil))) zad) pa_nil))))))
   (zac (zaX (zcM (zbD (zaC (K:=K) rfl (zan G_45 (hr.mono (by decide)) (by rfl) T.m_45 T.F_45.kp T.b_45 .nil zav (zaa (zbm (pv 3) T.cl_Exam T.me_24 G_24 (hr.mono (by decide)) T.b_24 .nil zav) (zaa zbe pa_nil))) (fun _=>rfl))) (zb5 (zbD (zaC (K:=K) rfl (zan G_50 (hr.mono (by decide)) (by rfl) T.m_50 T.F_50.kp T.b_50 .nil zav (zaa (zax (zaf (K:=K) rfl) (pv 1) zad (fun _ _=>rfl)) (zaa (zax (zaf (K:=K) rfl) (pv 1) zad (fun _ _=>rfl)) (zaa (zbm (pv 3) T.cl_Exam T.me_30 G_30 (hr.mono (by decide)) T.b_30 .nil zav) pa_nil)))) (fun _=>rfl))))).pt
   (zae (zal zbe)) pss_nil)
   (zac (zaL (i:=4) sc_57.nd rfl (Or.inl rfl) (zbm (pv 3) T.cl_Exam T.me_30 G_30 (hr.mono (by decide)) T.b_30 .nil zav))
   (zac (zaL (i:=5) sc_57.nd rfl (Or.inl rfl) (zaV pa_nil))
   (zac (zeC (i:=6) sc_57.nd rfl (Or.inl rfl) (by rfl) (zat (sc:=zab s_57) (XN:=["_law_script","_law_made","_law_step_here","_law_exam_here","_law_names","_law_entered","_law_got","_law_k","_law_left","_law_waiting","_law_cell","_law_one","_law_mine","_law_third","_law_apart_here"]) (N:=["_law_row_here"]) (own:=1) (js:=[]) rfl rfl (by decide +kernel)) rfl (zaO (K:=K) rfl (pv 4)) (fun _ _ _ _ _=>(zar (i:=0) (show List.Nodup [(Str.ofString "_law_row_here")] by decide +kernel) rfl (Or.inl rfl))) (fun _ _ _ _ _=>zbM) (fun _ _ _ _ _=>(zaV pa_nil)))
   (zac (zbc PassesOwn.never rfl (za8 (by rfl) T.z_range (zaa zad pa_nil)) (zar (i:=7) sc_57.nd rfl (Or.inl rfl))
   (zac (zaL (i:=8) sc_57.nd rfl (Or.inl rfl) (zan G_52 (hr.mono (by decide)) (by rfl) T.m_52 T.F_52.kp T.b_52 .nil zav (zaa (zax (zaf (K:=K) rfl) (pv 1) zad (fun _ _=>rfl)) (zaa (pv 4) pa_nil))))
   (zac (zaL (i:=9) sc_57.nd rfl (Or.inl rfl) (zan G_54 (hr.mono (by decide)) (by rfl) T.m_54 T.F_54.kp T.b_54 .nil zav (zaa (pv 4) (zaa (pv 5) pa_nil))))
   (zac (zaX (zcM (zaq (op_lt) (zah (zfw (K:=K) rfl rfl) (by rfl) T.z_min (by rfl) (zaa (pv 8) pa_nil)) zad (zaB _)) (zcM (zbD (zaC (K:=K) rfl (zan G_46 (hr.mono (by decide)) (by rfl) T.m_46 T.F_46.kp T.b_46 .nil zav (zaa (zbm (pv 3) T.cl_Exam T.me_34 G_34 (hr.mono (by decide)) T.b_34 .nil zav) (zaa (pv 8) pa_nil))) (fun _=>rfl))) (zb5 (zbD (zaC (K:=K) rfl (zan G_47 (hr.mono (by decide)) (by rfl) T.m_47 T.F_47.kp T.b_47 .nil zav (zaa (zbm (pv 3) T.cl_Exam T.me_32 G_32 (hr.mono (by decide)) T.b_32 .nil zav) (zaa (pv 9) pa_nil))) (fun _=>rfl)))))).pt
   (zae (zal zbe)) pss_nil)
   (zac (zaX (zaq (zcR (K:=K) rfl hr.units0) (pv 9) (zaV pa_nil) (zaB _))
   (zae ps_break) pss_nil)
   (zac (zaL (i:=10) sc_57.nd rfl (Or.inl rfl) (zan G_43 (hr.mono (by decide)) (by rfl) T.m_43 T.F_43.kp T.b_43 .nil zav (zaa (pv 0) (zaa (zap (op_addG) zad (pv 7)) pa_nil))))
   (zac (zaL (i:=11) sc_57.nd rfl (Or.inl rfl) (zax (zaf (K:=K) rfl) (pv 9) (zap (op_mod) (pv 10) (zah (zaj (K:=K) rfl) (by rfl) T.z_len (by rfl) (zaa (pv 9) pa_nil))) (fun _ _=>rfl)))
   (zac (zaL (i:=12) sc_57.nd rfl (Or.inl rfl) (zax (zaf (K:=K) rfl) (pv 6) (zap (op_sub) (zax (zaf (K:=K) rfl) (pv 11) zad (fun _ _=>rfl)) zad) (fun _ _=>rfl)))
   (zac (zaG (zbW (K:=K) rfl PySem.F.plainAttrs_list PySem.F.slot_list_append PySem.F.type_list_append mt_append (pv 12) (zaa (zan G_55 (hr.mono (by decide)) (by rfl) T.m_55 T.F_55.kp T.b_55 .nil zav (zaa (zap (op_fdivB) (pv 10) zad) (zaa (zah (zaj (K:=K) rfl) (by rfl) T.z_len (by rfl) (zaa (pv 12) pa_nil)) pa_nil))) pa_nil)))
   (zac (zaL (i:=13) sc_57.nd rfl (Or.inl rfl) (zbq (pv 3) T.cl_Exam T.me_25 G_25 (hr.mono (by decide)) T.b_25 .nil zav (zaa (zax (zaf (K:=K) rfl) (pv 11) zad (fun _ _=>rfl)) (zaa (zax (zaf (K:=K) rfl) (pv 11) zad (fun _ _=>rfl)) (zaa (zax (zaf (K:=K) rfl) (pv 12) (zmn un_neg zad) (fun _ _=>rfl)) pa_nil)))))
   (zac (zaG (zbW (K:=K) rfl PySem.F.plainAttrs_list PySem.F.slot_list_append PySem.F.type_list_append mt_append (pv 5) (zaa (pv 11) pa_nil)))
   (zac (zaL (i:=14) sc_57.nd rfl (Or.inl rfl) (zfd (zcd (zcR (K:=K) rfl hr.units0) (zah (zaj (K:=K) rfl) (by rfl) T.z_len (by rfl) (zaa (pv 12) pa_nil)) zad (zaB _)) (zfc (zcd (op_gt) (zah (call_abs) (by rfl) T.z_abs (by rfl) (zaa (zap (op_sub) (zax (zaf (K:=K) rfl) (pv 12) zad (fun _ _=>rfl)) (zax (zaf (K:=K) rfl) (pv 12) zad (fun _ _=>rfl))) pa_nil)) (pv 2) (zaB _)))))
   (zac (zaX (zcM (zbD (zaC (K:=K) rfl (zan G_44 (hr.mono (by decide)) (by rfl) T.m_44 T.F_44.kp T.b_44 .nil zav (zaa (pv 13) pa_nil)) (fun _=>rfl))) (zcM (zaq (op_lt) (pv 13) zad (zaB _)) (zb5 (zaq (op_gt) (pv 13) (zah (zaj (K:=K) rfl) (by rfl) T.z_len (by rfl) (zaa (zax (zaf (K:=K) rfl) (pv 1) zad (fun _ _=>rfl)) pa_nil)) (zaB _))))).pt
   (zae (zal zbe)) pss_nil)
   (zac (zaX (zaq (zcS (K:=K) rfl hr.units0) (zcd (op_gt) (pv 13) zad (zaB _)) (zfd (pv 14) (zfc (zan G_56 (hr.mono (by decide)) (by rfl) T.m_56 T.F_56.kp T.b_56 .nil zav (zaa (zax (zaf (K:=K) rfl) (pv 1) zad (fun _ _=>rfl)) (zaa (zax (zaf (K:=K) rfl) (pv 1) zad (fun _ _=>rfl)) (zaa (pv 8) (zaa (pv 4) (zaa (zax (zaf (K:=K) rfl) (pv 11) zad (fun _ _=>rfl)) pa_nil)))))))) (zaB _))
   (zae (zal zbe)) pss_nil)
   (zae (zj0 (zap (op_addG) (zax (zaf (K:=K) rfl) (pv 4) (zap (op_sub) (zax (zaf (K:=K) rfl) (pv 11) zad (fun _ _=>rfl)) zad) (fun _ _=>rfl)) (zde (zdi (K:=K) rfl) (zaV (zaa (pv 13) pa_nil)) po_none (zd7 (pv 13)))) (zjZ (pv 4) (zap (op_sub) (zax (zaf (K:=K) rfl) (pv 11) zad (fun _ _=>rfl)) zad) set_list)))))))))))))))))
   (zae (zal (zfd (zan G_46 (hr.mono (by decide)) (by rfl) T.m_46 T.F_46.kp T.b_46 .nil zav (zaa (zbm (pv 3) T.cl_Exam T.me_34 G_34 (hr.mono (by decide)) T.b_34 .nil zav) (zaa (zan G_52 (hr.mono (by decide)) (by rfl) T.m_52 T.F_52.kp T.b_52 .nil zav (zaa (zax (zaf (K:=K) rfl) (pv 1) zad (fun _ _=>rfl)) (zaa (pv 4) pa_nil))) pa_nil))) (zfc (zcd (op_ge) (zah (zfw (K:=K) rfl rfl) (by rfl) T.z_min (by rfl) (zaa (zan G_52 (hr.mono (by decide)) (by rfl) T.m_52 T.F_52.kp T.b_52 .nil zav (zaa (zax (zaf (K:=K) rfl) (pv 1) zad (fun _ _=>rfl)) (zaa (pv 4) pa_nil))) pa_nil)) zad (zaB _)))))))))))))),?_⟩
  obtain ⟨_,a,ns,rfl,hS,hl,q⟩:=h;symm;refine ze5 hS hl (by omega) (by omega) fun p ph ps pr sa ra hs rs rows H1 P1 A=>?_;have B:=A.inb;have B1:=B.lp;have B2:=B.lr;have hS1:=P1.same.seq hS;have ep:=P1.at_p;have eh:=P1.at_h;have es:=P1.at_s;symm;refine zhz fun H2 s2=>?_;have hst:=zin (zbK ns 0);generalize zf7 (zbK ns 0)=stp at *;have P2:=P1.mono s2;have hS2:=s2.seq hS1;have ep2:=P2.at_p;have eh2:=P2.at_h;have es2:=P2.at_s;symm;refine zhA (SqL.of eh2) P2.ls B hst.1 hst.2 fun x F H4 fx S4 nF E4=>?_;have ep4:=S4 _ _ ep2;obtain ⟨dx6,fs6,hob6,hlk6⟩:=E4.ob;symm;refine zaM hob6 (hlk6 _ (by decide +kernel)) ?_;symm;refine zgw E4 B rfl (fun F0=>absurd (F0 rows) (by rw [A.right];decide)) (fun tt FD H7 F7 f7 E7=>?_);obtain ⟨nF7,S7⟩:=f7.nf S4 nF;obtain ⟨hr,hmin⟩:zaT hs rs tt=true∧∀ rows,zaT hs rs rows=true→nbB tt rows=true:=FD;have RP:=zdm.mp hr;have hlen:=RP.len;symm;refine iteF ?_;have P7:=P2.mono S7;have ep7:=P7.at_p;have eh7:=P7.at_h;symm;refine zcW E7 B ⟨fun z=>absurd z (by simp),fun nm0 en0 z pa Ha Ra=>?_⟩;obtain ⟨rfl,rfl⟩:nm0=tt∧en0=[]:=by
   injection z with z;injection z with z1 z2;exact ⟨z1.symm,z2.symm⟩
  rw [zgY hr] at Ra;have Ea:=E7.same Ra.same;have Sa:=S7.trans Ra.same;have eha:=Ra.same _ _ eh7;obtain ⟨za,hza,hzal⟩:=Ra.lst;symm;refine zgo (SqL.of eha) (P7.ls.same Ra.same) B.r2 ⟨_,hza⟩ Ra.ll (by omega) (by omega) (by omega) fun Hb sb=>?_;symm;rw [hr];refine iteF ?_;have Eb:=Ea.same sb;have Sb:=Sa.trans sb;symm;refine zcW Eb B ⟨fun z=>absurd z (by simp),fun nm en z p8 H8 R8=>?_⟩;obtain ⟨rfl,rfl⟩:nm=nm0∧en=[]:=by
   injection z with z;injection z with z1 z2;exact ⟨z1.symm,z2.symm⟩
  rw [zgY hr] at R8;symm;refine zaA (by decide) fun p9 H9 f9 s9 e9=>?_;obtain ⟨qs0,hq0,hql,_,_⟩:=R8.rows;have hq9:=s9 _ _ hq0;symm;refine zaW (SqL.of hq9) ?_;refine zcf (zca (zcg.one (zbh (SqL.of hq9))) (by rw [List.length_map];omega) (fun _=>[]) (fun i H' Q' hi s q'=>?_) fun pg H10 RG=>?_)
  ·symm;exact zaA (by decide) fun l H2 f s2 e2=>q' l H2 f s2 e2
  have hgl:((List.range (qs0.map V.ref).length).map fun _=>([]:List Int))=gotB [] nm.length:=by rw [List.length_map,hql];rfl
  rw [hgl] at RG;obtain ⟨gs,hgsl,N0⟩:=Nvr.mk0 (st:=⟨hs,rs,stp,some (nm,[])⟩) Eb B Sb nF7 R8 f9 s9 e9 RG;walk_at "st";refine zdC (fun σ J=>∃ (F:Addr→Prop) (st:ExS) (v7 v8 v9 v10 v11 v12 v13 v14:Option V),σ=[some (.ref a),some (.ref p),some (.int stp),some (.ref x),some (.ref p8),some (.ref p9),some (.ref pg),v7,v8,v9,v10,v11,v12,v13,v14]∧Nvr t.C_Exam H2 J x p8 p9 pg gs F st st.nm (st.en.map (List.take 2)) (gotB st.en st.nm.length)∧st.hs=hs∧st.rs=rs∧Lim rs st.nm) ?_ ?_
  ·intro nx' hnx;symm;refine zco (by decide) (by decide) ?_;refine zbX (fun i σ J=>∃ (F:Addr→Prop) (st:ExS) (v7 v8 v9 v10 v11 v12 v13 v14:Option V),σ=[some (.ref a),some (.ref p),some (.int stp),some (.ref x),some (.ref p8),some (.ref p9),some (.ref pg),v7,v8,v9,v10,v11,v12,v13,v14]∧Nvr t.C_Exam H2 J x p8 p9 pg gs F st st.nm (st.en.map (List.take 2)) (gotB st.en st.nm.length)∧st.hs=hs∧st.rs=rs∧Lim rs st.nm∧st.step=stp∧Run st i∧Knw st∧st.dl.isSome=true) ⟨F7,⟨hs,rs,stp,some (nm,[])⟩,none,none,none,none,none,none,none,none,rfl,N0,rfl,rfl,RP.lim,rfl,Run.new,Knw.new,rfl⟩ ?_ ?_
   ·rintro i σ J hi ⟨F',st,v7,v8,v9,v10,v11,v12,v13,v14,rfl,N,rfl,rfl,LM,rfl,RN,KN,hdl⟩;have hi30:i < 30:=hi;have W:=N.ex.wf;have l10:=W.n10 N.inb;have hln:=W.ln hdl;have hle:=RN.len;have P':=P2.mono N.same;have ep':=P'.at_p;symm;refine zc8 P'.ls N.lc B2 (by omega) B.r2 fun wl J1 fl s1 el=>?_;have N1:=N.grow s1;have hll:(zaZ st.rs st.nm).length=st.rs.length:=by unfold zaZ;rw [List.length_map,List.length_range]
    symm;refine zfS N1.lc N1.le l10 RN.e3 W.row fun w2 J2 R2=>?_;have N2:=N1.grow R2.same;have el2:=R2.same _ _ el;have h2r:=A.two;have hdl3:=zl0 W;symm;refine zfy (SqL.of el2) (by omega) fun m hm hmin'=>?_;have hm0:=LM.left m hm;symm;refine zbN (fun z=>absurd z (by omega)) (fun _=>?_);symm;refine zda N2.ex N2.inb fun w3 J3 f3 s3 e3=>?_;have N3:=N2.grow s3;have el3:=s3 _ _ el2;have R3:=R2.mono s3;have e3:J3 w3=some (.lst ((zaZ st.rs st.nm).map V.int)):=e3;symm;refine zeq e3 (SqL.of el3) (by omega) ?_;rw [decide_eq_true rfl];symm;refine iteF ?_;symm;refine zhK N3.ex N3.inb fun w4 J4 R4=>?_;have N4:=N3.grow R4.same;have R5:=R3.mono R4.same;obtain ⟨z4,hz4,hz4l⟩:=R4.lst;symm;refine zhI ⟨_,hz4⟩ R4.ll R5.ll (by omega) (fun i hi=>by
     obtain ⟨k,r,_,_,e⟩:=ziN (x:=(dueB st.nm st.en).getD i []) (getD_mem hi);rw [e];show 2≤1000000;decide) ?_
    rw [decide_eq_true (show dueS st=dueB st.nm st.en from rfl)];symm;refine iteF ?_;obtain ⟨zs,hz,hzn⟩:=zjM R5;symm;refine zaA (by decide) fun w5 J5 g5 s5 e5=>?_;have N5:=N4.grow s5;have R6:=R5.mono s5;have el5:=s5 _ _ (R4.same _ _ el3);symm;refine zl6 (SqL.of (s5 _ _ hz)) (SqL.of e5) ?_;symm;refine zbN (fun g=>?_) (fun g=>?_)
    ·symm;exact hnx _ _ ⟨_,st,_,_,_,_,_,_,_,_,rfl,N5,rfl,rfl,LM⟩
    have hne:dueB st.nm st.en≠[]:=fun z=>g (hzn.mpr z);have hS5:=N5.same.seq hS2;obtain ⟨s1',n1',ps1,h1',h2',_,h3'⟩:=id R6;have hpos:0 < (dueB st.nm st.en).length:=List.length_pos_iff.mpr hne;symm;have hl:(ps1.length:Int)=((dueB st.nm st.en).length:Int):=by omega
    try rw [hl]
    generalize zbK ns (21+(0+(i:Int)))=c;have hm0:=Int.emod_nonneg c (show ((dueB st.nm st.en).length:Int)≠0 by omega);have hm1:=Int.emod_lt_of_pos c (show (0:Int) < (dueB st.nm st.en).length by omega);generalize hj:c % ((dueB st.nm st.en).length:Int)=j at *;have hj':j.toNat < (dueB st.nm st.en).length:=by omega
    symm;obtain ⟨k,r,hk,hr1,hx⟩:=ziN (getD_mem (d:=[]) hj');have hrow:=(h3' _ hj').1;have hone:J1 (ps1.getD j.toNat 0)=none:=(h3' _ hj').2.1;have hnew:=N1.ex.new hone;have hnm:ps1.getD j.toNat 0∉p8::p9::pg::gs:=fun z=>by
     have hall:∃ o,J1 (ps1.getD j.toNat 0)=some o:=by
      rcases List.mem_cons.mp z with z | z
      ·obtain ⟨qs,h,_⟩:=N1.names;exact ⟨_,by rw [z];exact h.1⟩
      rcases List.mem_cons.mp z with z | z
      ·obtain ⟨qs,h,_⟩:=N1.ents;exact ⟨_,by rw [z];exact h.1⟩
      rcases List.mem_cons.mp z with z | z
      ·exact ⟨_,by rw [z];exact N1.got.1⟩
      ·obtain ⟨i',hi',ei'⟩:=L2.mem_getD (d:=0) z;rw [← ei'];exact ⟨_,(N1.got.2.2.2 i' (by rw [← N1.got.2.2.1];exact hi')).1⟩
     obtain ⟨o,e⟩:=hall;rw [hone] at e;cases e
    rw [hx] at hrow;have hrow:J5 (ps1.getD j.toNat 0)=some (.lst [.int ((k:Int)+1),.int r]):=hrow;generalize ps1.getD j.toNat 0=w1 at *;have hlr:=(W.row k hk).len;have ek:((k:Int)+1-1).toNat=k:=by omega
    have hgg:=N5.got.1;have hgn:=N5.got.2.2.1;have hgB:=zjO st.en st.nm.length;have hg5:=(N5.got.2.2.2 k (by omega)).1;rw [zgj hk] at hg5;have hlt:=KN.lt W hk hr1;have hgln:=zgi st.en k;symm;rw [ek];symm;refine zgA (zcE st.en k).length (by omega) fun v J6 v0 v1 s6=>?_;have N6:=N5.grow s6;have hg6:=s6 _ _ hg5;symm;refine zaS hg6 (by rw [List.length_map];omega) fun J7 b7 e7=>?_;have N7:=N6.note (k:=k) (v:=v) (by omega) b7 (by rw [zgj hk];exact e7);rw [zgj hk] at N7;have mg:gs.getD k 0∈p8::p9::pg::gs:=by
     have:gs.getD k 0∈gs:=zcN (by omega);simp [List.mem_cons];exact .inr (.inr (.inr this))
    have hrow7:J7 w1=some (.lst [.int ((k:Int)+1),.int r]):=by rw [b7 _ (fun z=>hnm (by rw [z];exact mg))];exact s6 _ _ hrow
    have el7:J7 wl=some (.lst ((zaZ st.rs st.nm).map V.int)):=by
     rw [b7 _ (fun z=>by have:=(N.got.2.2.2 k (by omega)).1;rw [← z,fl] at this;cases this)];exact s6 _ _ el5
    obtain ⟨dx7,fs7,hob7,hlk7⟩:=N7.ex.ob;have h9:st.en.length≤900:=by omega
    symm;refine zaM hob7 (hlk7 _ (by decide +kernel)) ?_;symm;refine zhh (SqL.of e7) zjI ?_;symm;refine zfV N7.ex N7.inb hdl (by omega) (by omega) (by rw [ek];exact hr1) v0 v1 h9 fun J8 F8 f8 E8=>?_;rw [ek] at E8 ⊢;have N8:=N7.deed f8 E8 (by rw [zg0,zg1];exact N7.inb);have hrow8:J8 w1=some (.lst [.int ((k:Int)+1),.int r]):=f8.kp _ _ hrow7 hnew;have el8:J8 wl=some (.lst ((zaZ st.rs st.nm).map V.int)):=f8.kp _ _ el7 (N.ex.new fl);have hnew8:¬F8 w1:=fun z=>(f8.fp _ z).elim hnew fun z=>by rw [hrow7] at z;cases z
    obtain ⟨es8,he8,_⟩:=N8.ents;have hel:es8.length=st.en.length:=by rw [he8.2.2.1,List.length_map]
    have he8':=he8.1;symm;refine zaS he8' (by rw [List.length_map];omega) fun J9 b9 e9'=>?_;have N9:=N8.entry (row:=[(k:Int)+1,r]) hrow8 hnew8 hnm he8' b9 e9';have hrow9:J9 w1=some (.lst [.int ((k:Int)+1),.int r]):=by rw [b9 _ (fun z=>hnm (by rw [z];simp))];exact hrow8
    have el9:J9 wl=some (.lst ((zaZ st.rs st.nm).map V.int)):=by
     rw [b9 _ (fun z=>by obtain ⟨qs,h,_⟩:=N.ents;have:=h.1;rw [← z,fl] at this;cases this)];exact el8
    have hg9:=(N9.got.2.2.2 k (by rw [List.length_set];omega)).1;rw [za0 (by omega),if_pos rfl] at hg9;have hrng:=ziO (fit:=fitT st.hs st.rs (zaZ st.rs st.nm) ((k:Int)+1) (st.nm.getD k [])) (n:=st.rs.length) st.rs.length (Nat.le_refl _);have ht0:0≤zaF (entS st k r v) k∧zaF (entS st k r v) k≤st.rs.length:=by
     unfold zaF;split
     ·exact hrng
     ·omega
    have P9:=P2.mono N9.same;have ep9:=P9.at_p;have eh9:=P9.at_h;have es9:=P9.at_s;have hsl9:=P9.sl;have hck:(decide (0 < zaF (entS st k r v) k))=(zbz (entS st k r v) k && decide (0 < za5 st.hs st.rs (zaZ st.rs st.nm) ((k:Int)+1) (st.nm.getD k []))):=by
     unfold zaF
     cases zbz (entS st k r v) k with
     | true=>rfl
     | false=>rfl
    have hset:∀ t':List Int,(zaK (entS st k r v) k).nm=st.nm.set k (st.nm.getD k []++t')→Lim st.rs (st.nm.set k (st.nm.getD k []++t')):=fun t' z=>z▸LM.named hk;walk_at "st";refine zdC (fun σ J'=>σ=[some (.ref a),some (.ref p),some (.int st.step),some (.ref x),some (.ref p8),some (.ref p9),some (.ref pg),some (.int (0+(i:Int))),some (.ref wl),some (.ref w2),some (.int c),some (.ref w1),some (.ref (gs.getD k 0)),some (.int (zaF (entS st k r v) k)),some (.bl (zbz (entS st k r v) k))]∧J'=J9) ?_ ?_
    ·intro nx2 hnx2
     by_cases h1:(zcE st.en k).length=1
     ·obtain ⟨g0,hg0⟩:∃ g0,zcE st.en k=[g0]:=by
       match hh:zcE st.en k,h1 with
       | [g0],_=>exact ⟨g0,rfl⟩
      have hnd:=zjQ KN RN.nam W (p:=v) hk hr1 hg0;rw [hg0] at hg9;have hg9':J9 (gs.getD k 0)=some (.lst [.int g0,.int v]):=hg9;clear hg9;have hab:zbz (entS st k r v) k=true↔(g0-v > st.step∨v-g0 > st.step):=by
       rw [hnd];unfold zb9;rw [Bool.not_eq_true',decide_eq_false_iff_not];omega
      have hb:decide (st.step < (if g0-v < 0 then -(g0-v) else g0-v))=zbz (entS st k r v) k:=by
       rw [Bool.eq_iff_iff,decide_eq_true_iff,hab];split <;> omega
      walk_at "rdk";refine zbN (fun _=>?_) (fun z=>absurd rfl z);symm;refine ⟨_,rfl,?_⟩;symm;exact hnx2 _ _ ⟨by rw [← hb];rfl,rfl⟩
     ·have hnd:=zjR KN RN.nam W (p:=v) hk hr1 h1;rw [hnd] at hnx2;symm;refine zbN (fun z=>absurd (show (zcE st.en k).length=1 by rw [List.length_append,List.length_singleton] at z;omega) h1) (fun _=>?_);symm;exact hnx2 _ _ ⟨rfl,rfl⟩
    rintro σ J9' ⟨rfl,rfl⟩;symm;refine iteF ?_;symm;refine zbN (fun z=>absurd z (by omega)) (fun _=>?_);symm;refine zbN (fun z=>absurd z (by omega)) (fun _=>?_);walk_at "st";refine zdC (fun σ J'=>σ=[some (.ref a),some (.ref p),some (.int st.step),some (.ref x),some (.ref p8),some (.ref p9),some (.ref pg),some (.int (0+(i:Int))),some (.ref wl),some (.ref w2),some (.int c),some (.ref w1),some (.ref (gs.getD k 0)),some (.int (zaF (entS st k r v) k)),some (.bl (zbz (entS st k r v) k))]∧J'=J9') ?_ ?_
    ·intro nx3 hnx3;symm;refine zmw (fun hb=>?_) (fun hb=>?_)
     ·rw [hb,Bool.true_and] at hck;symm;refine zi3 (SqL.of eh9) P9.ls el9 N9.lc B hll (by omega) (by omega) (by omega) ?_;rw [ek];symm;rw [hck,decide_eq_true rfl];refine iteF ?_;symm;exact hnx3 _ _ ⟨rfl,rfl⟩
     ·rw [hb,Bool.false_and] at hck;symm;rw [hck,decide_eq_true rfl];refine iteF ?_;symm;exact hnx3 _ _ ⟨rfl,rfl⟩
    rintro σ J9 ⟨rfl,rfl⟩;obtain ⟨qs9,hq9,_⟩:=N9.names;have hq9r:=hq9.1;have hq9l:=hq9.2.2.1;have hq9k:=(hq9.2.2.2 k hk).1;have ht:∃ t':List Int,t'.length≤1∧cutV [V.int (zaF (entS st k r v) k)] none (some (zaF (entS st k r v) k))=t'.map V.int∧(zaK (entS st k r v) k).nm=st.nm.set k (st.nm.getD k []++t'):=by
     by_cases c4:0 < zaF (entS st k r v) k
     ·refine ⟨[zaF (entS st k r v) k],Nat.le_refl _,?_,by unfold zaK;rw [if_pos c4];rfl⟩;obtain ⟨n,hn⟩:∃ n:Nat,zaF (entS st k r v) k=((n+1:Nat):Int):=⟨(zaF (entS st k r v) k).toNat-1,by omega⟩
      rw [hn,zeW,List.take_succ_cons,List.take_nil];rfl
     ·have hz:zaF (entS st k r v) k=0:=by omega
      refine ⟨[],by decide,?_,by unfold zaK;rw [if_neg c4,List.append_nil,zjW];rfl⟩;rw [hz];exact zeW 0
    obtain ⟨t',ht1,ht2,ht3⟩:=ht;have R':=RN.enter (p:=v) W hk hr1;have KN':=KN.enter (p:=v) RN.nam W hk hr1;symm;rw [ek];symm;refine zaA (by simp) fun wa Ja ga sa' ea=>?_;symm;refine zb7 (SqL.of ea) fun wb Jb gb sb' eb=>?_;rw [ht2] at eb;have sab:=sa'.trans sb';symm;refine zgJ (sab _ _ hq9k) eb (by rw [List.length_map,List.length_map];omega) fun wc Jc gc sc ec=>?_;have s9c:=sab.trans sc;have Nc:=N9.grow s9c;have ec':Jc wc=some (.lst ((st.nm.getD k []++t').map V.int)):=by rw [ec,List.map_append]
    have ncF:¬F8 wc:=N9.ex.new (sab.free gc);have ncm:wc∉p8::p9::pg::gs:=fun z=>by
     have hall:∃ o,Jb wc=some o:=by
      rcases List.mem_cons.mp z with z | z
      ·exact ⟨_,by rw [z];exact sab _ _ hq9r⟩
      rcases List.mem_cons.mp z with z | z
      ·obtain ⟨qs,h,_⟩:=N9.ents;exact ⟨_,by rw [z];exact sab _ _ h.1⟩
      rcases List.mem_cons.mp z with z | z
      ·exact ⟨_,by rw [z];exact sab _ _ N9.got.1⟩
      ·obtain ⟨i',hi',ei'⟩:=L2.mem_getD (d:=0) z;rw [← ei'];exact ⟨_,sab _ _ (N9.got.2.2.2 i' (by rw [← N9.got.2.2.1];exact hi')).1⟩
     obtain ⟨o,e⟩:=hall;rw [gc] at e;cases e
    have hq8c:=s9c _ _ hq9r;have hrowc:=s9c _ _ hrow9;symm;refine zeX hq8c (by omega) (by rw [List.length_map];omega) fun Jd bd ed=>?_;rw [ek] at ed;have Nd:=Nc.name (k:=k) (row:=st.nm.getD k []++t') hk ec' ncF ncm hq8c bd (by rw [ed,List.map_set]);have een:(zaK (entS st k r v) k).en=st.en++[[(k:Int)+1,r,v]]:=by rw [ze4];rfl
    refine ⟨F8,zaK (entS st k r v) k,_,_,_,_,_,_,_,_,rfl,?_,by rw [zg0];rfl,by rw [zg1];rfl,LM.named hk,by rw [zhv];rfl,R',KN',zjL rfl⟩;rw [zee,een,List.map_append,ht3,show (entS st k r v).nm=st.nm from rfl,zjP hk];exact Nd
   ·rintro σ J ⟨F',st,v7,v8,v9,v10,v11,v12,v13,v14,rfl,N,h1,h2,LM,_⟩;exact hnx _ _ ⟨_,st,_,_,_,_,_,_,_,_,rfl,N,h1,h2,LM⟩
  rintro σ J ⟨F',st,v7,v8,v9,v10,v11,v12,v13,v14,rfl,N,rfl,rfl,LM⟩;have W:=N.ex.wf;have l10:=W.n10 N.inb;have hll:(zaZ st.rs st.nm).length=st.rs.length:=by unfold zaZ;rw [List.length_map,List.length_range]
  have h2r:=A.two;have P':=P2.mono N.same;have ep':=P'.at_p;symm;refine zda N.ex N.inb fun w3 J3 f3 s3 e3=>?_;have N3:=N.grow s3;have P3:=P2.mono N3.same;have ep3:=P3.at_p;have e3:J3 w3=some (.lst ((zaZ st.rs st.nm).map V.int)):=e3;symm;refine zc8 P3.ls N3.lc B2 (by omega) B.r2 fun wl J4 fl s4 el=>?_;have N4:=N3.grow s4;have P4:=P2.mono N4.same;have ep4:=P4.at_p;symm;refine zeq (s4 _ _ e3) (SqL.of el) (by omega) ?_;rw [decide_eq_true rfl];symm;refine iteT ?_;symm;refine zc8 P4.ls N4.lc B2 (by omega) B.r2 fun wm J5 fm s5 em=>?_;symm;refine zfy (SqL.of em) (by omega) fun m hm hmin'=>?_;have hm0:=LM.left m hm;symm;rw [decide_eq_true (show m≥0 by omega)];exact q _
theorem law_start {a:Addr} {ns:List Int} {H:Hp} (hl:ns.length≤63) (hS:SqL K H a (ns.map V.int)):zfW K [.ref a] H (fun v _=>v=.bl true) fun _ _ _=>False:=⟨rfl,a,ns,rfl,hS,hl,fun _=>rfl⟩
end
theorem zml {l:PySem.W.OpenLaw} {w:World} {K:PySem.W.Frag} {h:Heap} {mg:Str→Option Value} {fa:Addr} (X:K.In h) (G:h.Ns mainGlobals mg) (hfa:mg "law" = some (.ref fa))
  {C_Attempt:Addr} (aC_Attempt:PySem.W.nsIn K mainGlobals "Attempt" = some (some (.ref C_Attempt)))
  {C_Exam:Addr} (aC_Exam:PySem.W.nsIn K mainGlobals "Exam" = some (some (.ref C_Exam)))
  {tk_READERS_EACH:Tok}
  {tk_MOST_HOUSES:Tok}
  {tk_MOST_PAPERS:Tok}
  {tk_MOST_LIMIT:Tok}
  {tk_MOST_READERS:Tok}
  {tk_MOST_STEP:Tok}
  {tk_MOST_POINTS:Tok}
  (a0:PySem.W.nsIn K mainGlobals "_law_at" = some (some (.ref f0))) (l0:K.lookup f0=some ⟨oc0,od0,.func (PySem.W.fnOf "_law_at" "_law_at" (zam s_43) (zak s_43) (zab s_43) .none kV0 dc0 pm0 an0 cd0 ct0),sl0⟩) (c0:PySem.W.codeIn K cd0 "_law_at" = true) (k0:PySem.W.keepIn K (.ref f0)=true)
  (a1:PySem.W.nsIn K mainGlobals "_law_planted" = some (some (.ref f1))) (l1:K.lookup f1=some ⟨oc1,od1,.func (PySem.W.fnOf "_law_planted" "_law_planted" (zam s_48) (zak s_48) (zab s_48) .none kV1 dc1 pm1 an1 cd1 ct1),sl1⟩) (c1:PySem.W.codeIn K cd1 "_law_planted" = true) (k1:PySem.W.keepIn K (.ref f1)=true)
  (a2:PySem.W.nsIn K mainGlobals "_law_step" = some (some (.ref f2))) (l2:K.lookup f2=some ⟨oc2,od2,.func (PySem.W.fnOf "_law_step" "_law_step" (zam s_53) (zak s_53) (zab s_53) .none kV2 dc2 pm2 an2 cd2 ct2),sl2⟩) (c2:PySem.W.codeIn K cd2 "_law_step" = true) (k2:PySem.W.keepIn K (.ref f2)=true)
  (a3:PySem.W.findIn K (.ref C_Exam) "__init__" = some (some (.ref f3))) (i3:PySem.W.isFn K (.ref f3)=true) (l3:K.lookup f3=some ⟨oc3,od3,.func (PySem.W.fnOf "__init__" "Exam.__init__" (zam s_20) (zak s_20) (zab s_20) .none kV3 dc3 pm3 an3 cd3 ct3),sl3⟩) (c3:PySem.W.codeIn K cd3 "Exam.__init__" = true) (k3:PySem.W.keepIn K (.ref f3)=true)
  (a4:PySem.W.findIn K (.ref C_Exam) "refuse_behind_dealing" = some (some (.ref f4))) (i4:PySem.W.isFn K (.ref f4)=true) (l4:K.lookup f4=some ⟨oc4,od4,.func (PySem.W.fnOf "refuse_behind_dealing" "Exam.refuse_behind_dealing" (zam s_35) (zak s_35) (zab s_35) .none kV4 dc4 pm4 an4 cd4 ct4),sl4⟩) (c4:PySem.W.codeIn K cd4 "Exam.refuse_behind_dealing" = true) (k4:PySem.W.keepIn K (.ref f4)=true)
  (a5:PySem.W.nsIn K mainGlobals "refuse_out_of_bounds" = some (some (.ref f5))) (l5:K.lookup f5=some ⟨oc5,od5,.func (PySem.W.fnOf "refuse_out_of_bounds" "refuse_out_of_bounds" (zam s_17) (zak s_17) (zab s_17) .none kV5 dc5 pm5 an5 cd5 ct5),sl5⟩) (c5:PySem.W.codeIn K cd5 "refuse_out_of_bounds" = true) (k5:PySem.W.keepIn K (.ref f5)=true)
  (a6:PySem.W.findIn K (.ref C_Exam) "set_step" = some (some (.ref f6))) (i6:PySem.W.isFn K (.ref f6)=true) (l6:K.lookup f6=some ⟨oc6,od6,.func (PySem.W.fnOf "set_step" "Exam.set_step" (zam s_23) (zak s_23) (zab s_23) .none kV6 dc6 pm6 an6 cd6 ct6),sl6⟩) (c6:PySem.W.codeIn K cd6 "Exam.set_step" = true) (k6:PySem.W.keepIn K (.ref f6)=true)
  (a7:PySem.W.nsIn K mainGlobals "refuse_unknown" = some (some (.ref f7))) (l7:K.lookup f7=some ⟨oc7,od7,.func (PySem.W.fnOf "refuse_unknown" "refuse_unknown" (zam s_16) (zak s_16) (zab s_16) .none kV7 dc7 pm7 an7 cd7 ct7),sl7⟩) (c7:PySem.W.codeIn K cd7 "refuse_unknown" = true) (k7:PySem.W.keepIn K (.ref f7)=true)
  (a8:PySem.W.nsIn K mainGlobals "refuse_full" = some (some (.ref f8))) (l8:K.lookup f8=some ⟨oc8,od8,.func (PySem.W.fnOf "refuse_full" "refuse_full" (zam s_18) (zak s_18) (zab s_18) .none kV8 dc8 pm8 an8 cd8 ct8),sl8⟩) (c8:PySem.W.codeIn K cd8 "refuse_full" = true) (k8:PySem.W.keepIn K (.ref f8)=true)
  (a9:PySem.W.findIn K (.ref C_Exam) "bring_paper" = some (some (.ref f9))) (i9:PySem.W.isFn K (.ref f9)=true) (l9:K.lookup f9=some ⟨oc9,od9,.func (PySem.W.fnOf "bring_paper" "Exam.bring_paper" (zam s_21) (zak s_21) (zab s_21) .none kV9 dc9 pm9 an9 cd9 ct9),sl9⟩) (c9:PySem.W.codeIn K cd9 "Exam.bring_paper" = true) (k9:PySem.W.keepIn K (.ref f9)=true)
  (a10:PySem.W.findIn K (.ref C_Exam) "bring_reader" = some (some (.ref f10))) (i10:PySem.W.isFn K (.ref f10)=true) (l10:K.lookup f10=some ⟨oc10,od10,.func (PySem.W.fnOf "bring_reader" "Exam.bring_reader" (zam s_22) (zak s_22) (zab s_22) .none kV10 dc10 pm10 an10 cd10 ct10),sl10⟩) (c10:PySem.W.codeIn K cd10 "Exam.bring_reader" = true) (k10:PySem.W.keepIn K (.ref f10)=true)
  (a11:PySem.W.nsIn K mainGlobals "_law_exam" = some (some (.ref f11))) (l11:K.lookup f11=some ⟨oc11,od11,.func (PySem.W.fnOf "_law_exam" "_law_exam" (zam s_51) (zak s_51) (zab s_51) .none kV11 dc11 pm11 an11 cd11 ct11),sl11⟩) (c11:PySem.W.codeIn K cd11 "_law_exam" = true) (k11:PySem.W.keepIn K (.ref f11)=true)
  (a12:PySem.W.nsIn K mainGlobals "_law_whole" = some (some (.ref f12))) (l12:K.lookup f12=some ⟨oc12,od12,.func (PySem.W.fnOf "_law_whole" "_law_whole" (zam s_44) (zak s_44) (zab s_44) .none kV12 dc12 pm12 an12 cd12 ct12),sl12⟩) (c12:PySem.W.codeIn K cd12 "_law_whole" = true) (k12:PySem.W.keepIn K (.ref f12)=true)
  (a13:PySem.W.nsIn K mainGlobals "_law_pair" = some (some (.ref f13))) (l13:K.lookup f13=some ⟨oc13,od13,.func (PySem.W.fnOf "_law_pair" "_law_pair" (zam s_49) (zak s_49) (zab s_49) .none kV13 dc13 pm13 an13 cd13 ct13),sl13⟩) (c13:PySem.W.codeIn K cd13 "_law_pair" = true) (k13:PySem.W.keepIn K (.ref f13)=true)
  (a14:PySem.W.nsIn K mainGlobals "_law_right" = some (some (.ref f14))) (l14:K.lookup f14=some ⟨oc14,od14,.func (PySem.W.fnOf "_law_right" "_law_right" (zam s_50) (zak s_50) (zab s_50) .none kV14 dc14 pm14 an14 cd14 ct14),sl14⟩) (c14:PySem.W.codeIn K cd14 "_law_right" = true) (k14:PySem.W.keepIn K (.ref f14)=true)
  (a15:PySem.W.findIn K (.ref C_Exam) "dealing" = some (some (.ref f15))) (i15:PySem.W.isFn K (.ref f15)=true) (l15:K.lookup f15=some ⟨oc15,od15,.func (PySem.W.fnOf "dealing" "Exam.dealing" (zam s_30) (zak s_30) (zab s_30) .none kV15 dc15 pm15 an15 cd15 ct15),sl15⟩) (c15:PySem.W.codeIn K cd15 "Exam.dealing" = true) (k15:PySem.W.keepIn K (.ref f15)=true)
  (a16:PySem.W.nsIn K mainGlobals "_law_truth" = some (some (.ref f16))) (l16:K.lookup f16=some ⟨oc16,od16,.func (PySem.W.fnOf "_law_truth" "_law_truth" (zam s_45) (zak s_45) (zab s_45) .none kV16 dc16 pm16 an16 cd16 ct16),sl16⟩) (c16:PySem.W.codeIn K cd16 "_law_truth" = true) (k16:PySem.W.keepIn K (.ref f16)=true)
  (a17:PySem.W.nsIn K mainGlobals "pairs_of" = some (some (.ref f17))) (l17:K.lookup f17=some ⟨oc17,od17,.func (PySem.W.fnOf "pairs_of" "pairs_of" (zam s_12) (zak s_12) (zab s_12) .none kV17 dc17 pm17 an17 cd17 ct17),sl17⟩) (c17:PySem.W.codeIn K cd17 "pairs_of" = true) (k17:PySem.W.keepIn K (.ref f17)=true)
  (a18:PySem.W.nsIn K mainGlobals "may_read" = some (some (.ref f18))) (l18:K.lookup f18=some ⟨oc18,od18,.func (PySem.W.fnOf "may_read" "may_read" (zam s_1) (zak s_1) (zab s_1) .none kV18 dc18 pm18 an18 cd18 ct18),sl18⟩) (c18:PySem.W.codeIn K cd18 "may_read" = true) (k18:PySem.W.keepIn K (.ref f18)=true)
  (a19:PySem.W.nsIn K mainGlobals "readers_for" = some (some (.ref f19))) (l19:K.lookup f19=some ⟨oc19,od19,.func (PySem.W.fnOf "readers_for" "readers_for" (zam s_2) (zak s_2) (zab s_2) .none kV19 dc19 pm19 an19 cd19 ct19),sl19⟩) (c19:PySem.W.codeIn K cd19 "readers_for" = true) (k19:PySem.W.keepIn K (.ref f19)=true)
  (a20:PySem.W.nsIn K mainGlobals "times_in" = some (some (.ref f20))) (l20:K.lookup f20=some ⟨oc20,od20,.func (PySem.W.fnOf "times_in" "times_in" (zam s_9) (zak s_9) (zab s_9) .none kV20 dc20 pm20 an20 cd20 ct20),sl20⟩) (c20:PySem.W.codeIn K cd20 "times_in" = true) (k20:PySem.W.keepIn K (.ref f20)=true)
  (a21:PySem.W.nsIn K mainGlobals "left_after" = some (some (.ref f21))) (l21:K.lookup f21=some ⟨oc21,od21,.func (PySem.W.fnOf "left_after" "left_after" (zam s_8) (zak s_8) (zab s_8) .none kV21 dc21 pm21 an21 cd21 ct21),sl21⟩) (c21:PySem.W.codeIn K cd21 "left_after" = true) (k21:PySem.W.keepIn K (.ref f21)=true)
  (a22:PySem.W.nsIn K mainGlobals "keeps_to_limits" = some (some (.ref f22))) (l22:K.lookup f22=some ⟨oc22,od22,.func (PySem.W.fnOf "keeps_to_limits" "keeps_to_limits" (zam s_7) (zak s_7) (zab s_7) .none kV22 dc22 pm22 an22 cd22 ct22),sl22⟩) (c22:PySem.W.codeIn K cd22 "keeps_to_limits" = true) (k22:PySem.W.keepIn K (.ref f22)=true)
  (a23:PySem.W.findIn K (.ref C_Attempt) "__init__" = some (some (.ref f23))) (i23:PySem.W.isFn K (.ref f23)=true) (l23:K.lookup f23=some ⟨oc23,od23,.func (PySem.W.fnOf "__init__" "Attempt.__init__" (zam s_Attempt___init__) (zak s_Attempt___init__) (zab s_Attempt___init__) .none kV23 dc23 pm23 an23 cd23 ct23),sl23⟩) (c23:PySem.W.codeIn K cd23 "Attempt.__init__" = true) (k23:PySem.W.keepIn K (.ref f23)=true)
  (a24:PySem.W.findIn K (.ref C_Attempt) "free_reading" = some (some (.ref f24))) (i24:PySem.W.isFn K (.ref f24)=true) (l24:K.lookup f24=some ⟨oc24,od24,.func (PySem.W.fnOf "free_reading" "Attempt.free_reading" (zam s_Attempt_free_reading) (zak s_Attempt_free_reading) (zab s_Attempt_free_reading) .none kV24 dc24 pm24 an24 cd24 ct24),sl24⟩) (c24:PySem.W.codeIn K cd24 "Attempt.free_reading" = true) (k24:PySem.W.keepIn K (.ref f24)=true)
  (a25:PySem.W.findIn K (.ref C_Attempt) "find_reader" = some (some (.ref f25))) (i25:PySem.W.isFn K (.ref f25)=true) (l25:K.lookup f25=some ⟨oc25,od25,.func (PySem.W.fnOf "find_reader" "Attempt.find_reader" (zam s_Attempt_find_reader) (zak s_Attempt_find_reader) (zab s_Attempt_find_reader) .none kV25 dc25 pm25 an25 cd25 ct25),sl25⟩) (c25:PySem.W.codeIn K cd25 "Attempt.find_reader" = true) (k25:PySem.W.keepIn K (.ref f25)=true)
  (a26:PySem.W.nsIn K mainGlobals "readers_suffice" = some (some (.ref f26))) (l26:K.lookup f26=some ⟨oc26,od26,.func (PySem.W.fnOf "readers_suffice" "readers_suffice" (zam s_3) (zak s_3) (zab s_3) .none kV26 dc26 pm26 an26 cd26 ct26),sl26⟩) (c26:PySem.W.codeIn K cd26 "readers_suffice" = true) (k26:PySem.W.keepIn K (.ref f26)=true)
  (a27:PySem.W.nsIn K mainGlobals "with_limits" = some (some (.ref f27))) (l27:K.lookup f27=some ⟨oc27,od27,.func (PySem.W.fnOf "with_limits" "with_limits" (zam s_14) (zak s_14) (zab s_14) .none kV27 dc27 pm27 an27 cd27 ct27),sl27⟩) (c27:PySem.W.codeIn K cd27 "with_limits" = true) (k27:PySem.W.keepIn K (.ref f27)=true)
  (a28:PySem.W.nsIn K mainGlobals "can_go_on" = some (some (.ref f28))) (l28:K.lookup f28=some ⟨oc28,od28,.func (PySem.W.fnOf "can_go_on" "can_go_on" (zam s_13) (zak s_13) (zab s_13) .none kV28 dc28 pm28 an28 cd28 ct28),sl28⟩) (c28:PySem.W.codeIn K cd28 "can_go_on" = true) (k28:PySem.W.keepIn K (.ref f28)=true)
  (a29:PySem.W.nsIn K mainGlobals "first_row_behind" = some (some (.ref f29))) (l29:K.lookup f29=some ⟨oc29,od29,.func (PySem.W.fnOf "first_row_behind" "first_row_behind" (zam s_11) (zak s_11) (zab s_11) .none kV29 dc29 pm29 an29 cd29 ct29),sl29⟩) (c29:PySem.W.codeIn K cd29 "first_row_behind" = true) (k29:PySem.W.keepIn K (.ref f29)=true)
  (a30:PySem.W.nsIn K mainGlobals "first_dealing" = some (some (.ref f30))) (l30:K.lookup f30=some ⟨oc30,od30,.func (PySem.W.fnOf "first_dealing" "first_dealing" (zam s_10) (zak s_10) (zab s_10) .none kV30 dc30 pm30 an30 cd30 ct30),sl30⟩) (c30:PySem.W.codeIn K cd30 "first_dealing" = true) (k30:PySem.W.keepIn K (.ref f30)=true)
  (a31:PySem.W.findIn K (.ref C_Exam) "deal" = some (some (.ref f31))) (i31:PySem.W.isFn K (.ref f31)=true) (l31:K.lookup f31=some ⟨oc31,od31,.func (PySem.W.fnOf "deal" "Exam.deal" (zam s_24) (zak s_24) (zab s_24) .none kV31 dc31 pm31 an31 cd31 ct31),sl31⟩) (c31:PySem.W.codeIn K cd31 "Exam.deal" = true) (k31:PySem.W.keepIn K (.ref f31)=true)
  (a32:PySem.W.nsIn K mainGlobals "_law_spare" = some (some (.ref f32))) (l32:K.lookup f32=some ⟨oc32,od32,.func (PySem.W.fnOf "_law_spare" "_law_spare" (zam s_52) (zak s_52) (zab s_52) .none kV32 dc32 pm32 an32 cd32 ct32),sl32⟩) (c32:PySem.W.codeIn K cd32 "_law_spare" = true) (k32:PySem.W.keepIn K (.ref f32)=true)
  (a33:PySem.W.nsIn K mainGlobals "_law_wanted" = some (some (.ref f33))) (l33:K.lookup f33=some ⟨oc33,od33,.func (PySem.W.fnOf "_law_wanted" "_law_wanted" (zam s_54) (zak s_54) (zab s_54) .none kV33 dc33 pm33 an33 cd33 ct33),sl33⟩) (c33:PySem.W.codeIn K cd33 "_law_wanted" = true) (k33:PySem.W.keepIn K (.ref f33)=true)
  (a34:PySem.W.nsIn K mainGlobals "_law_row" = some (some (.ref f34))) (l34:K.lookup f34=some ⟨oc34,od34,.func (PySem.W.fnOf "_law_row" "_law_row" (zam s_46) (zak s_46) (zab s_46) .none kV34 dc34 pm34 an34 cd34 ct34),sl34⟩) (c34:PySem.W.codeIn K cd34 "_law_row" = true) (k34:PySem.W.keepIn K (.ref f34)=true)
  (a35:PySem.W.nsIn K mainGlobals "_law_rows" = some (some (.ref f35))) (l35:K.lookup f35=some ⟨oc35,od35,.func (PySem.W.fnOf "_law_rows" "_law_rows" (zam s_47) (zak s_47) (zab s_47) .none kV35 dc35 pm35 an35 cd35 ct35),sl35⟩) (c35:PySem.W.codeIn K cd35 "_law_rows" = true) (k35:PySem.W.keepIn K (.ref f35)=true)
  (a36:PySem.W.findIn K (.ref C_Exam) "due_readers" = some (some (.ref f36))) (i36:PySem.W.isFn K (.ref f36)=true) (l36:K.lookup f36=some ⟨oc36,od36,.func (PySem.W.fnOf "due_readers" "Exam.due_readers" (zam s_38) (zak s_38) (zab s_38) .none kV36 dc36 pm36 an36 cd36 ct36),sl36⟩) (c36:PySem.W.codeIn K cd36 "Exam.due_readers" = true) (k36:PySem.W.keepIn K (.ref f36)=true)
  (a37:PySem.W.findIn K (.ref C_Exam) "due" = some (some (.ref f37))) (i37:PySem.W.isFn K (.ref f37)=true) (l37:K.lookup f37=some ⟨oc37,od37,.func (PySem.W.fnOf "due" "Exam.due" (zam s_32) (zak s_32) (zab s_32) .none kV37 dc37 pm37 an37 cd37 ct37),sl37⟩) (c37:PySem.W.codeIn K cd37 "Exam.due" = true) (k37:PySem.W.keepIn K (.ref f37)=true)
  (a38:PySem.W.findIn K (.ref C_Exam) "left" = some (some (.ref f38))) (i38:PySem.W.isFn K (.ref f38)=true) (l38:K.lookup f38=some ⟨oc38,od38,.func (PySem.W.fnOf "left" "Exam.left" (zam s_34) (zak s_34) (zab s_34) .none kV38 dc38 pm38 an38 cd38 ct38),sl38⟩) (c38:PySem.W.codeIn K cd38 "Exam.left" = true) (k38:PySem.W.keepIn K (.ref f38)=true)
  (a39:PySem.W.nsIn K mainGlobals "_law_apart" = some (some (.ref f39))) (l39:K.lookup f39=some ⟨oc39,od39,.func (PySem.W.fnOf "_law_apart" "_law_apart" (zam s_55) (zak s_55) (zab s_55) .none kV39 dc39 pm39 an39 cd39 ct39),sl39⟩) (c39:PySem.W.codeIn K cd39 "_law_apart" = true) (k39:PySem.W.keepIn K (.ref f39)=true)
  (a40:PySem.W.findIn K (.ref C_Exam) "refuse_ahead_of_dealing" = some (some (.ref f40))) (i40:PySem.W.isFn K (.ref f40)=true) (l40:K.lookup f40=some ⟨oc40,od40,.func (PySem.W.fnOf "refuse_ahead_of_dealing" "Exam.refuse_ahead_of_dealing" (zam s_36) (zak s_36) (zab s_36) .none kV40 dc40 pm40 an40 cd40 ct40),sl40⟩) (c40:PySem.W.codeIn K cd40 "Exam.refuse_ahead_of_dealing" = true) (k40:PySem.W.keepIn K (.ref f40)=true)
  (a41:PySem.W.findIn K (.ref C_Exam) "refuse_not_due" = some (some (.ref f41))) (i41:PySem.W.isFn K (.ref f41)=true) (l41:K.lookup f41=some ⟨oc41,od41,.func (PySem.W.fnOf "refuse_not_due" "Exam.refuse_not_due" (zam s_37) (zak s_37) (zab s_37) .none kV41 dc41 pm41 an41 cd41 ct41),sl41⟩) (c41:PySem.W.codeIn K cd41 "Exam.refuse_not_due" = true) (k41:PySem.W.keepIn K (.ref f41)=true)
  (a42:PySem.W.findIn K (.ref C_Exam) "points_for" = some (some (.ref f42))) (i42:PySem.W.isFn K (.ref f42)=true) (l42:K.lookup f42=some ⟨oc42,od42,.func (PySem.W.fnOf "points_for" "Exam.points_for" (zam s_39) (zak s_39) (zab s_39) .none kV42 dc42 pm42 an42 cd42 ct42),sl42⟩) (c42:PySem.W.codeIn K cd42 "Exam.points_for" = true) (k42:PySem.W.keepIn K (.ref f42)=true)
  (a43:PySem.W.nsIn K mainGlobals "agree" = some (some (.ref f43))) (l43:K.lookup f43=some ⟨oc43,od43,.func (PySem.W.fnOf "agree" "agree" (zam s_15) (zak s_15) (zab s_15) .none kV43 dc43 pm43 an43 cd43 ct43),sl43⟩) (c43:PySem.W.codeIn K cd43 "agree" = true) (k43:PySem.W.keepIn K (.ref f43)=true)
  (a44:PySem.W.findIn K (.ref C_Exam) "needs_third" = some (some (.ref f44))) (i44:PySem.W.isFn K (.ref f44)=true) (l44:K.lookup f44=some ⟨oc44,od44,.func (PySem.W.fnOf "needs_third" "Exam.needs_third" (zam s_42) (zak s_42) (zab s_42) .none kV44 dc44 pm44 an44 cd44 ct44),sl44⟩) (c44:PySem.W.codeIn K cd44 "Exam.needs_third" = true) (k44:PySem.W.keepIn K (.ref f44)=true)
  (a45:PySem.W.nsIn K mainGlobals "third_for" = some (some (.ref f45))) (l45:K.lookup f45=some ⟨oc45,od45,.func (PySem.W.fnOf "third_for" "third_for" (zam s_19) (zak s_19) (zab s_19) .none kV45 dc45 pm45 an45 cd45 ct45),sl45⟩) (c45:PySem.W.codeIn K cd45 "third_for" = true) (k45:PySem.W.keepIn K (.ref f45)=true)
  (a46:PySem.W.findIn K (.ref C_Exam) "name_third" = some (some (.ref f46))) (i46:PySem.W.isFn K (.ref f46)=true) (l46:K.lookup f46=some ⟨oc46,od46,.func (PySem.W.fnOf "name_third" "Exam.name_third" (zam s_41) (zak s_41) (zab s_41) .none kV46 dc46 pm46 an46 cd46 ct46),sl46⟩) (c46:PySem.W.codeIn K cd46 "Exam.name_third" = true) (k46:PySem.W.keepIn K (.ref f46)=true)
  (a47:PySem.W.findIn K (.ref C_Exam) "enter" = some (some (.ref f47))) (i47:PySem.W.isFn K (.ref f47)=true) (l47:K.lookup f47=some ⟨oc47,od47,.func (PySem.W.fnOf "enter" "Exam.enter" (zam s_25) (zak s_25) (zab s_25) .none kV47 dc47 pm47 an47 cd47 ct47),sl47⟩) (c47:PySem.W.codeIn K cd47 "Exam.enter" = true) (k47:PySem.W.keepIn K (.ref f47)=true)
  (a48:PySem.W.nsIn K mainGlobals "_law_can" = some (some (.ref f48))) (l48:K.lookup f48=some ⟨oc48,od48,.func (PySem.W.fnOf "_law_can" "_law_can" (zam s_56) (zak s_56) (zab s_56) .none kV48 dc48 pm48 an48 cd48 ct48),sl48⟩) (c48:PySem.W.codeIn K cd48 "_law_can" = true) (k48:PySem.W.keepIn K (.ref f48)=true)
  (a49:PySem.W.nsIn K mainGlobals "law" = some (some (.ref f49))) (l49:K.lookup f49=some ⟨oc49,od49,.func (PySem.W.fnOf "law" "law" (zam s_57) (zak s_57) (zab s_57) .none kV49 dc49 pm49 an49 cd49 ct49),sl49⟩) (c49:PySem.W.codeIn K cd49 "law" = true) (k49:PySem.W.keepIn K (.ref f49)=true)
  (z_abs:PySem.W.nsIn K mainGlobals "abs" = some none)
  (z_all:PySem.W.nsIn K mainGlobals "all" = some none)
  (z_bool:PySem.W.nsIn K mainGlobals "bool" = some none)
  (z_enumerate:PySem.W.nsIn K mainGlobals "enumerate" = some none)
  (z_int:PySem.W.nsIn K mainGlobals "int" = some none)
  (z_isinstance:PySem.W.nsIn K mainGlobals "isinstance" = some none)
  (z_len:PySem.W.nsIn K mainGlobals "len" = some none)
  (z_list:PySem.W.nsIn K mainGlobals "list" = some none)
  (z_max:PySem.W.nsIn K mainGlobals "max" = some none)
  (z_min:PySem.W.nsIn K mainGlobals "min" = some none)
  (z_range:PySem.W.nsIn K mainGlobals "range" = some none)
  (z_sorted:PySem.W.nsIn K mainGlobals "sorted" = some none)
  (z_zip:PySem.W.nsIn K mainGlobals "zip" = some none)
  (pg_Attempt:PySem.W.plainGet K C_Attempt Str.empty=true) (hd_Attempt:PySem.W.hasDictIn K C_Attempt=true) (po_Attempt:PySem.W.plainOver K C_Attempt=true) (sa_Attempt:PySem.W.findIn K (.ref C_Attempt) "__setattr__" = some (some (.builtin "object.__setattr__"))) (mk_Attempt:PySem.W.makesIn K C_Attempt=true) (kc_Attempt:PySem.W.keepIn K (.ref C_Attempt)=true)
  (n_Attempt_allowed:PySem.W.findIn K (.ref C_Attempt) "allowed" = some none)
  (n_Attempt_given:PySem.W.findIn K (.ref C_Attempt) "given" = some none)
  (n_Attempt_spare:PySem.W.findIn K (.ref C_Attempt) "spare" = some none)
  (pg_Exam:PySem.W.plainGet K C_Exam Str.empty=true) (hd_Exam:PySem.W.hasDictIn K C_Exam=true) (po_Exam:PySem.W.plainOver K C_Exam=true) (sa_Exam:PySem.W.findIn K (.ref C_Exam) "__setattr__" = some (some (.builtin "object.__setattr__"))) (mk_Exam:PySem.W.makesIn K C_Exam=true) (kc_Exam:PySem.W.keepIn K (.ref C_Exam)=true)
  (n_Exam_paper_houses:PySem.W.findIn K (.ref C_Exam) "paper_houses" = some none)
  (n_Exam_reader_rows:PySem.W.findIn K (.ref C_Exam) "reader_rows" = some none)
  (n_Exam_widest_step:PySem.W.findIn K (.ref C_Exam) "widest_step" = some none)
  (n_Exam_is_dealt:PySem.W.findIn K (.ref C_Exam) "is_dealt" = some none)
  (n_Exam_named_readers:PySem.W.findIn K (.ref C_Exam) "named_readers" = some none)
  (n_Exam_entered_points:PySem.W.findIn K (.ref C_Exam) "entered_points" = some none)
  (v_READERS_EACH:PySem.W.nsIn K mainGlobals "READERS_EACH" = some (some (.int 2 tk_READERS_EACH)))
  (v_MOST_HOUSES:PySem.W.nsIn K mainGlobals "MOST_HOUSES" = some (some (.int 6 tk_MOST_HOUSES)))
  (v_MOST_PAPERS:PySem.W.nsIn K mainGlobals "MOST_PAPERS" = some (some (.int 10 tk_MOST_PAPERS)))
  (v_MOST_LIMIT:PySem.W.nsIn K mainGlobals "MOST_LIMIT" = some (some (.int 30 tk_MOST_LIMIT)))
  (v_MOST_READERS:PySem.W.nsIn K mainGlobals "MOST_READERS" = some (some (.int 8 tk_MOST_READERS)))
  (v_MOST_STEP:PySem.W.nsIn K mainGlobals "MOST_STEP" = some (some (.int 100 tk_MOST_STEP)))
  (v_MOST_POINTS:PySem.W.nsIn K mainGlobals "MOST_POINTS" = some (some (.int 100 tk_MOST_POINTS)))
  : ∃ fd:FuncData,(∀ (s:Shared) (v:Value),BindsTo s fd ⟨[v],[]⟩ [("_law_script",v)])∧∀ base:Heap,K.In base→base.Ns mainGlobals mg→FnOk l.prog w K mg base CX0 23 fa fd ["_law_script"] (zfW K):=by
 have e:=hfa.symm.trans (PySem.W.mg_of X G a49)
 cases e
 have F0:=zay (st:=s_43) l0 c0 k0;have F1:=zay (st:=s_48) l1 c1 k1;have F2:=zay (st:=s_53) l2 c2 k2;have F3:=zay (st:=s_20) l3 c3 k3;have F4:=zay (st:=s_35) l4 c4 k4;have F5:=zay (st:=s_17) l5 c5 k5;have F6:=zay (st:=s_23) l6 c6 k6;have F7:=zay (st:=s_16) l7 c7 k7;have F8:=zay (st:=s_18) l8 c8 k8;have F9:=zay (st:=s_21) l9 c9 k9;have F10:=zay (st:=s_22) l10 c10 k10;have F11:=zay (st:=s_51) l11 c11 k11;have F12:=zay (st:=s_44) l12 c12 k12;have F13:=zay (st:=s_49) l13 c13 k13;have F14:=zay (st:=s_50) l14 c14 k14;have F15:=zay (st:=s_30) l15 c15 k15;have F16:=zay (st:=s_45) l16 c16 k16;have F17:=zay (st:=s_12) l17 c17 k17;have F18:=zay (st:=s_1) l18 c18 k18;have F19:=zay (st:=s_2) l19 c19 k19;have F20:=zay (st:=s_9) l20 c20 k20;have F21:=zay (st:=s_8) l21 c21 k21;have F22:=zay (st:=s_7) l22 c22 k22;have F23:=zay (st:=s_Attempt___init__) l23 c23 k23;have F24:=zay (st:=s_Attempt_free_reading) l24 c24 k24;have F25:=zay (st:=s_Attempt_find_reader) l25 c25 k25;have F26:=zay (st:=s_3) l26 c26 k26;have F27:=zay (st:=s_14) l27 c27 k27;have F28:=zay (st:=s_13) l28 c28 k28;have F29:=zay (st:=s_11) l29 c29 k29;have F30:=zay (st:=s_10) l30 c30 k30;have F31:=zay (st:=s_24) l31 c31 k31;have F32:=zay (st:=s_52) l32 c32 k32;have F33:=zay (st:=s_54) l33 c33 k33;have F34:=zay (st:=s_46) l34 c34 k34;have F35:=zay (st:=s_47) l35 c35 k35;have F36:=zay (st:=s_38) l36 c36 k36;have F37:=zay (st:=s_32) l37 c37 k37;have F38:=zay (st:=s_34) l38 c38 k38;have F39:=zay (st:=s_55) l39 c39 k39;have F40:=zay (st:=s_36) l40 c40 k40;have F41:=zay (st:=s_37) l41 c41 k41;have F42:=zay (st:=s_39) l42 c42 k42;have F43:=zay (st:=s_15) l43 c43 k43;have F44:=zay (st:=s_42) l44 c44 k44;have F45:=zay (st:=s_19) l45 c45 k45;have F46:=zay (st:=s_41) l46 c46 k46;have F47:=zay (st:=s_25) l47 c47 k47;have F48:=zay (st:=s_56) l48 c48 k48;have F49:=zay (st:=s_57) l49 c49 k49;have T:Txt K mg ⟨_,_,_,_,_,_,_,_,_,_,_,_,_,_,_,_,_,_,_,_,_,_,_,_,_,_,_,_,_,_,_,_,_,_,_,_,_,_,_,_,_,_,_,_,_,_,_,_,_,_,_,_,_,_,_,_,_,_,_,_,_,_,_,_,_,_,_,_,_,_,_,_,_,_,_,_,_,_,_,_,_,_,_,_,_,_,_,_,_,_,_,_,_,_,_,_,_,_,_,_,_,_,_,_,_,_,_,_,_⟩:=⟨F0,F0.binds (ps:=["_law_script","_law_k"]) (fun _ _ _ _ _ _ us hl=>match us,hl with | [_,_],_=>rfl),PySem.W.mg_of X G a0,F1,F1.binds (ps:=["_law_script","_law_first","_law_least"]) (fun _ _ _ _ _ _ us hl=>match us,hl with | [_,_,_],_=>rfl),PySem.W.mg_of X G a1,F2,F2.binds (ps:=["_law_cell"]) (fun _ _ _ _ _ _ us hl=>match us,hl with | [_],_=>rfl),PySem.W.mg_of X G a2,F3,F3.binds (ps:=["self"]) (fun _ _ _ _ _ _ us hl=>match us,hl with | [_],_=>rfl),⟨mk_Exam,a3,i3,kc_Exam⟩,F4,F4.binds (ps:=["self"]) (fun _ _ _ _ _ _ us hl=>match us,hl with | [_],_=>rfl),⟨a4,i4,k4⟩,F5,F5.binds (ps:=["number","most"]) (fun _ _ _ _ _ _ us hl=>match us,hl with | [_,_],_=>rfl),PySem.W.mg_of X G a5,F6,F6.binds (ps:=["self","step"]) (fun _ _ _ _ _ _ us hl=>match us,hl with | [_,_],_=>rfl),⟨a6,i6,k6⟩,F7,F7.binds (ps:=["number","least","most"]) (fun _ _ _ _ _ _ us hl=>match us,hl with | [_,_,_],_=>rfl),PySem.W.mg_of X G a7,F8,F8.binds (ps:=["many","most"]) (fun _ _ _ _ _ _ us hl=>match us,hl with | [_,_],_=>rfl),PySem.W.mg_of X G a8,F9,F9.binds (ps:=["self","house"]) (fun _ _ _ _ _ _ us hl=>match us,hl with | [_,_],_=>rfl),⟨a9,i9,k9⟩,F10,F10.binds (ps:=["self","house","limit"]) (fun _ _ _ _ _ _ us hl=>match us,hl with | [_,_,_],_=>rfl),⟨a10,i10,k10⟩,F11,F11.binds (ps:=["_law_homes","_law_staff","_law_step_here","_law_turn"]) (fun _ _ _ _ _ _ us hl=>match us,hl with | [_,_,_,_],_=>rfl),PySem.W.mg_of X G a11,F12,F12.binds (ps:=["_law_found"]) (fun _ _ _ _ _ _ us hl=>match us,hl with | [_],_=>rfl),PySem.W.mg_of X G a12,F13,F13.binds (ps:=["_law_staff","_law_house","_law_row_here"]) (fun _ _ _ _ _ _ us hl=>match us,hl with | [_,_,_],_=>rfl),PySem.W.mg_of X G a13,F14,F14.binds (ps:=["_law_homes","_law_staff","_law_rows_here"]) (fun _ _ _ _ _ _ us hl=>match us,hl with | [_,_,_],_=>rfl),PySem.W.mg_of X G a14,F15,F15.binds (ps:=["self"]) (fun _ _ _ _ _ _ us hl=>match us,hl with | [_],_=>rfl),⟨a15,i15,k15⟩,F16,F16.binds (ps:=["_law_found","_law_due"]) (fun _ _ _ _ _ _ us hl=>match us,hl with | [_,_],_=>rfl),PySem.W.mg_of X G a16,F17,F17.binds (ps:=["numbers"]) (fun _ _ _ _ _ _ us hl=>match us,hl with | [_],_=>rfl),PySem.W.mg_of X G a17,F18,F18.binds (ps:=["papers","readers","paper","reader"]) (fun _ _ _ _ _ _ us hl=>match us,hl with | [_,_,_,_],_=>rfl),PySem.W.mg_of X G a18,F19,F19.binds (ps:=["papers","readers","paper"]) (fun _ _ _ _ _ _ us hl=>match us,hl with | [_,_,_],_=>rfl),PySem.W.mg_of X G a19,F20,F20.binds (ps:=["rows","reader"]) (fun _ _ _ _ _ _ us hl=>match us,hl with | [_,_],_=>rfl),PySem.W.mg_of X G a20,F21,F21.binds (ps:=["readers","rows"]) (fun _ _ _ _ _ _ us hl=>match us,hl with | [_,_],_=>rfl),PySem.W.mg_of X G a21,F22,F22.binds (ps:=["readers","rows"]) (fun _ _ _ _ _ _ us hl=>match us,hl with | [_,_],_=>rfl),PySem.W.mg_of X G a22,F23,F23.binds (ps:=["self","papers","readers"]) (fun _ _ _ _ _ _ us hl=>match us,hl with | [_,_,_],_=>rfl),⟨mk_Attempt,a23,i23,kc_Attempt⟩,F24,F24.binds (ps:=["self","reader","asked"]) (fun _ _ _ _ _ _ us hl=>match us,hl with | [_,_,_],_=>rfl),⟨a24,i24,k24⟩,F25,F25.binds (ps:=["self","paper","asked"]) (fun _ _ _ _ _ _ us hl=>match us,hl with | [_,_,_],_=>rfl),⟨a25,i25,k25⟩,F26,F26.binds (ps:=["papers","readers"]) (fun _ _ _ _ _ _ us hl=>match us,hl with | [_,_],_=>rfl),PySem.W.mg_of X G a26,F27,F27.binds (ps:=["readers","limits"]) (fun _ _ _ _ _ _ us hl=>match us,hl with | [_,_],_=>rfl),PySem.W.mg_of X G a27,F28,F28.binds (ps:=["papers","readers","rows"]) (fun _ _ _ _ _ _ us hl=>match us,hl with | [_,_,_],_=>rfl),PySem.W.mg_of X G a28,F29,F29.binds (ps:=["papers","readers","rows"]) (fun _ _ _ _ _ _ us hl=>match us,hl with | [_,_,_],_=>rfl),PySem.W.mg_of X G a29,F30,F30.binds (ps:=["papers","readers"]) (fun _ _ _ _ _ _ us hl=>match us,hl with | [_,_],_=>rfl),PySem.W.mg_of X G a30,F31,F31.binds (ps:=["self"]) (fun _ _ _ _ _ _ us hl=>match us,hl with | [_],_=>rfl),⟨a31,i31,k31⟩,F32,F32.binds (ps:=["_law_staff","_law_names"]) (fun _ _ _ _ _ _ us hl=>match us,hl with | [_,_],_=>rfl),PySem.W.mg_of X G a32,F33,F33.binds (ps:=["_law_names","_law_entered"]) (fun _ _ _ _ _ _ us hl=>match us,hl with | [_,_],_=>rfl),PySem.W.mg_of X G a33,F34,F34.binds (ps:=["_law_found","_law_due"]) (fun _ _ _ _ _ _ us hl=>match us,hl with | [_,_],_=>rfl),PySem.W.mg_of X G a34,F35,F35.binds (ps:=["_law_found","_law_due"]) (fun _ _ _ _ _ _ us hl=>match us,hl with | [_,_],_=>rfl),PySem.W.mg_of X G a35,F36,F36.binds (ps:=["self","paper"]) (fun _ _ _ _ _ _ us hl=>match us,hl with | [_,_],_=>rfl),⟨a36,i36,k36⟩,F37,F37.binds (ps:=["self"]) (fun _ _ _ _ _ _ us hl=>match us,hl with | [_],_=>rfl),⟨a37,i37,k37⟩,F38,F38.binds (ps:=["self"]) (fun _ _ _ _ _ _ us hl=>match us,hl with | [_],_=>rfl),⟨a38,i38,k38⟩,F39,F39.binds (ps:=["_law_cell","_law_before"]) (fun _ _ _ _ _ _ us hl=>match us,hl with | [_,_],_=>rfl),PySem.W.mg_of X G a39,F40,F40.binds (ps:=["self"]) (fun _ _ _ _ _ _ us hl=>match us,hl with | [_],_=>rfl),⟨a40,i40,k40⟩,F41,F41.binds (ps:=["self","paper","reader"]) (fun _ _ _ _ _ _ us hl=>match us,hl with | [_,_,_],_=>rfl),⟨a41,i41,k41⟩,F42,F42.binds (ps:=["self","paper"]) (fun _ _ _ _ _ _ us hl=>match us,hl with | [_,_],_=>rfl),⟨a42,i42,k42⟩,F43,F43.binds (ps:=["one","other","step"]) (fun _ _ _ _ _ _ us hl=>match us,hl with | [_,_,_],_=>rfl),PySem.W.mg_of X G a43,F44,F44.binds (ps:=["self","paper"]) (fun _ _ _ _ _ _ us hl=>match us,hl with | [_,_],_=>rfl),⟨a44,i44,k44⟩,F45,F45.binds (ps:=["papers","readers","left","paper","row"]) (fun _ _ _ _ _ _ us hl=>match us,hl with | [_,_,_,_,_],_=>rfl),PySem.W.mg_of X G a45,F46,F46.binds (ps:=["self","paper"]) (fun _ _ _ _ _ _ us hl=>match us,hl with | [_,_],_=>rfl),⟨a46,i46,k46⟩,F47,F47.binds (ps:=["self","paper","reader","points"]) (fun _ _ _ _ _ _ us hl=>match us,hl with | [_,_,_,_],_=>rfl),⟨a47,i47,k47⟩,F48,F48.binds (ps:=["_law_homes","_law_staff","_law_left","_law_names","_law_paper"]) (fun _ _ _ _ _ _ us hl=>match us,hl with | [_,_,_,_,_],_=>rfl),PySem.W.mg_of X G a48,F49,F49.binds (ps:=["_law_script"]) (fun _ _ _ _ _ _ us hl=>match us,hl with | [_],_=>rfl),PySem.W.mg_of X G a49,⟨pg_Attempt,hd_Attempt,po_Attempt,sa_Attempt⟩,PySem.W.mg_of X G aC_Attempt,n_Attempt_allowed,n_Attempt_given,n_Attempt_spare,⟨pg_Exam,hd_Exam,po_Exam,sa_Exam⟩,PySem.W.mg_of X G aC_Exam,n_Exam_paper_houses,n_Exam_reader_rows,n_Exam_widest_step,n_Exam_is_dealt,n_Exam_named_readers,n_Exam_entered_points,PySem.W.mg_of X G v_READERS_EACH,⟨_,rfl⟩,PySem.W.mg_of X G v_MOST_HOUSES,⟨_,rfl⟩,PySem.W.mg_of X G v_MOST_PAPERS,⟨_,rfl⟩,PySem.W.mg_of X G v_MOST_LIMIT,⟨_,rfl⟩,PySem.W.mg_of X G v_MOST_READERS,⟨_,rfl⟩,PySem.W.mg_of X G v_MOST_STEP,⟨_,rfl⟩,PySem.W.mg_of X G v_MOST_POINTS,⟨_,rfl⟩,PySem.W.mg_none_of X G z_abs,PySem.W.mg_none_of X G z_all,PySem.W.mg_none_of X G z_bool,PySem.W.mg_none_of X G z_enumerate,PySem.W.mg_none_of X G z_int,PySem.W.mg_none_of X G z_isinstance,PySem.W.mg_none_of X G z_len,PySem.W.mg_none_of X G z_list,PySem.W.mg_none_of X G z_max,PySem.W.mg_none_of X G z_min,PySem.W.mg_none_of X G z_range,PySem.W.mg_none_of X G z_sorted,PySem.W.mg_none_of X G z_zip⟩;exact ⟨_,fun s v=>.of_eq rfl,fun base _ _=>zmk T⟩
theorem walk {l:PySem.W.OpenLaw} {q:Program} {loose:List Str} {XP:(Str→Option Value)→Heap→Prop} {YP:World→Heap→Prop} {d:DefRec} {K:Params→PySem.W.Frag} (hn:l.most=some 63) (hdf:d.params.defaults=[])
  (hY:∀ (w:World) (h:Heap),YP w h→(K w.params).In h)
  (F:∀ (w:World) (mg:Str→Option Value) (fa:Addr) (h:Heap),(K w.params).In h→h.Ns mainGlobals mg→mg d.name=some (.ref fa) →
   ∃ fd:FuncData,(∀ (s:Shared) (u:Value),BindsTo s fd ⟨[u],[]⟩ [("_law_script",u)])∧∀ base:Heap,(K w.params).In base→base.Ns mainGlobals mg→FnOk l.prog w (K w.params) mg base CX0 23 fa fd ["_law_script"] (zfW (K w.params))) :
  PySem.W.WalkO q loose XP YP l.row.toRowW d [] (fun f vs=>PySem.call f vs) :=
 L2.zkt (n:=63) (k:=23) (x:="_law_script") (CX:=fun _=>CX0) (sp:=fun w=>zfW (K w.params)) hn (by decide) hdf ⟨rfl,by decide,by decide⟩ hY F (fun _ H a ns hl hO hS=>law_start hl hS) fun _ _ _ _ _ z=>z
end Prf
set_option genInjectivity false in
set_option genSizeOf false in
structure PySem.W.Fast:Prop where
 (tw10004692979686083606 tw16040962549690618257 tw15980646274998862146 tw11346842121604721301 tw2657357127051686329 tw7047305450753318179 tw2342389758719917533 tw4277754833240576720 tw15601601183091340905 tw6068347538768324238 tw9299029529066921341 tw14349067922908087618 tw13854734999073242296 tw14909788940954374677 tw16102510874361981032 tw17715739326285841086 tw12195780056546203477 tw14238927042862837831 tw9670378136887275215 tw4473107520663180430 tw8846215196297623308 tw12880194634534967376 tw14763056432259824713 tw13997395683025139003 tw5606016564810566731 tw13425119838511503969 tw18019353883021053440 tw11821531033282480946 tw17381026292965240999 tw11451343561036283864 tw7619005289724081678 tw10628245327459201956 tw17858592481165341635 tw7793799926596094229 tw1070486658859877646 tw17447668324866890833 tw14433528840744305036 tw16636099719830516766 tw15277240813916036803 tw7790652416423127037:True)
 (tw12940289473728389284 tw13601925106919727273 tw13039752311368956696 tw585661722494117184 tw3422928664537329742 tw16360564216070668305 tw4709629239812004177 tw11088047234957866355 tw9958239612060693705 tw14143936470360591656 tw18335080519491883470 tw7027529883930208380 tw8840809324439945272 tw15887144327115226057 tw12929892637842087109 tw11747191678655732916 tw5448882940956305915 tw2151097640275191985 tw1539264315361899638 tw3755485579227314519 tw4002609539135707470 tw13268016064457259877 tw11590681307749828609 tw8501636218760184352 tw16039236720509599010 tw15834260570325356321 tw10750275714606284083 tw1031533014706327014 tw7113454180004393193 tw12857706635126090969 tw10521689990498665221 tw8472755173802379138 tw18124280287174784027 tw71675760589126525 tw2966908016132560200 tw1146148331742105425 tw15424983235662075808 tw3777448584682278488 tw15286205151563844958 tw18098809300279386616:True)
 (tw10022829023243814573 tw5393906130913882894 tw14227097961498376168 tw2336039934911008583 tw16951726802020121043 tw17697104011662151008 tw7838118051166322610 tw2620098775048956645 tw14100894949369539515 tw10859108578016854312 tw3249687746443739013 tw5130905843664076768 tw4246640066719081299 tw4549448321494411223 tw6632186811375038535 tw12583720223329860616 tw8151924572617572474 tw16046681196050253373 tw17246280145616774618 tw12325689351420513794 tw2268265591523013381 tw2745651957340541917 tw12139074210703720877 tw6885947926171368161 tw3127196267167639885 tw7717289964657942752 tw11475414651897342960 tw136078516257776461 tw2647874597443811432 tw1433731914333201063 tw11966282504654757779 tw7776610085139263384 tw11476123774208443644 tw2667601240070608611 tw9068729652157566552 tw4217594239460334685 tw3708101466365321809 tw18394014352337008670 tw12085802845788906531 tw6385879719374431164:True)
 (tw401823183766149551 tw3808754357687059120 tw2335105306814036838 tw14280471417985902412 tw4944751023824805026 tw8427431591596021335 tw14345641810660429566 tw2215928596863190459 tw2315550015685061238 tw4136679818534785594 tw10502149728043257134 tw11570557250846031076 tw13469779911958138117 tw10507531826368552342 tw14998394425743204084 tw10342395538256844311 tw2048134443460388603 tw3384739559636893943 tw3392525949714608964 tw3069142529267789268 tw2936911550321595777 tw14650109308609463935 tw14503277687439573908 tw8034255244461658161 tw13672617542390256030 tw27697285708241450 tw12115470556749876819 tw8693214265486828499 tw10731451686406521958 tw14275326551725249589 tw5098464143381955482 tw18298646309492727070 tw2718877741344482317 tw10792133137767774838 tw2502629989348538909 tw8885105598422448820 tw10781936074466697464 tw15038186353927262644 tw13465176385434341642 tw5615340485010515666:True)
 (tw4540847630019849971 tw9151567539760309115 tw7814009602560563763 tw14549082280329033862 tw15036784556665407673 tw3242678751687888776 tw15854936567784271669 tw1451030007799177676 tw6928635406371901042 tw14789272239872801374 tw12515885442949424439 tw8785938113293421951 tw5862776559608111910 tw16178861862298927536 tw3535863969951292414 tw1651171903164509282 tw16383842043623077679 tw16983799363436543752 tw16087776001754865423 tw10984067837357715273 tw9879446933254194399 tw12267786364385195924 tw3624778372923204666 tw10019484524393708642 tw1276474847352891685 tw4646968650966583045 tw7473695482435179763 tw2717460537965185977 tw5341503776560513594 tw17669067351610887067 tw3647555453421321946 tw11751748897999343635 tw7648367487971084452 tw12383066366097008000 tw11639469950682881760 tw1187204978020984663 tw14892908933047437825 tw16132552549635324898 tw13237762169403311186 tw18005988328788354057:True)
 (tw12078662938419282721 tw12046214510151361777 tw5034645082583198743 tw11064501224607204864 tw7663947662159263599 tw13062655642009517483 tw7701762241701555713 tw1047786769079554059 tw15115568468881365971 tw5834414022196157917 tw14049675024184326048 tw13320545063087625774 tw16339627937275148532 tw3670683459509472512 tw14207558512661694919 tw8310074281020161363 tw6841090075288376352 tw8565941673928400107 tw14085208082893331423 tw5479885047659861071 tw10560833481739899264 tw7006836809800627963 tw9875339689283731458 tw15440255860280493455 tw219635128543944609 tw3206746171033729545 tw14917488287419776437 tw11282624863965811711 tw11337691907690442225 tw155588872143127778 tw12955831762140891057 tw14042815611643250098 tw15087777566985169568 tw15556808268416156938 tw17156294962210371246 tw7040112175419837201 tw1478793383260999781 tw1236144807462003220 tw17956410938415706830 tw18208426832919884921:True)
 (tw10709548006971097006 tw5952222164084642900 tw2777998032723665641 tw18166371590573983477 tw3220840320361080195 tw13101865198189825804 tw15287700240010774774 tw17395699960039955857 tw358195829214755040 tw11246113305591959466 tw9266668844484916886 tw15581377543144665623 tw12762754851298185983 tw13229698375589751641 tw153519565717374575 tw9178096911168532314 tw2408580574168032069 tw5859806479087057556 tw16204683693229807579 tw1215404530904895011 tw7182241681116903693 tw17604719632321073153 tw15124535900332603880 tw15618548779117044736 tw7135663246804975872 tw1172203776050744762 tw15682246393810016694 tw6418414016062134006 tw2766388578336220384 tw1999239868642719564 tw10094024629192684550 tw6582912348694653013 tw6020319417566049715 tw185344111284129409 tw1699798394340954377 tw9362775102080024937 tw14583058004297471246 tw2034594984398505305 tw8666506608917946958 tw14956656407542873162:True)
 (tw1132066591060851993 tw7027294064919723351 tw8378429047275602328 tw14839752266530968971 tw10500636172503826981 tw15276844540179079060 tw8408730049045955026 tw1944637695734847049 tw15859086844817999379 tw18043002863156598164 tw13339479538781216562 tw11235419583046805740 tw12199171933808559829 tw12709751758678415125 tw11888573835863272784 tw2592876044351704193 tw5865567004276435330 tw8213054089744570787 tw11872652926153356494 tw18083937869672221841 tw10131491477149317497 tw14470657757686674964 tw9347109744670411618 tw9017312447168503801 tw3079398964706737337 tw14308174969143974798 tw5236843016664902619 tw7708940801046479002 tw15530290318108227026 tw7501362079053696680 tw9071595139708203504 tw10851398685381887953 tw2056229597484486176 tw1299612685685878347 tw3650918028470467897 tw8826039150164845860 tw6301777163315350454 tw14864244378545024073 tw15777697838192327325 tw14196479084355735403:True)
 (tw10311200099356445822 tw14897619540975279632 tw12347581236568196979 tw9437923220752024664 tw567054746939277206 tw4806497442625478721 tw16367681403183214337 tw8888810802456812168 tw563710812297940329 tw1521656703771087119 tw4137438590730458356 tw397198246826732930 tw12341950255016609583 tw5821523177967335777 tw16694493444484678508 tw11348099733318140778 tw12299464636178409398 tw15809926767854785533 tw14863684891977368173 tw13362543544827313392 tw4504946918231373060 tw9858738474719717740 tw15035034642561518462 tw1784744664952079251 tw1850214096742286734 tw9613270600015318701 tw118888222628278556 tw13957989559621574511 tw15876482964657324361 tw17234666877427705364 tw12706586785976509254 tw9987645357039691982 tw2168558988994493180 tw237260565717457049 tw11969223743028323285 tw3601133460595616887 tw5534497647159545735 tw4583114437108713154 tw16997144540407304056 tw12087418169898198206:True)
 (tw4661392151082037556 tw15319380385361843317 tw12886254936768538680 tw3849296579858271680 tw4778323764968400527 tw1656095943948032147 tw17818101535290817562 tw14324598421191715399 tw4290199923989731832 tw15900712503417210966 tw4652822000158464448 tw18080254057035978872 tw7376078536777545845 tw16885411072794919345 tw5163556349078711037 tw12816140474771670912 tw17026118814115255032 tw18012769763119577672 tw12120928051717274640 tw15181110055111742935 tw925619037341481067 tw12297778623168084416 tw14102871043713556317 tw1127125007441244690 tw17214171742259401749 tw1737354329262334541 tw14838431215292274119 tw3532008656831098023 tw13482720637604098983 tw9491677759478896078 tw14798370885863176448 tw5389846648915721892 tw15875796557010872380 tw14972653427612520832 tw16052799120383672028 tw8472348477842649026 tw7354794849228967925 tw9110981602368519339 tw978390653703660587 tw10732292761901392375:True)
 (tw7220224265280557209 tw14033430592985183801 tw11768197709536537415 tw6493899219800037950 tw13462091262750767376 tw11688385588180507719 tw13235874354652293827 tw12093139523773550639 tw63740414088996979 tw10460201117022778772 tw3686450938283542837 tw4655742218693555143 tw18036033039926979344 tw4374110362136165169 tw3649857941038477084 tw1504398478298462006 tw17646229656751710989 tw1577653424216927248 tw5758800101702070387 tw14311650087997367006 tw7689246000216415835 tw7859913253155385414 tw12632280060026953706 tw213128565820225381 tw12259311799202513893 tw839173058274771461 tw7245186577119349837 tw15224675641586412909 tw8908556688971050224 tw15101806151700944001 tw3542352791421929770 tw14891330312163484288 tw13926591993363975624 tw364583713830164355 tw8714817727726407004 tw15210736896450202950 tw3848378508951218959 tw12581365994259378821 tw16229052071995676143 tw5628304784047084192:True)
 (tw1180417847780577670 tw5102119011671765667 tw4768297478377791137 tw6037957913637084712 tw10166322079236055378 tw6252753404540549621 tw17296971098998477465 tw9423394316664322677 tw11030616399973247845 tw13075692008334438103 tw5907328408415379627 tw1894281340166637777 tw7693285078828656215 tw11326300754712225061 tw12513946082570727944 tw16851457248012069493 tw2708954450497411697 tw11897742341306812938 tw4546368667898750339 tw4601419516148706288 tw5173657623335949973 tw80540970539536248 tw1846950134833104921 tw7584860002934235465 tw2357063313641137227 tw16645811400587543459 tw8471174703987098060 tw8244206408355224341 tw4265742537109608265 tw11551707819498729574 tw7805363078608560126 tw8096647245097703220 tw2414891622670147896 tw11058317678716926941 tw9734200543862964840 tw2614724518894061987 tw3665122892785245919 tw5223309832049399575 tw288708277110285014 tw14208715575764076537:True)
 (tw12820156246780635215 tw10199082285819372332 tw4618250032483258278 tw847730234077133655 tw15888595861805312510 tw1742896994393067516 tw7535344265589168686 tw2411020223303429768 tw34152495412938797 tw11580408190800291796 tw6005313966832386270 tw579507499050499079 tw4827833348287205118 tw812323035256751434 tw12608944289650796372 tw15367277283786808395 tw9018215843688645455 tw4322683701582059074 tw4231341706498591396 tw16435940427542710408 tw5889098841864900552 tw7907670571825499331 tw6411386226451011593 tw1625091234882608157 tw3049695999691729931 tw9529506550707230869 tw14633751894527457163 tw18336377069850798303 tw16908844664120954328 tw10885523659965753953 tw10584229515571848804 tw11110899406922432057 tw15011763001446795919 tw17860973512632392322 tw1738703803651667238 tw10503796597111641059 tw6306191384588005889 tw15411976665782236444 tw18271309059699335626 tw17196228629461705080:True)
 (tw2138861315000148620 tw16488019828620996775 tw1224211065910683997 tw11454977681602672427 tw15478510583202861863 tw6034141016373756884 tw15418160498857668486 tw11769575634358071755 tw11028708737152307306 tw6091303218039816773 tw17623533126309482754 tw9438016639228894782 tw14543165350112697019 tw6495350409191546903 tw17997403632218729183 tw16198942948229184733 tw12951660581750435484 tw18304094215202531378 tw7909864167868014672 tw7758250590808995874 tw6999234834952163011 tw9376554301032275549 tw5422580834404879797 tw14134101635841520937 tw4724990601639569359 tw16945448054157912167 tw12619550943275958815 tw9782837989654640870 tw2402840887730460362 tw16227602848536397759 tw8647981846581015126 tw9476972343120546368 tw14498809798913048310 tw18350480946325061700 tw6703880100502087228 tw2926365289671149128 tw15512993208733828323 tw8087817219599101955 tw3625006936089238156 tw13629652515574014844:True)
 (tw18171432745573012306 tw17538065385389343258 tw5877033281445980975 tw5633552390454501033 tw18111663630308965006 tw14124462976318423673 tw17286070835730505418 tw6814577012254802078 tw12331638680489873395 tw16699913853916884423 tw10025783532525132651 tw14605553845709273877 tw1413374136975998194 tw5367419486699560133 tw11576012007308071176 tw8929077602075105476 tw9721008111739778551 tw8944893957235126927 tw14826899128522153397 tw14486380838735429133 tw9418331109323021592 tw14154470290188223597 tw3325001376779972453 tw11481149158129717244 tw9893799987833788579 tw8904965886145186759 tw16570146073678365001 tw14476658515140272629 tw5171146162971583998 tw5712254661501066004 tw5538270605829765731 tw4386727551223239199 tw2132846081651295547 tw2963542938458034343 tw11961988135180668387 tw10567559434479105062 tw2523945345384253208 tw1366611860082879815 tw4525913815346588340 tw16241683271559473543:True)
 (tw10007559276748172318 tw1264444918115150932 tw10074330554813943724 tw11580020019845848533 tw17126885835490329654 tw10288133688103368853 tw14663744203323856333 tw10622524502227467857 tw14619710152715787348 tw8848436817314959521 tw17675851320864199898 tw4460092160952752242 tw16762692394415214563 tw11893203846878562031 tw7726151264656225898 tw13159791725071164928 tw4430171750452442172 tw12179800644854431115 tw13150671075621792687 tw11515310925594908527 tw605693756800176112 tw2091925260134552155 tw677326899150255344:True)
open PySem PySem.W PyProof.Rows
set_option maxRecDepth 100000 in
set_option maxHeartbeats 0 in
theorem PySem.Challenge.cw_secondread_k38_whole_never_beyond_holds : PySem.Challenge.rw_secondread_k38_whole_never_beyond.Holds := by
 w_on;o_law;k_head;(case hw=>w_witness2)
 k_fill
 refine Prf.walk (l:=PySem.Challenge.rw_secondread_k38_whole_never_beyond) rfl rfl (fun w h Y=>PySem.W.kIn_of Y) ?F
 case F =>
  intro w mg fa h KX G hmg;refine' Prf.zml KX G hmg ?aC_Attempt ?aC_Exam ?a0 ?l0 ?c0 ?k0 ?a1 ?l1 ?c1 ?k1 ?a2 ?l2 ?c2 ?k2 ?a3 ?i3 ?l3 ?c3 ?k3 ?a4 ?i4 ?l4 ?c4 ?k4 ?a5 ?l5 ?c5 ?k5 ?a6 ?i6 ?l6 ?c6 ?k6 ?a7 ?l7 ?c7 ?k7 ?a8 ?l8 ?c8 ?k8 ?a9 ?i9 ?l9 ?c9 ?k9 ?a10 ?i10 ?l10 ?c10 ?k10 ?a11 ?l11 ?c11 ?k11 ?a12 ?l12 ?c12 ?k12 ?a13 ?l13 ?c13 ?k13 ?a14 ?l14 ?c14 ?k14 ?a15 ?i15 ?l15 ?c15 ?k15 ?a16 ?l16 ?c16 ?k16 ?a17 ?l17 ?c17 ?k17 ?a18 ?l18 ?c18 ?k18 ?a19 ?l19 ?c19 ?k19 ?a20 ?l20 ?c20 ?k20 ?a21 ?l21 ?c21 ?k21 ?a22 ?l22 ?c22 ?k22 ?a23 ?i23 ?l23 ?c23 ?k23 ?a24 ?i24 ?l24 ?c24 ?k24 ?a25 ?i25 ?l25 ?c25 ?k25 ?a26 ?l26 ?c26 ?k26 ?a27 ?l27 ?c27 ?k27 ?a28 ?l28 ?c28 ?k28 ?a29 ?l29 ?c29 ?k29 ?a30 ?l30 ?c30 ?k30 ?a31 ?i31 ?l31 ?c31 ?k31 ?a32 ?l32 ?c32 ?k32 ?a33 ?l33 ?c33 ?k33 ?a34 ?l34 ?c34 ?k34 ?a35 ?l35 ?c35 ?k35 ?a36 ?i36 ?l36 ?c36 ?k36 ?a37 ?i37 ?l37 ?c37 ?k37 ?a38 ?i38 ?l38 ?c38 ?k38 ?a39 ?l39 ?c39 ?k39 ?a40 ?i40 ?l40 ?c40 ?k40 ?a41 ?i41 ?l41 ?c41 ?k41 ?a42 ?i42 ?l42 ?c42 ?k42 ?a43 ?l43 ?c43 ?k43 ?a44 ?i44 ?l44 ?c44 ?k44 ?a45 ?l45 ?c45 ?k45 ?a46 ?i46 ?l46 ?c46 ?k46 ?a47 ?i47 ?l47 ?c47 ?k47 ?a48 ?l48 ?c48 ?k48 ?a49 ?l49 ?c49 ?k49 ?pg_Attempt ?hd_Attempt ?po_Attempt ?sa_Attempt ?mk_Attempt ?kc_Attempt ?n_Attempt_allowed ?n_Attempt_given ?n_Attempt_spare ?pg_Exam ?hd_Exam ?po_Exam ?sa_Exam ?mk_Exam ?kc_Exam ?n_Exam_paper_houses ?n_Exam_reader_rows ?n_Exam_widest_step ?n_Exam_is_dealt ?n_Exam_named_readers ?n_Exam_entered_points ?v_READERS_EACH ?v_MOST_HOUSES ?v_MOST_PAPERS ?v_MOST_LIMIT ?v_MOST_READERS ?v_MOST_STEP ?v_MOST_POINTS ?z_abs ?z_all ?z_bool ?z_enumerate ?z_int ?z_isinstance ?z_len ?z_list ?z_max ?z_min ?z_range ?z_sorted ?z_zip
  (case aC_Attempt=>k_is)
  (case aC_Exam=>k_is)
  all_goals (try k_is)
  all_goals k_is
