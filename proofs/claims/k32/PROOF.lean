import PyProof.Rows.All
import Wide.All
import OpenK.AllK
import Wide.FinOn
import Lean
import PyProof.EqAt
import PyProof.EqKinds
import PyProof.TupleCall
import PyProof.NeKinds
import KE.RegKTryMore
import KE.KIntText
import PyProof.MeetsStr2
import PyProof.StrLawsChain
import PyProof.Rows.StrSplitAre
import KE.KIsAll
import PyProof.ExcArgsOwn
import PySem.Challenge.RW_secondread_k32_desk_dealing
set_option Elab.async false
set_option linter.all false
set_option maxRecDepth 100000
set_option maxHeartbeats 4000000
local macro_rules | `(tactic| omega)=>`(tactic| lia)
namespace L2
open PySem PySem.Spec PyProof.Rows
abbrev Key:=Sum Int Str
def keyIs:Key→Value→Bool
 | .inl k,v=>Value.isInt k v
 | .inr x,v=>Value.isStrOf x v
def keyH (w:World):Key→Int
 | .inl k=>hashInt k
 | .inr x=>hashStr w x
theorem keyIs_shape:∀ {k:Key} {v:Value},keyIs k v=true→(∃ i t,k=Sum.inl i∧v=Value.int i t)∨(∃ x t,k=Sum.inr x∧v=Value.str x t)
 | .inl i,v,h=>by
   obtain ⟨t,e⟩:=Value.isInt_shape (k:=i) (v:=v) h;exact .inl ⟨i,t,rfl,e⟩
 | .inr x,v,h=>by
   obtain ⟨t,e⟩:=Value.isStrOf_shape (x:=x) (v:=v) h;exact .inr ⟨x,t,rfl,e⟩
theorem zik (i:Int) (t:Tok):keyIs (.inl i) (.int i t)=true:=by simp [keyIs,Value.isInt]
theorem zil (x:Str) (t:Tok):keyIs (.inr x) (.str x t)=true:=by simp [keyIs,Value.isStrOf]
theorem zmb (a b:Int):decide ((Sum.inl a:Key)=Sum.inl b)=(a == b):=by
 by_cases e:a=b
 ·subst e;simp
 ·have h:¬(Sum.inl a:Key)=Sum.inl b:=fun q=>e (Sum.inl.inj q);rw [decide_eq_false h];exact (beq_eq_false_iff_ne.mpr e).symm
theorem zmc (a b:Str):decide ((Sum.inr a:Key)=Sum.inr b)=decide (a=b):=by
 by_cases e:a=b
 ·subst e;simp
 ·have h:¬(Sum.inr a:Key)=Sum.inr b:=fun q=>e (Sum.inr.inj q);rw [decide_eq_false h,decide_eq_false e]
theorem zmd (a:Int) (b:Str):decide ((Sum.inl a:Key)=Sum.inr b)=false:=decide_eq_false (fun q=>nomatch q)
theorem zme (a:Str) (b:Int):decide ((Sum.inr a:Key)=Sum.inl b)=false:=decide_eq_false (fun q=>nomatch q)
def zbv (prog:Program) (w:World):PySem.KeyKind prog w Key where
 is:=keyIs
 hash:=keyH w
 inj:=fun v a b ha hb=>by
  rcases keyIs_shape ha with ⟨i,t,rfl,rfl⟩ | ⟨x,t,rfl,rfl⟩
  ·rcases keyIs_shape hb with ⟨j,u,rfl,e⟩ | ⟨y,u,rfl,e⟩
   ·injection e with e1 _;rw [e1]
   ·exact nomatch e
  ·rcases keyIs_shape hb with ⟨j,u,rfl,e⟩ | ⟨y,u,rfl,e⟩
   ·exact nomatch e
   ·injection e with e1 _;rw [e1]
 byValue:=fun k v h=>by
  rcases keyIs_shape h with ⟨i,t,rfl,rfl⟩ | ⟨x,t,rfl,rfl⟩ <;> rfl
 pyHash:=fun hv h=>by
  rcases keyIs_shape hv with ⟨i,t,rfl,rfl⟩ | ⟨x,t,rfl,rfl⟩
  ·exact wpAny_pyHash_int h
  ·exact wpAny_pyHash_str h
 eqBool:=fun hu hv h=>by
  rcases keyIs_shape hu with ⟨i,t,rfl,rfl⟩ | ⟨x,t,rfl,rfl⟩
  ·rcases keyIs_shape hv with ⟨j,u,rfl,rfl⟩ | ⟨y,u,rfl,rfl⟩
   ·rw [zmb] at h;exact wpAny_eqBool_int h
   ·rw [zmd] at h;exact SeqAt.EqAt.int_str i t y u _ _ _ _ h
  ·rcases keyIs_shape hv with ⟨j,u,rfl,rfl⟩ | ⟨y,u,rfl,rfl⟩
   ·rw [zme] at h;exact SeqAt.EqAt.str_int x t j u _ _ _ _ h
   ·rw [zmc] at h;exact wpAny_eqBool_str h
 «strs»:=fun k x t v h=>by
  rcases keyIs_shape h with ⟨i,u,rfl,e⟩ | ⟨y,u,rfl,e⟩
  ·exact nomatch e
  ·injection e with e1 _;subst e1
   cases v <;> rfl
theorem zgx (prog:Program) (w:World) (i:Int) (t:Tok):(zbv prog w).is (.inl i) (.int i t)=true:=zik i t
theorem zgy (prog:Program) (w:World) (x:Str) (t:Tok):(zbv prog w).is (.inr x) (.str x t)=true:=zil x t
end L2
namespace L2
open PySem PySem.Spec PyProof.Rows
inductive V where
 | non | bl (b:Bool) | int (i:Int) | str (x:Str) | byt (b:Array UInt8) | flt (b:UInt64) | ref (a:Addr) | ty (n:String)
 deriving DecidableEq
def RelV:V→Value→Prop
 | .non,u=>u=Value.none
 | .bl b,u=>u=Value.bool b
 | .int i,u=>∃ t,u=Value.int i t
 | .str x,u=>∃ t,u=Value.str x t
 | .byt b,u=>∃ t,u=Value.bytes b t
 | .flt b,u=>∃ t,u=Value.float b t
 | .ref a,u=>u=Value.ref a
 | .ty n,u=>u=Value.type n
abbrev Vals:List V→List Value→Prop:=Paired RelV
theorem Vals.length {xs:List V} {us:List Value} (r:Vals xs us):xs.length=us.length:=Paired.length r
theorem Vals.get:∀ {xs:List V} {us:List Value} {i:Nat} {x:V},Vals xs us→xs[i]? = some x→∃ u,us[i]? = some u∧RelV x u
 | _,_,_,_,.nil,e=>by simp at e
 | _,_,0,_,.cons r _,e=>by simp at e;subst e;exact ⟨_,rfl,r⟩
 | _,_,i+1,x,.cons _ t,e=>by
   obtain ⟨u,h1,h2⟩:=Vals.get (i:=i) (x:=x) t (by simpa using e);exact ⟨u,by simpa using h1,h2⟩
theorem Vals.set {x:V} {u:Value} (r:RelV x u):∀ {xs:List V} {us:List Value} (i:Nat),Vals xs us→Vals (xs.set i x) (us.set i u)
 | _,_,_,.nil=>.nil
 | _,_,0,.cons _ t=>.cons r t
 | _,_,i+1,.cons q t=>.cons q (Vals.set r i t)
theorem Vals.append:∀ {xs ys:List V} {us ws:List Value},Vals xs us→Vals ys ws→Vals (xs++ys) (us++ws)
 | _,_,_,_,.nil,s=>s
 | _,_,_,_,.cons r t,s=>.cons r (Vals.append t s)
theorem Vals.take:∀ {xs:List V} {us:List Value} (n:Nat),Vals xs us→Vals (xs.take n) (us.take n)
 | _,_,0,_=>.nil
 | _,_,_+1,.nil=>.nil
 | _,_,n+1,.cons r t=>.cons r (Vals.take n t)
theorem Vals.drop:∀ {xs:List V} {us:List Value} (n:Nat),Vals xs us→Vals (xs.drop n) (us.drop n)
 | _,_,0,r=>r
 | _,_,_+1,.nil=>.nil
 | _,_,n+1,.cons _ t=>Vals.drop n t
def RelO:Option V→Option Value→Prop
 | some v,some u=>RelV v u
 | none,none=>True
 | _,_=>False
def KV {κ:Type}:List (κ×V)→List (κ×Value)→Prop:=Paired fun (p:κ×V) (q:κ×Value)=>p.1=q.1∧RelV p.2 q.2
def kV:Key→V
 | .inl i=>.int i
 | .inr x=>.str x
inductive HO where
 | lst (xs:List V)
 | tup (xs:List V)
 | dK (kvs:List (Key×V)) | dT (kvs:List (List Key×V))
 | set (S:Int→Bool) (n:Nat)
 | ins (C dx:Addr) (fs:List (Str×V))
 | own (x:Addr)
 | xd (fs:List (Str×V))
 | met (f x:Addr)
 | rng (lo hi:Int)
 | frz (o:Obj) (u:HO)
 | tbl (ps:Array Value)
 | ext (φ:Heap→Prop)
abbrev Hp:=Addr→Option HO
def upd (H:Hp) (a:Addr) (o:HO):Hp:=fun b=>if b=a then some o else H b
theorem zar {H:Hp} {a:Addr} {o:HO}:upd H a o a=some o:=by unfold upd;rw [if_pos rfl]
theorem zaJ {H:Hp} {a b:Addr} {o:HO} (h:b≠a):upd H a o b=H b:=by unfold upd;rw [if_neg h]
theorem zld {H:Hp} {a:Addr} {o u:HO}:upd (upd H a o) a u=upd H a u:=by
 funext b;unfold upd;split <;> rfl
theorem znT {H:Hp} {a b:Addr} {o u:HO} (h:H a=some o) (h':H b=some u) (d:o≠u):a≠b:=by
 intro e;subst e;rw [h] at h';exact d (Option.some.inj h')
theorem zag {H:Hp} {a b:Addr} {o:HO} (h:H a=some o) (h':H b=none):a≠b:=by
 intro e;subst e;rw [h] at h';cases h'
section
variable (P:Program) (w:World)
def zbD (H:Hp) (h:Heap) (a:Addr):HO→Prop
 | .lst xs=>xs.length≤sizeLine∧∃ (its:List Value) (n:Nat),Vals xs its∧h.get? a=some { cls:=.type "list",data:=.seq its.toArray n }
 | .tup xs=>xs.length≤sizeLine∧∃ its:List Value,Vals xs its∧IsTup h a its.toArray
 | .dK kvs=>kvs.length≤sizeLine∧(a == sysModules)=false∧∃ vs,KV kvs vs∧h.DictOf (zbv P w) a vs
 | .dT kvs=>kvs.length≤sizeLine∧(a == sysModules)=false∧∃ xs:List (List Key×Addr×Value),
    Paired (fun (p:List Key×V) (q:List Key×Addr×Value)=>p.1=q.1∧H q.2.1=some (.tup (p.1.map kV))∧RelV p.2 q.2.2) kvs xs ∧
    ∃ o es ep,h.get? a=some o∧o.ExactDict∧o.data=.dict es ep∧es.toList=xs.map (entryOfKey (tupleKind (zbv P w)))∧(xs.map (·.1)).Nodup
 | .set S n=>h.SetOf (intKind P w) a S n
 | .ins C dx fs=>H dx=some (.own a)∧fs.length≤1000∧dx≠a∧h.get? a=some (PySem.W.instObj C dx) ∧
    ∃ mA,h.Ns1 dx mA∧(∀ f,RelO (fs.lookup f) (mA f))∧PySem.Within mA (fs.map (·.1))
 | .own _=>∃ o,h.get? a=some o
 | .xd fs=>∃ mA,h.Ns1 a mA∧∀ f,RelO (fs.lookup f) (mA f)
 | .rng lo hi=>∃ t u v,h.get? a=some { cls:=.type "range",data:=.fields #[.int lo t,.int hi u,.int 1 v] }
 | .frz o u=>h.get? a=some o∧zbD H h a u
 | .tbl ps=>h.get? a=some { cls:=.none,data:=.fields ps }
 | .met f x=>h.get? a=some (PySem.W.methodObj (.ref f) (.ref x))
 | .ext φ=>φ h∧(∃ o,h.get? a=some o)∧∀ h1 h2:Heap,φ h1→(∀ o,h1.get? a=some o→h2.get? a=some o)→φ h2
def HOk (H:Hp) (h:Heap):Prop:=∀ a o,H a=some o→zbD P w H h a o
end
section
variable {P:Program} {w:World} {H H':Hp} {h h':Heap} {a:Addr} {o:HO}
theorem zbD.lt (x:zbD P w H h a o):a < h.objs.size:=by
 cases o with
 | lst xs=>obtain ⟨_,_,_,_,e⟩:=x;exact Heap.lt_size e
 | tup xs=>obtain ⟨_,_,_,p⟩:=x;exact p.lt
 | dK kvs=>obtain ⟨_,_,_,_,o,_,_,e,_⟩:=x;exact Heap.lt_size e
 | dT kvs=>obtain ⟨_,_,_,_,o,_,_,e,_⟩:=x;exact Heap.lt_size e
 | set S n=>obtain ⟨o,_,_,_,e,_⟩:=x;exact Heap.lt_size e
 | ins C dx fs=>obtain ⟨_,_,_,e,_⟩:=x;exact Heap.lt_size e
 | own y=>obtain ⟨_,e⟩:=x;exact Heap.lt_size e
 | xd fs=>obtain ⟨_,⟨_,_,_,e,_⟩,_⟩:=x;exact Heap.lt_size e
 | rng lo hi=>obtain ⟨_,_,_,e⟩:=x;exact Heap.lt_size e
 | frz ob u=>obtain ⟨e,_⟩:=x;exact Heap.lt_size e
 | tbl ps=>exact Heap.lt_size (show h.get? a=some _ from x)
 | met f y=>exact Heap.lt_size (show h.get? a=some _ from x)
 | ext φ=>obtain ⟨_,⟨_,e⟩,_⟩:=x;exact Heap.lt_size e
theorem Paired.mapP {α β:Type} {F G:α→β→Prop}:∀ {l₁:List α} {l₂:List β},Paired F l₁ l₂→(∀ a b,F a b→G a b)→Paired G l₁ l₂
 | _,_,.nil,_=>.nil
 | _,_,.cons r t,f=>.cons (f _ _ r) (Paired.mapP t f)
theorem zbD.stay (x:zbD P w H h a o) (k:∀ b u,(b=a∨H b=some (.own a))→h.get? b=some u→h'.get? b=some u)
  (ho:∀ b,H b=some (.own a)→H' b=some (.own a)) (ht:∀ b xs,H b=some (.tup xs)→H' b=some (.tup xs)):zbD P w H' h' a o:=by
 induction o with
 | lst xs=>obtain ⟨z,its,n,r,e⟩:=x;exact ⟨z,its,n,r,k _ _ (.inl rfl) e⟩
 | tup xs=>obtain ⟨z,its,r,ob,e,c⟩:=x;exact ⟨z,its,r,ob,k _ _ (.inl rfl) e,c⟩
 | dK kvs=>obtain ⟨z,y,vs,r,ob,es,ep,e,c⟩:=x;exact ⟨z,y,vs,r,ob,es,ep,k _ _ (.inl rfl) e,c⟩
 | dT kvs =>
   obtain ⟨z,y,xs,r,ob,es,ep,e,c⟩:=x;exact ⟨z,y,xs,Paired.mapP r fun p q z=>⟨z.1,ht _ _ z.2.1,z.2.2⟩,ob,es,ep,k _ _ (.inl rfl) e,c⟩
 | set S n=>obtain ⟨ob,es,ep,t,e,c⟩:=x;exact ⟨ob,es,ep,t,k _ _ (.inl rfl) e,c⟩
 | ins C dx fs =>
   obtain ⟨d,z,ne,e,mA,⟨od,es,ep,e2,c⟩,r⟩:=x;exact ⟨ho _ d,z,ne,k _ _ (.inl rfl) e,mA,⟨od,es,ep,k _ _ (.inr d) e2,c⟩,r⟩
 | own y=>obtain ⟨ob,e⟩:=x;exact ⟨ob,k _ _ (.inl rfl) e⟩
 | xd fs=>obtain ⟨mA,⟨od,es,ep,e,c⟩,r⟩:=x;exact ⟨mA,⟨od,es,ep,k _ _ (.inl rfl) e,c⟩,r⟩
 | rng lo hi=>obtain ⟨t,u,v,e⟩:=x;exact ⟨t,u,v,k _ _ (.inl rfl) e⟩
 | frz ob u ih=>obtain ⟨e,q⟩:=x;exact ⟨k _ _ (.inl rfl) e,ih q⟩
 | tbl ps =>
   have e:h.get? a=some { cls:=.none,data:=.fields ps }:=x;show h'.get? a=some { cls:=.none,data:=.fields ps };exact k a _ (.inl rfl) e
 | met f y =>
   have e:h.get? a=some (PySem.W.methodObj (.ref f) (.ref y)):=x;show h'.get? a=some (PySem.W.methodObj (.ref f) (.ref y));exact k a _ (.inl rfl) e
 | ext φ=>obtain ⟨p,⟨o,e⟩,st⟩:=x;exact ⟨st _ _ p fun o q=>k _ _ (.inl rfl) q,⟨o,k _ _ (.inl rfl) e⟩,st⟩
theorem HOk.lt (x:HOk P w H h) (e:H a=some o):a < h.objs.size:=(x a o e).lt
theorem HOk.fresh (x:HOk P w H h) (e:h.objs.size≤a):H a=none:=by
 cases q:H a with
 | none=>rfl
 | some u=>exact absurd (Nat.lt_of_lt_of_le (x.lt q) e) (Nat.lt_irrefl _)
theorem HOk.kept (x:HOk P w H h) (k:∀ b u,h.get? b=some u→h'.get? b=some u):HOk P w H h':=fun a o e =>
 (x a o e).stay (fun b u _ q=>k b u q) (fun _ q=>q) fun _ _ q=>q
theorem HOk.laid (x:HOk P w H h) (k:∀ b u,h.get? b=some u→h'.get? b=some u) (hp:h.objs.size≤a) (new:zbD P w (upd H a o) h' a o):HOk P w (upd H a o) h':=fun b u e=>by
 have hn:=x.fresh hp
 by_cases hb:b=a
 ·subst hb;rw [zar] at e;cases e;exact new
 ·rw [zaJ hb] at e;exact (x b u e).stay (fun c v _ q=>k c v q) (fun c q=>by rw [zaJ (zag q hn)];exact q) fun c xs q=>by rw [zaJ (zag q hn)];exact q
end
def Rd (H:Hp) (a:Addr) (u:HO):Prop:=H a=some u∨∃ o,H a=some (.frz o u)
theorem Rd.ok {P:Program} {w:World} {H:Hp} {h:Heap} {a:Addr} {u:HO} (r:Rd H a u) (x:HOk P w H h):zbD P w H h a u:=by
 rcases r with r | ⟨o,r⟩
 ·exact x a u r
 ·obtain ⟨_,q⟩:=x a _ r;exact q
def Mut:Option HO→Prop
 | some (.lst _)=>True
 | some (.dK _)=>True
 | some (.dT _)=>True
 | some (.set _ _)=>True
 | some (.ins _ _ _)=>True
 | some (.ext _)=>True
 | _=>False
section
variable {P:Program} {w:World} {H:Hp} {h h':Heap} {x e:Addr} {o':HO}
theorem HOk.write (ok:HOk P w H h) (mu:Mut (H x)) (he:e=x∨H e=some (.own x)) (k:∀ b u,b≠e→h.get? b=some u→h'.get? b=some u) (heo:∃ u,h'.get? e=some u)
  (new:zbD P w (upd H x o') h' x o'):HOk P w (upd H x o') h':=fun b u q=>by
 have nown:∀ c y,H c=some (.own y)→c≠x:=fun c y r z=>by subst z;rw [r] at mu;exact mu
 have ntup:∀ c xs,H c=some (.tup xs)→c≠x:=fun c xs r z=>by subst z;rw [r] at mu;exact mu
 by_cases hb:b=x
 ·subst hb;rw [zar] at q;cases q;exact new
 ·rw [zaJ hb] at q
  by_cases hbe:b=e
  ·have q':H b=some (.own x):=by
    rcases he with z | z
    ·exact absurd (hbe.trans z) hb
    ·rw [hbe];exact z
   rw [q] at q';cases q'
   obtain ⟨v,hv⟩:=heo;exact ⟨v,by rw [hbe];exact hv⟩
  ·refine (ok b u q).stay (fun c v hc r=>k c v ?_ r) (fun c r=>by rw [zaJ (nown c b r)];exact r) fun c xs r=>by rw [zaJ (ntup c xs r)];exact r
   rcases hc with rfl | hc
   ·exact hbe
   ·rintro rfl;rcases he with z | z
    ·exact nown c b hc z
    ·rw [hc] at z;cases z;exact hb rfl
end
structure Un (fs ex:List Addr) (H H':Hp) (h h':Heap):Prop where
 keep:∀ b o,h.get? b=some o→H b=none→b∉fs→b∉ex→h'.get? b=some o
 slot:∀ b o,h.get? b=some o→H b=none→b∈fs→b∉ex→∃ sl,h'.get? b=some { o with slots:=sl }
 free:∀ b o,h.get? b=some o→H b=none→b∉ex→H' b=none
 there:∀ b o,h.get? b=some o→b∉ex→∃ o',h'.get? b=some o'
 tups:∀ b xs,H b=some (.tup xs)→H' b=some (.tup xs)
 frzs:∀ b o u,H b=some (.frz o u)→H' b=some (.frz o u)
 tbls:∀ b ps,H b=some (.tbl ps)→∃ more,H' b=some (.tbl (ps++more))
section
variable {fs fs' ex ex':List Addr} {H H1 H2:Hp} {h h1 h2 h':Heap} {a x e:Addr} {o:HO}
theorem Un.any (u:Un fs ex H H1 h h1) {b:Addr} {ob:Obj} (q:h.get? b=some ob) (n:H b=none) (hx:b∉ex):∃ sl,h1.get? b=some { ob with slots:=sl }:=by
 by_cases hb:b∈fs
 ·exact u.slot b ob q n hb hx
 ·exact ⟨ob.slots,u.keep b ob q n hb hx⟩
theorem Un.kept (k:∀ b u,h.get? b=some u→h'.get? b=some u):Un fs ex H H h h' :=
 ⟨fun b ob q _ _ _=>k b ob q,fun b ob q _ _ _=>⟨ob.slots,k b ob q⟩,fun _ _ _ n _=>n,fun b ob q _=>⟨ob,k b ob q⟩,fun _ _ q=>q,fun _ _ _ q=>q,fun _ ps q=>⟨#[],by rw [q];simp⟩⟩
theorem Un.refl:Un fs ex H H h h:=Un.kept fun _ _ q=>q
theorem Un.laid (k:∀ b u,h.get? b=some u→h'.get? b=some u) (hp:h.objs.size≤a) (hn:H a=none):Un fs ex H (upd H a o) h h' where
 keep:=fun b u q _ _ _=>k b u q
 slot:=fun b u q _ _ _=>⟨u.slots,k b u q⟩
 free:=fun b u q n _=>by rw [zaJ (Nat.ne_of_lt (Nat.lt_of_lt_of_le (Heap.lt_size q) hp))];exact n
 there:=fun b u q _=>⟨u,k b u q⟩
 tups:=fun b xs q=>by rw [zaJ (zag q hn)];exact q
 frzs:=fun b u xs q=>by rw [zaJ (zag q hn)];exact q
 tbls:=fun b ps q=>⟨#[],by rw [zaJ (zag q hn),q];simp⟩
theorem Un.write (mu:Mut (H x)) (he:e=x∨H e=some (.own x)) (k:∀ b u,b≠e→h.get? b=some u→h'.get? b=some u) (heo:∃ u,h'.get? e=some u):Un fs ex H (upd H x o) h h':=by
 have hx:∀ b,H b=none→b≠x:=fun b n z=>by subst z;rw [n] at mu;exact mu
 have hb:∀ b,H b=none→b≠e:=fun b n z=>by
  subst z;rcases he with r | r
  ·exact hx b n r
  ·rw [n] at r;cases r
 have hm:∀ b u,H b=some u→¬Mut (some u)→b≠x:=fun b u q nm z=>by subst z;rw [q] at mu;exact nm mu
 refine ⟨fun b u q n _ _=>k b u (hb b n) q,fun b u q n _ _=>⟨u.slots,k b u (hb b n) q⟩,fun b u q n _=>by rw [zaJ (hx b n)];exact n,fun b u q _=>?_,
  fun b xs q=>by rw [zaJ (hm b _ q fun z=>z)];exact q,fun b u xs q=>by rw [zaJ (hm b _ q fun z=>z)];exact q,fun b ps q=>⟨#[],by rw [zaJ (hm b _ q fun z=>z),q];simp⟩⟩
 by_cases hbe:b=e
 ·subst hbe;exact heo
 ·exact ⟨u,k b u hbe q⟩
end
def trk (h:Heap) (H:Hp):List Addr:=(List.range h.objs.size).filter fun a=>(H a).isSome
def hidT (h:Heap) (H:Hp):Heap:=PySem.W.hideAll h (trk h H)
theorem zim (h:Heap) (H:Hp):(hidT h H).objs.size=h.objs.size:=PySem.W.hideAll_size _ _
theorem zjT {h:Heap} {H:Hp} {b:Addr} {o:Obj} (e:h.get? b=some o) (n:H b=none):(hidT h H).get? b=some o :=
 PySem.W.hideAll_get _ e fun hm=>by
  have q:(H b).isSome=true:=(List.mem_filter.mp hm).2;rw [n] at q;simp at q
theorem zle {h:Heap} {H:Hp} {b:Addr} {o:Obj} (e:(hidT h H).get? b=some o):h.get? b=some o∧H b=none:=by
 have e':h.get? b=some o:=PySem.W.of_hideAll (trk h H) e;refine ⟨e',?_⟩
 cases q:H b with
 | none=>rfl
 | some x =>
   have hm:b∈trk h H:=List.mem_filter.mpr ⟨List.mem_range.mpr (Heap.lt_size e'),by simp [q]⟩;have z:(hidT h H).get? b=none:=PySem.W.hideAll_none (trk h H) hm;rw [z] at e;cases e
end L2
namespace L2
open PySem PySem.Spec PyProof.Rows
structure Mod (K:PySem.W.Frag) (mg:Str→Option Value) (base:Heap):Prop where
 kin:K.In base
 glob:base.Ns mainGlobals mg
 blt:∃ mb,base.Ns builtinsNs mb∧∀ x:Str,x≠"__name__"→mb x=bootBuiltins x
 nolimit:base.NoLimit
structure Cx where
 prog:Program
 w:World
 K:PySem.W.Frag
 mg:Str→Option Value
 base:Heap
 A:Around
 N:List Str
 s₀:Shared
 H₀:Hp
 env:Env
 outer:List Env
 stack:List Env
 ex:List Addr
 fn:Str→Bool
 calm:Bool
 pn:List (Addr×Obj)
 xe:Value→Shared→Prop
def frs (l:List Env):List Addr:=l.filterMap (·.frame)
abbrev Cx.fs (X:Cx):List Addr:=frs X.outer
def Vis (sc:Scope) (x:Str):Prop:=sc.names.lookup x=some .local∨sc.names.lookup x=some .cell∨sc.names.lookup x=some .free
def Loc (sc:Scope) (x:Str):Prop:=sc.names.lookup x=some .local∨sc.names.lookup x=some .cell
def Look (env:Env) (h:Heap) (m:Str→Option Value) (x:Str) (u:Value):Prop :=
 (env.kindOf x=some .local∧m x=some u)∨((env.kindOf x=some .cell∨env.kindOf x=some .free)∧∃ c,env.cells.lookup x=some c∧h.IsCell c (some u))
structure Cx.Ok (X:Cx):Prop where
 mod:Mod X.K X.mg X.base
 kind:X.env.scope.kind=.function
 glob:X.env.globals=mainGlobals
 blt:X.env.builtins=builtinsNs
 above:X.s₀.heap.objs.size≤X.env.locals
 inj:∀ x y c,X.env.cells.lookup x=some c→X.env.cells.lookup y=some c→x=y
 has:∀ x,(X.env.kindOf x=some .cell∨X.env.kindOf x=some .free)→∃ c,X.env.cells.lookup x=some c
 cab:∀ x c,X.fn x=true→X.env.cells.lookup x=some c→X.s₀.heap.objs.size≤c
 hd:X.calm=true→X.A.handled=none
 frames:X.A.frames=some X.stack
 stk:X.stack=X.outer∨(X.stack=X.env::X.outer∧X.env.frame=some X.env.locals)
 exf:∀ b∈X.ex,b≠X.env.locals∧∀ x c,X.env.cells.lookup x=some c→c≠b
 bs:∀ b o,X.base.get? b=some o→X.s₀.heap.get? b=some o∧X.H₀ b=none
 bsz:X.base.objs.size≤X.s₀.heap.objs.size
 noex:∀ b o,X.base.get? b=some o→b∉X.ex
 exfs:∀ b∈X.ex,b∉X.fs
 funs:X.s₀.heap.FunFrames X.base X.outer
 frf:∀ b∈X.fs,X.H₀ b=none
structure Inv (X:Cx) (pins:List (Addr×Obj)) (σ:List (Option V)) (H:Hp) (s:Shared):Prop where
 ok:X.Ok
 os:s.os=X.s₀.os
 bare:AllBare s.gens
 base:Un X.fs X.ex X.H₀ H X.s₀.heap s.heap
 loc:∃ m,s.heap.Ns X.env.locals m∧∀ (i:Nat) (x:Str) (v:V),X.N[i]? = some x→σ[i]? = some (some v)→Vis X.env.scope x→∃ u,RelV v u∧Look X.env s.heap m x u
 cell:∀ x c,X.env.cells.lookup x=some c→∃ v,s.heap.IsCell c v
 free:H X.env.locals=none
 freeC:∀ x c,X.env.cells.lookup x=some c→H c=none
 pin:∀ p∈X.pn++pins,s.heap.get? p.1=some p.2∧H p.1=none∧p.1≠X.env.locals∧p.1∉X.fs∧∀ v,p.2.data≠.cell v
 hok:HOk X.prog X.w H s.heap
 len:σ.length=X.N.length
section
variable {X:Cx} {pins:List (Addr×Obj)} {σ:List (Option V)} {H H':Hp} {s:Shared} {h':Heap}
theorem Cx.Ok.nofr (ok:X.Ok) {b:Addr} {o:Obj} (e:X.base.get? b=some o):b∉X.fs:=fun hb=>by
 have:=(ok.funs.mem hb).1;rw [e] at this;cases this
theorem Inv.bs (I:Inv X pins σ H s):∀ b o,X.base.get? b=some o→s.heap.get? b=some o∧H b=none:=fun b o e =>
 ⟨I.base.keep b o (I.ok.bs b o e).1 (I.ok.bs b o e).2 (I.ok.nofr e) (I.ok.noex b o e),I.base.free b o (I.ok.bs b o e).1 (I.ok.bs b o e).2 (I.ok.noex b o e)⟩
theorem Inv.bk (I:Inv X pins σ H s):∀ b o,X.base.get? b=some o→s.heap.get? b=some o:=fun b o e=>(I.bs b o e).1
theorem Inv.mod (I:Inv X pins σ H s):Mod X.K X.mg X.base:=I.ok.mod
theorem Inv.kIn (I:Inv X pins σ H s):X.K.In s.heap:=I.ok.mod.kin.keeps I.bk
theorem Inv.lt (I:Inv X pins σ H s):X.env.locals < s.heap.objs.size:=let ⟨_,hn,_⟩:=I.loc;hn.lt
theorem Inv.sz (I:Inv X pins σ H s):X.s₀.heap.objs.size≤s.heap.objs.size:=Nat.le_trans I.ok.above (Nat.le_of_lt I.lt)
theorem Inv.nofs (I:Inv X pins σ H s) {a:Addr} (h:s.heap.objs.size≤a):a∉X.fs:=fun hb=>by
 obtain ⟨_,o,ho,_⟩:=I.ok.funs.mem hb;exact absurd (Nat.lt_of_lt_of_le (Heap.lt_size ho) (Nat.le_trans I.sz h)) (Nat.lt_irrefl _)
theorem Inv.cne (I:Inv X pins σ H s):∀ x c,X.env.cells.lookup x=some c→c≠X.env.locals:=fun x c e z=>by
 obtain ⟨v,o,ho,hd⟩:=I.cell x c e;obtain ⟨m,⟨o',es,ep,ho',hd',_⟩,_⟩:=I.loc;rw [z,ho'] at ho;cases ho;rw [hd'] at hd;cases hd
theorem Inv.funs (I:Inv X pins σ H s):s.heap.FunFrames X.base X.outer:=by
 have all:∀ (l:List Env),(∀ b∈frs l,b∈X.fs)→X.s₀.heap.FunFrames X.base l→s.heap.FunFrames X.base l:=by
  intro l
  induction l with
  | nil=>intro _ _;trivial
  | cons env r ih =>
    intro hs hl;obtain ⟨hk,⟨L,o,hf,hn,ho,hd⟩,hr⟩:=hl;have hL:L∈X.fs:=hs L (by unfold frs;rw [List.filterMap_cons,hf];exact List.mem_cons_self);obtain ⟨sl,e⟩:=I.base.slot L o ho (I.ok.frf L hL) hL fun z=>I.ok.exfs L z hL;exact ⟨hk,⟨L,_,hf,hn,e,hd⟩,ih (fun b hb=>hs b (by unfold frs;rw [List.filterMap_cons,hf];exact List.mem_cons_of_mem _ hb)) hr⟩
 exact all X.outer (fun _ hb=>hb) I.ok.funs
theorem Inv.stack (I:Inv X pins σ H s):s.heap.FunFrames X.base X.stack:=by
 rcases I.ok.stk with e | ⟨e,hf⟩
 ·rw [e];exact I.funs
 ·rw [e];obtain ⟨m,hn,_⟩:=I.loc;refine .cons (by rw [I.ok.kind];decide) hf hn ?_ I.funs;exact Heap.get?_none_of_le (Nat.le_trans I.ok.bsz I.ok.above)
theorem Inv.stkSub (I:Inv X pins σ H s):∀ b∈frs X.stack,b∈X.env.locals::X.fs:=fun b hb=>by
 rcases I.ok.stk with e | ⟨e,hf⟩
 ·rw [e] at hb;exact List.mem_cons_of_mem _ hb
 ·rw [e] at hb;unfold frs at hb;rw [List.filterMap_cons,hf] at hb;exact hb
theorem Inv.stkFree (I:Inv X pins σ H s):∀ b∈frs X.stack,H b=none:=fun b hb=>by
 rcases List.mem_cons.mp (I.stkSub b hb) with e | hb
 ·rw [e];exact I.free
 ·obtain ⟨_,o,ho,_⟩:=I.ok.funs.mem hb;exact I.base.free b o ho (I.ok.frf b hb) fun z=>I.ok.exfs b z hb
theorem Inv.step {g':Array GenState} {t':Nat} {d':Drawn} {ch:List Addr} (I:Inv X pins σ H s)
  (hch:∀ b∈ch,(b∈X.ex∨X.s₀.heap.objs.size≤b)∧b≠X.env.locals∧(∀ x c,X.env.cells.lookup x=some c→c≠b)∧∀ p∈X.pn++pins,p.1≠b)
  (keep:∀ b o,b≠X.env.locals→b∉X.fs→b∉ch→s.heap.get? b=some o→H b=none→h'.get? b=some o)
  (slot:∀ b o,b≠X.env.locals→b∈X.fs→b∉ch→s.heap.get? b=some o→H b=none→∃ sl,h'.get? b=some { o with slots:=sl }) (free:∀ b o,b∉ch→s.heap.get? b=some o→H b=none→H' b=none)
  (there:∀ b o,b∉ch→s.heap.get? b=some o→∃ o',h'.get? b=some o')
  (tups:∀ b xs,H b=some (.tup xs)→H' b=some (.tup xs)) (frzs:∀ b o u,H b=some (.frz o u)→H' b=some (.frz o u)) (tbls:∀ b ps,H b=some (.tbl ps)→∃ more,H' b=some (.tbl (ps++more)))
  (ns:∀ m,s.heap.Ns X.env.locals m→h'.Ns X.env.locals m) (hok:HOk X.prog X.w H' h') (hg:AllBare g') :
  Inv X pins σ H' { s with heap:=h',gens:=g',drawn:=d',toks:=t' }:=by
 have neL:∀ b o,X.s₀.heap.get? b=some o→b≠X.env.locals:=fun b o e=>Nat.ne_of_lt (Nat.lt_of_lt_of_le (Heap.lt_size e) I.ok.above);have neC:∀ b o,X.s₀.heap.get? b=some o→b∉X.ex→b∉ch:=fun b o e hx hb=>by
  rcases (hch b hb).1 with z | z
  ·exact hx z
  ·exact absurd (Nat.lt_of_lt_of_le (Heap.lt_size e) z) (Nat.lt_irrefl _)
 have cellK:∀ x c,X.env.cells.lookup x=some c→∀ v,s.heap.IsCell c v→h'.IsCell c v:=fun x c e v ⟨o,ho,hd⟩=>by
  have nch:c∉ch:=fun z=>(hch c z).2.2.1 x c e rfl
  by_cases hc:c∈X.fs
  ·obtain ⟨sl,q⟩:=slot c o (I.cne x c e) hc nch ho (I.freeC x c e);exact ⟨_,q,hd⟩
  ·exact ⟨o,keep c o (I.cne x c e) hc nch ho (I.freeC x c e),hd⟩
 refine ⟨I.ok,I.os,hg,⟨fun b o e n hb hx=>?_,fun b o e n hb hx=>?_,fun b o e n hx=>?_,fun b o e hx=>?_,fun b xs e=>tups b xs (I.base.tups b xs e),fun b o xs e=>frzs b o xs (I.base.frzs b o xs e),fun b ps e=>?_⟩,?_,fun x c e=>?_,?_,fun x c e=>?_,fun p hp=>?_,hok,I.len⟩
 ·exact keep b o (neL b o e) hb (neC b o e hx) (I.base.keep b o e n hb hx) (I.base.free b o e n hx)
 ·obtain ⟨sl,e1⟩:=I.base.slot b o e n hb hx;obtain ⟨sl',e2⟩:=slot b _ (neL b o e) hb (neC b o e hx) e1 (I.base.free b o e n hx);exact ⟨sl',e2⟩
 ·obtain ⟨o',e1⟩:=I.base.there b o e hx;exact free b o' (neC b o e hx) e1 (I.base.free b o e n hx)
 ·obtain ⟨o',e1⟩:=I.base.there b o e hx;exact there b o' (neC b o e hx) e1
 ·obtain ⟨m1,e1⟩:=I.base.tbls b ps e;obtain ⟨m2,e2⟩:=tbls b _ e1;exact ⟨m1++m2,by rw [e2,Array.append_assoc]⟩
 ·obtain ⟨m,hn,hl⟩:=I.loc;refine ⟨m,ns m hn,fun i x v e1 e2 e3=>?_⟩;obtain ⟨u,r,l⟩:=hl i x v e1 e2 e3;refine ⟨u,r,?_⟩;rcases l with l | ⟨k,c,e,z⟩
  ·exact .inl l
  ·exact .inr ⟨k,c,e,cellK x c e _ z⟩
 ·obtain ⟨v,z⟩:=I.cell x c e;exact ⟨v,cellK x c e v z⟩
 ·obtain ⟨m,⟨o,_,_,ho,_⟩,_⟩:=I.loc;exact free _ o (fun z=>(hch _ z).2.1 rfl) ho I.free
 ·obtain ⟨v,o,ho,hd⟩:=I.cell x c e;exact free c o (fun z=>(hch c z).2.2.1 x c e rfl) ho (I.freeC x c e)
 ·obtain ⟨e,n,ne,nf,d⟩:=I.pin p hp;have nch:p.1∉ch:=fun z=>(hch p.1 z).2.2.2 p hp rfl;exact ⟨keep p.1 p.2 ne nf nch e n,free p.1 p.2 nch e n,ne,nf,d⟩
theorem Inv.un {t':Nat} (I:Inv X pins σ H s) (u:Un X.fs [] H H' s.heap h') (hok:HOk X.prog X.w H' h'):Inv X pins σ H' { s with heap:=h',toks:=t' }:=by
 obtain ⟨m,⟨o,es,ep,ho,r⟩,_⟩:=id I.loc;obtain ⟨sl,hL⟩:=u.any ho I.free (by simp);exact I.step (g':=s.gens) (d':=s.drawn) (ch:=[]) (fun _ z=>nomatch z) (fun b o _ hb _ e n=>u.keep b o e n hb (by simp)) (fun b o _ hb _ e n=>u.slot b o e n hb (by simp)) (fun b o _ e n=>u.free b o e n (by simp)) (fun b o _ e=>u.there b o e (by simp)) u.tups u.frzs u.tbls (fun m' hm=>by
  obtain ⟨o',es',ep',ho',r'⟩:=hm;rw [ho] at ho';cases ho'
  exact ⟨_,es',ep',hL,r'⟩) hok I.bare
theorem Inv.call {g':Array GenState} {t':Nat} {d':Drawn} {ch:List Addr} (I:Inv X pins σ H s) (u:Un (frs X.stack) ch H H' s.heap h') (hok:HOk X.prog X.w H' h') (hg:AllBare g')
  (hch:∀ b∈ch,(b∈X.ex∨X.s₀.heap.objs.size≤b)∧b≠X.env.locals∧(∀ x c,X.env.cells.lookup x=some c→c≠b)∧∀ p∈X.pn++pins,p.1≠b) :
  Inv X pins σ H' { s with heap:=h',gens:=g',drawn:=d',toks:=t' }:=by
 obtain ⟨m,⟨o,es,ep,ho,r⟩,_⟩:=id I.loc;obtain ⟨sl,hL⟩:=u.any ho I.free fun z=>(hch _ z).2.1 rfl;exact I.step (ch:=ch) hch (fun b o hL hb hc e n=>u.keep b o e n (fun z=>(List.mem_cons.mp (I.stkSub b z)).elim hL hb) hc) (fun b o _ _ hc e n=>u.any e n hc) (fun b o hc e n=>u.free b o e n hc) (fun b o hc e=>u.there b o e hc) u.tups u.frzs u.tbls (fun m' hm=>by
  obtain ⟨o',es',ep',ho',r'⟩:=hm;rw [ho] at ho';cases ho'
  exact ⟨_,es',ep',hL,r'⟩) hok hg
theorem Inv.turned {t':Nat} {it:Addr} (I:Inv X pins σ H s) (k:∀ b o,b≠it→s.heap.get? b=some o→h'.get? b=some o) (hn:H it=none) (hL:it≠X.env.locals)
  (h1:it∈X.ex∨X.s₀.heap.objs.size≤it) (h2:∀ x c,X.env.cells.lookup x=some c→c≠it) (h3:∀ p∈X.pn++pins,p.1≠it):Inv X pins σ H { s with heap:=h',toks:=t' }:=by
 have nit:∀ b u,H b=some u→b≠it:=fun b u e z=>by rw [z,hn] at e;cases e
 refine I.step (g':=s.gens) (d':=s.drawn) (ch:=[it]) (fun b hb=>?_) (fun b o _ _ hc e _=>k b o (fun z=>hc (by simp [z])) e) (fun b o _ _ hc e _=>⟨o.slots,k b o (fun z=>hc (by simp [z])) e⟩) (fun _ _ _ _ n=>n)
  (fun b o hc e=>⟨o,k b o (fun z=>hc (by simp [z])) e⟩) (fun _ _ e=>e) (fun _ _ _ e=>e) (fun b ps e=>⟨#[],by rw [e];simp⟩) (fun m hm=>?_) (fun b u e=>?_) I.bare
 ·have e:b=it:=by simpa using hb
  subst e;exact ⟨h1,hL,h2,h3⟩
 ·obtain ⟨o,es,ep,ho,r⟩:=hm;exact ⟨o,es,ep,k _ o (Ne.symm hL) ho,r⟩
 ·refine (I.hok b u e).stay (fun c v hc q=>k c v ?_ q) (fun _ q=>q) fun _ _ q=>q;rcases hc with z | z
  ·rw [z];exact nit b u e
  ·exact nit c _ z
theorem Inv.tok (I:Inv X pins σ H s) (t:Nat):Inv X pins σ H { s with toks:=t }:=I.un (h':=s.heap) (t':=t) Un.refl I.hok
theorem Inv.kept {t':Nat} (I:Inv X pins σ H s) (k:∀ b u,s.heap.get? b=some u→h'.get? b=some u):Inv X pins σ H { s with heap:=h',toks:=t' }:=I.un (Un.kept k) (I.hok.kept k)
theorem Inv.laid {a:Addr} {o:HO} {t':Nat} (I:Inv X pins σ H s) (k:∀ b u,s.heap.get? b=some u→h'.get? b=some u) (hp:s.heap.objs.size≤a) (new:zbD X.prog X.w (upd H a o) h' a o) :
  Inv X pins σ (upd H a o) { s with heap:=h',toks:=t' }:=I.un (Un.laid k hp (I.hok.fresh hp)) (I.hok.laid k hp new)
theorem Inv.write {x e:Addr} {o:HO} {t':Nat} (I:Inv X pins σ H s) (mu:Mut (H x)) (he:e=x∨H e=some (.own x)) (k:∀ b u,b≠e→s.heap.get? b=some u→h'.get? b=some u) (heo:∃ u,h'.get? e=some u)
  (new:zbD X.prog X.w (upd H x o) h' x o):Inv X pins σ (upd H x o) { s with heap:=h',toks:=t' }:=I.un (Un.write mu he k heo) (I.hok.write mu he k heo new)
theorem Inv.pins_of {pins':List (Addr×Obj)} (I:Inv X pins σ H s) (h:∀ p∈pins',s.heap.get? p.1=some p.2∧H p.1=none∧p.1≠X.env.locals∧p.1∉X.fs∧∀ v,p.2.data≠.cell v):Inv X pins' σ H s :=
 ⟨I.ok,I.os,I.bare,I.base,I.loc,I.cell,I.free,I.freeC,fun p hp=>(List.mem_append.mp hp).elim (fun z=>I.pin p (List.mem_append_left _ z)) (h p),I.hok,I.len⟩
theorem zha {N:List Str} (hN:N.Nodup) {i j:Nat} {x:Str} (a:N[i]? = some x) (b:N[j]? = some x):i=j:=by
 obtain ⟨h1,e1⟩:=List.getElem?_eq_some_iff.mp a;obtain ⟨h2,e2⟩:=List.getElem?_eq_some_iff.mp b;exact (List.getElem_inj hN).mp (e1.trans e2.symm)
theorem zfO {M:Model} {A:Around} {E:Value→Shared→Prop} {i:Nat} {x:Str} {v:V} {u:Value} {Q:Unit→Shared→Prop} (I:Inv X pins σ H s) (hN:X.N.Nodup) (hi:X.N[i]? = some x) (hx:Loc X.env.scope x) (r:RelV v u)
  (h:∀ s',Inv X pins (σ.set i (some v)) H s'→(∃ a,Heap.SameBut a s.heap s'.heap∧(a=X.env.locals∨X.env.cells.lookup x=some a))→Q () s') (hf:X.fn x=true∨X.env.scope.names.lookup x=some .local:=by first | exact .inl rfl | exact .inr rfl | assumption):wpAny M A (storeName X.env x u) Q E s:=by
 obtain ⟨m,hn,hl⟩:=id I.loc;have hcls:(X.env.scope.kind == .class || (X.env.scope.kind == .module && X.env.locals != X.env.globals))=false:=by rw [I.ok.kind];rfl
 have hiσ:i < σ.length:=by rw [I.len];exact (List.getElem?_eq_some_iff.mp hi).1
 have cne:=I.cne;have tracked:∀ {a:Addr} {h':Heap},(∃ o,s.heap.get? a=some o∧H a=none)→Heap.SameBut a s.heap h'→HOk X.prog X.w H h':=fun {a h'} ha hs b ob e=>by
  obtain ⟨_,_,hfree⟩:=ha;refine (I.hok b ob e).stay (fun c w' hc q=>(hs.2 c ?_).trans q) (fun _ q=>q) fun _ _ q=>q;rintro rfl;rcases hc with rfl | hc
  ·rw [hfree] at e;cases e
  ·rw [hfree] at hc;cases hc
 rcases hx with hk | hk
 ·refine wpAny_storeName_local hk hn (fun h' hn' hs=>?_) hcls;obtain ⟨oL,_,_,hoL,_⟩:=id hn;refine h _ ⟨I.ok,I.os,I.bare,⟨fun b o e n hb hx=>?_,fun b o e n hb hx=>?_,I.base.free,fun b o e hx=>?_,I.base.tups,I.base.frzs,I.base.tbls⟩,⟨_,hn',fun j y v' e1 e2 e3=>?_⟩,fun y c e=>?_,I.free,I.freeC,fun p hp=>?_,tracked ⟨oL,hoL,I.free⟩ hs,by simpa using I.len⟩ ⟨_,hs,.inl rfl⟩
  ·exact (hs.2 b (Nat.ne_of_lt (Nat.lt_of_lt_of_le (Heap.lt_size e) I.ok.above))).trans (I.base.keep b o e n hb hx)
  ·obtain ⟨sl,e1⟩:=I.base.slot b o e n hb hx;exact ⟨sl,(hs.2 b (Nat.ne_of_lt (Nat.lt_of_lt_of_le (Heap.lt_size e) I.ok.above))).trans e1⟩
  ·obtain ⟨o',e1⟩:=I.base.there b o e hx;exact ⟨o',(hs.2 b (Nat.ne_of_lt (Nat.lt_of_lt_of_le (Heap.lt_size e) I.ok.above))).trans e1⟩
  ·by_cases hj:j=i
   ·subst hj;rw [hi] at e1;cases e1
    rw [List.getElem?_set_self hiσ] at e2
    cases e2
    exact ⟨u,r,.inl ⟨hk,by simp⟩⟩
   ·rw [List.getElem?_set_ne (Ne.symm hj)] at e2;obtain ⟨u',r',q⟩:=hl j y v' e1 e2 e3;refine ⟨u',r',?_⟩;rcases q with ⟨k,e⟩ | ⟨k,c,e,z⟩
    ·refine .inl ⟨k,?_⟩;have:y≠x:=fun e=>hj (zha hN e1 (e▸hi));simp [this,e]
    ·exact .inr ⟨k,c,e,z.sameBut hs (cne y c e)⟩
  ·obtain ⟨w',z⟩:=I.cell y c e;exact ⟨w',z.sameBut hs (cne y c e)⟩
  ·obtain ⟨e,n,ne,nf,d⟩:=I.pin p hp;exact ⟨(hs.2 p.1 ne).trans e,n,ne,nf,d⟩
 ·have hfn:X.fn x=true:=by
   rcases hf with z | z
   ·exact z
   ·rw [z] at hk;cases hk
  obtain ⟨c,hc⟩:=I.ok.has x (.inl hk);obtain ⟨w',z⟩:=I.cell x c hc;refine wpAny_storeName_cell I.ok.kind hk hc z (fun h' hc' hs=>?_);obtain ⟨oc,hoc,hocd⟩:=id z;refine h { s with heap:=h' } ⟨I.ok,I.os,I.bare,⟨fun b o e n hb hx=>?_,fun b o e n hb hx=>?_,I.base.free,fun b o e hx=>?_,I.base.tups,I.base.frzs,I.base.tbls⟩,⟨m,hn.sameBut hs (Ne.symm (cne x c hc)),fun j y v' e1 e2 e3=>?_⟩,fun y c' e=>?_,I.free,I.freeC,fun p hp=>?_,tracked ⟨oc,hoc,I.freeC x c hc⟩ hs,by simpa using I.len⟩ ⟨c,hs,.inr hc⟩
  ·exact (hs.2 b (Nat.ne_of_lt (Nat.lt_of_lt_of_le (Heap.lt_size e) (I.ok.cab x c hfn hc)))).trans (I.base.keep b o e n hb hx)
  ·obtain ⟨sl,e1⟩:=I.base.slot b o e n hb hx;exact ⟨sl,(hs.2 b (Nat.ne_of_lt (Nat.lt_of_lt_of_le (Heap.lt_size e) (I.ok.cab x c hfn hc)))).trans e1⟩
  ·obtain ⟨o',e1⟩:=I.base.there b o e hx;exact ⟨o',(hs.2 b (Nat.ne_of_lt (Nat.lt_of_lt_of_le (Heap.lt_size e) (I.ok.cab x c hfn hc)))).trans e1⟩
  ·by_cases hj:j=i
   ·subst hj;rw [hi] at e1;cases e1
    rw [List.getElem?_set_self hiσ] at e2
    cases e2
    exact ⟨u,r,.inr ⟨.inl hk,c,hc,hc'⟩⟩
   ·rw [List.getElem?_set_ne (Ne.symm hj)] at e2;obtain ⟨u',r',q⟩:=hl j y v' e1 e2 e3;refine ⟨u',r',?_⟩;rcases q with q | ⟨k,c',e,z'⟩
    ·exact .inl q
    ·refine .inr ⟨k,c',e,z'.sameBut hs ?_⟩;rintro rfl;exact hj (zha hN e1 (I.ok.inj _ _ _ e hc▸hi))
  ·by_cases hcc:c'=c
   ·subst hcc;exact ⟨_,hc'⟩
   ·obtain ⟨w2,z2⟩:=I.cell y c' e;exact ⟨w2,z2.sameBut hs hcc⟩
  ·obtain ⟨e,n,ne,nf,d⟩:=I.pin p hp;refine ⟨(hs.2 p.1 ?_).trans e,n,ne,nf,d⟩;intro q;rw [q,hoc] at e;have q':oc=p.2:=Option.some.inj e;exact d w' (by rw [← q'];exact hocd)
theorem zhb {M:Model} {A:Around} {E:Value→Shared→Prop} {i:Nat} {x:Str} {v:V} {u:Value} {Q:Unit→Shared→Prop} (I:Inv X pins σ H s) (hN:X.N.Nodup) (hi:X.N[i]? = some x) (hx:Loc X.env.scope x) (r:RelV v u)
  (h:∀ s',Inv X pins (σ.set i (some v)) H s'→Q () s') (hf:X.fn x=true∨X.env.scope.names.lookup x=some .local:=by first | exact .inl rfl | exact .inr rfl | assumption):wpAny M A (storeName X.env x u) Q E s :=
 zfO I hN hi hx r (fun s' I' _=>h s' I') hf
theorem Inv.call' {s':Shared} {ch:List Addr} (I:Inv X pins σ H s) (ho:s'.os=s.os) (u:Un (frs X.stack) ch H H' s.heap s'.heap) (hok:HOk X.prog X.w H' s'.heap) (hg:AllBare s'.gens)
  (hch:∀ b∈ch,(b∈X.ex∨X.s₀.heap.objs.size≤b)∧b≠X.env.locals∧(∀ x c,X.env.cells.lookup x=some c→c≠b)∧∀ p∈X.pn++pins,p.1≠b):Inv X pins σ H' s':=by
 obtain ⟨h',g',d',t',o'⟩:=s';have e:o'=s.os:=ho;subst e;exact I.call (g':=g') (t':=t') (d':=d') u hok hg hch
end
abbrev XK:=Value→Option Addr→Hp→Prop
abbrev St:=List (Option V)
abbrev VK:=V→Hp→Prop
abbrev TE:=St→Hp→VK→Prop
abbrev TT:=St→Hp→(Bool→Hp→Prop)→Prop
abbrev TA:=St→Hp→(List V→Hp→Prop)→Prop
structure Ends where
 nx:St→Hp→Prop
 rt:VK
 bk:St→Hp→Prop:=fun _ _=>False
 ct:St→Hp→Prop:=fun _ _=>False
abbrev TS:=Ends→St→Hp→Prop
def EP (X:Cx) (pins:List (Addr×Obj)) (σ:St) (Q:VK) (u:Value) (s':Shared):Prop:=∃ v H',Inv X pins σ H' s'∧RelV v u∧Q v H'
def TP (X:Cx) (pins:List (Addr×Obj)) (σ:St) (Q:Bool→Hp→Prop) (b:Bool) (s':Shared):Prop:=∃ H',Inv X pins σ H' s'∧Q b H'
def AP (X:Cx) (pins:List (Addr×Obj)) (σ:St) (Q:List V→Hp→Prop) (us:List Value) (s':Shared):Prop:=∃ vs H',Inv X pins σ H' s'∧Vals vs us∧Q vs H'
def SP (X:Cx) (pins:List (Addr×Obj)) (D:Ends) (f:Flow) (s':Shared):Prop :=
 match f with
 | .next=>∃ σ' H',Inv X pins σ' H' s'∧D.nx σ' H'
 | .brk=>∃ σ' H',Inv X pins σ' H' s'∧D.bk σ' H'
 | .cont=>∃ σ' H',Inv X pins σ' H' s'∧D.ct σ' H'
 | .ret u=>∃ v σ' H',Inv X pins σ' H' s'∧RelV v u∧D.rt v H'
def PE (X:Cx) (e:Expr) (t:TE):Prop :=
 ∀ (pins:List (Addr×Obj)) (s:Shared) (σ:St) (H:Hp) (Q:VK),Inv X pins σ H s→t σ H Q→wpAny (model X.prog X.w) X.A (eval e X.env) (EP X pins σ Q) X.xe s
def PT (X:Cx) (e:Expr) (t:TT):Prop :=
 ∀ (pins:List (Addr×Obj)) (s:Shared) (σ:St) (H:Hp) (Q:Bool→Hp→Prop),Inv X pins σ H s→t σ H Q→wpAny (model X.prog X.w) X.A (isTrue e X.env (eval e X.env)) (TP X pins σ Q) X.xe s
def PW (X:Cx) (e:Expr) (t:TT):Prop :=
 ∀ (whole:Sem Value) (pins:List (Addr×Obj)) (s:Shared) (σ:St) (H:Hp) (Q:Bool→Hp→Prop),Inv X pins σ H s→t σ H Q→wpAny (model X.prog X.w) X.A (isTrue e X.env whole) (TP X pins σ Q) X.xe s
theorem PW.pt {X:Cx} {e:Expr} {t:TT} (h:PW X e t):PT X e t:=h _
def PA (X:Cx) (es:List Expr) (t:TA):Prop :=
 ∀ (pos:Pos) (pins:List (Addr×Obj)) (s:Shared) (σ:St) (H:Hp) (Q:List V→Hp→Prop),Inv X pins σ H s→t σ H Q→wpAny (model X.prog X.w) X.A (spliced (backTo pos (starEach es X.env))) (AP X pins σ Q) X.xe s
def PS (X:Cx) (st:Stmt) (t:TS):Prop :=
 ∀ (pins:List (Addr×Obj)) (s:Shared) (σ:St) (H:Hp) (D:Ends),Inv X pins σ H s→t D σ H→wpAny (model X.prog X.w) X.A (exec st X.env) (SP X pins D) X.xe s
def PSs (X:Cx) (st:List Stmt) (t:TS):Prop :=
 ∀ (pins:List (Addr×Obj)) (s:Shared) (σ:St) (H:Hp) (D:Ends),Inv X pins σ H s→t D σ H→wpAny (model X.prog X.w) X.A (execs st X.env) (SP X pins D) X.xe s
theorem thn {α:Type} {t:Sem α} {Q Q':α→Shared→Prop} {M:Model} {A:Around} {E:Value→Shared→Prop} {s:Shared} (h:wpAny M A t Q E s) (hQ:∀ a s,Q a s→Q' a s):wpAny M A t Q' E s:=wpAny_mono h hQ fun _ _ x=>x
end L2
namespace L2
open PySem PySem.Spec PyProof.Rows
section
variable {X:Cx}
def tVar (i:Nat):TE:=fun σ H Q=>∃ v,σ[i]? = some (some v)∧Q v H
def tC (v:V):TE:=fun _ H Q=>Q v H
theorem zmf {i:Nat} {x:Str} {pos:Pos} (hN:X.N[i]? = some x) (hv:Vis X.env.scope x) (hd:(x == ("__debug__" : Str))=false:=by decide) (hcd:(x == ("__classdict__" : Str))=false:=by decide):PE X (.Name x pos) (tVar i):=by
 intro pins s σ H Q I h;obtain ⟨v,e,h⟩:=h;obtain ⟨m,hn,hl⟩:=I.loc;obtain ⟨u,r,l⟩:=hl i x v hN e hv;have fin:EP X pins σ Q u s:=⟨v,H,I,r,h⟩
 rcases l with ⟨hk,hm⟩ | ⟨hk,c,hc,hcell⟩
 ·exact wpAny_Name (wpAny_loadName_local I.ok.kind hk hn hm fin) hd
 ·rcases hk with hk | hk
  ·exact wpAny_Name (wpAny_loadName_cell I.ok.kind hk hc hcell fin) hd
  ·exact wpAny_Name (wpAny_loadName_free I.ok.kind hk hc hcell fin hcd) hd
theorem zae {i j pos}:PE X (.Constant (.int i) j pos) (tC (.int i)):=fun _ _ _ H _ I h=>wpAny_Constant_int ⟨.int i,H,I.tok _,⟨_,rfl⟩,h⟩
theorem zbJ {b j pos}:PE X (.Constant (.bool b) j pos) (tC (.bl b)):=fun _ _ _ H _ I h=>Constant_bool ⟨.bl b,H,I,rfl,h⟩
theorem zb5 {j pos}:PE X (.Constant .none j pos) (tC .non):=fun _ _ _ H _ I h=>Constant_none ⟨.non,H,I,rfl,h⟩
theorem zaQ {x j pos}:PE X (.Constant (.str x) j pos) (tC (.str x)):=fun _ _ _ H _ I h=>Calls.Constant_str ⟨.str x,H,I.tok _,⟨_,rfl⟩,h⟩
def Gl (X:Cx) (x:Str):Prop:=X.env.kindOf x=some .globalImplicit
theorem zda {E:Value→Shared→Prop} {pins:List (Addr×Obj)} {s:Shared} {σ:St} {H:Hp} {x:Str} {u:Value} {pos:Pos} {Q:Value→Shared→Prop} (I:Inv X pins σ H s) (hg:Gl X x) (hm:X.mg x=some u) (h:Q u s)
  (hd:(x == ("__debug__" : Str))=false:=by decide):wpAny (model X.prog X.w) X.A (eval (.Name x pos) X.env) Q E s :=
 Calls.Name_function_global I.ok.kind hg (Calls.loadGlobal_global (by rw [I.ok.glob];exact I.mod.glob.keeps I.bk) hm h) hd
theorem zdi {E:Value→Shared→Prop} {pins:List (Addr×Obj)} {s:Shared} {σ:St} {H:Hp} {x:Str} {u:Value} {pos:Pos} {Q:Value→Shared→Prop} (I:Inv X pins σ H s) (hg:Gl X x) (hm:X.mg x=none) (hv:bootBuiltins x=some u) (h:Q u s)
  (hn:x≠"__name__":=by decide) (hd:(x == ("__debug__" : Str))=false:=by decide):wpAny (model X.prog X.w) X.A (eval (.Name x pos) X.env) Q E s:=by
 obtain ⟨mb,h1,h2⟩:=I.mod.blt;exact Calls.Name_function_global I.ok.kind hg (Calls.loadGlobal_builtin (by rw [I.ok.glob];exact I.mod.glob.keeps I.bk) hm (by rw [I.ok.blt];exact h1.keeps I.bk) ((h2 x hn).trans hv) h) hd
theorem zcF {x:Str} {v:V} {u:Value} {pos:Pos} (hg:Gl X x) (hm:X.mg x=some u) (r:RelV v u) (hd:(x == ("__debug__" : Str))=false:=by decide):PE X (.Name x pos) (tC v) :=
 fun _ _ _ H _ I h=>zda I hg hm ⟨v,H,I,r,h⟩ hd
theorem zdF {x:Str} {v:V} {u:Value} {pos:Pos} (hg:Gl X x) (hm:X.mg x=none) (hv:bootBuiltins x=some u) (r:RelV v u) (hn:x≠"__name__":=by decide) (hd:(x == ("__debug__" : Str))=false:=by decide):PE X (.Name x pos) (tC v) :=
 fun _ _ _ H _ I h=>zdi I hg hm hv ⟨v,H,I,r,h⟩ hn hd
variable {a b:Expr} {ta tb:TE} {pos:Pos}
def PC (X:Cx) (op:CmpOp) (a b:Expr) (t:TE):Prop :=
 ∀ (pins:List (Addr×Obj)) (s:Shared) (σ:St) (H:Hp) (Q:VK),Inv X pins σ H s→t σ H Q →
  wpAny (model X.prog X.w) X.A (eval a X.env) (fun v s₁=>wpAny (model X.prog X.w) X.A (eval b X.env) (fun u s₂=>wpAny (model X.prog X.w) X.A (compareOp op v u) (EP X pins σ Q) X.xe s₂) X.xe s₁) X.xe s
theorem zjU (b:Expr) {op:CmpOp} (h:op≠.In) (h2:op≠.NotIn):behindInMarks op b=false:=by
 have e1:(op == CmpOp.In)=false:=by cases op <;> first | rfl | exact absurd rfl h
 have e2:(op == CmpOp.NotIn)=false:=by cases op <;> first | rfl | exact absurd rfl h2
 cases b <;> simp [behindInMarks,e1,e2]
def tB (t:TE):TT:=fun σ H Q=>t σ H fun x H1=>∃ c,x=.bl c∧Q c H1
theorem zkS {op:CmpOp} {t:TE} (h:PC X op a b t) (h1:behindInMarks op b=false:=by first | exact zjU _ (by decide) (by decide) | rfl):PT X (.Compare a [op] [b] pos) (tB t):=by
 intro pins s σ H Q I hw;refine wpAny_isTrue_Compare1 (thn (h pins s σ H _ I hw) fun v s1 h1=>thn h1 fun u s2 h2=>thn h2 fun c s3 ⟨x,H1,I1,r1,q1⟩=>?_) h1;obtain ⟨d,rfl,q⟩:=q1
 cases r1
 exact wpAny_truthy_bool ⟨H1,I1,q⟩
variable {tA tB':TT} {rest:List Expr}
def tAnd (t u:TT):TT:=fun σ H Q=>t σ H fun c H1=>if c=true then u σ H1 Q else Q false H1
def tOr (t u:TT):TT:=fun σ H Q=>t σ H fun c H1=>if c=true then Q true H1 else u σ H1 Q
def tNot (t:TT):TT:=fun σ H Q=>t σ H fun c H1=>Q (!c) H1
theorem zin (ha:PT X a tA):PW X (.BoolOp .And [a] pos) tA:=by
 intro wh pins s σ H Q I h;refine isTrue_and (thn (ha pins s σ H Q I h) fun c s1 e=>?_)
 cases c with
 | true=>exact isTrue_and_nil e
 | false=>exact e
theorem zdj (ha:PT X a tA):PW X (.BoolOp .Or [a] pos) tA:=by
 intro wh pins s σ H Q I h;refine isTrue_or (thn (ha pins s σ H Q I h) fun c s1 e=>?_)
 cases c with
 | false=>exact isTrue_or_nil e
 | true=>exact e
theorem zkT (ha:PT X a tA) (hb:PW X (.BoolOp .And (b::rest) pos) tB'):PW X (.BoolOp .And (a::b::rest) pos) (tAnd tA tB'):=by
 intro wh pins s σ H Q I h;refine isTrue_and (thn (ha pins s σ H _ I h) fun c s1 ⟨H1,I1,q1⟩=>?_)
 cases c with
 | true=>exact hb wh pins s1 σ H1 Q I1 q1
 | false=>exact ⟨H1,I1,q1⟩
theorem zeW (ha:PT X a tA) (hb:PW X (.BoolOp .Or (b::rest) pos) tB'):PW X (.BoolOp .Or (a::b::rest) pos) (tOr tA tB'):=by
 intro wh pins s σ H Q I h;refine isTrue_or (thn (ha pins s σ H _ I h) fun c s1 ⟨H1,I1,q1⟩=>?_)
 cases c with
 | true=>exact ⟨H1,I1,q1⟩
 | false=>exact hb wh pins s1 σ H1 Q I1 q1
theorem zcw (ha:PT X a tA):PT X (.UnaryOp .Not a pos) (tNot tA):=by
 intro pins s σ H Q I h;exact isTrue_not (ha pins s σ H (fun c H1=>Q (!c) H1) I h)
def zmg (ta tb:TE):TE:=fun σ H Q=>ta σ H fun x H1=>∃ c,x=.bl c∧if c=true then tb σ H1 Q else Q (.bl false) H1
def zmh (ta:TE):TE:=fun σ H Q=>ta σ H fun x H1=>∃ c,x=.bl c∧Q (.bl (!c)) H1
theorem zmi {op} {t:TE} (h:PE X a t):PE X (.BoolOp op [a] pos) t:=fun pins s σ H Q I hw=>BoolOp_one (h pins s σ H Q I hw)
theorem zmj (ha:PE X a ta) (hb:PE X (.BoolOp .And (b::rest) pos) tb):PE X (.BoolOp .And (a::b::rest) pos) (zmg ta tb):=by
 intro pins s σ H Q I h;refine BoolOp_and (thn (ha pins s σ H _ I h) fun v s1 ⟨x,H1,I1,r1,q1⟩=>?_);obtain ⟨c,rfl,q1⟩:=q1
 cases r1
 refine wpAny_truthy_bool ?_
 cases c with
 | true=>exact hb pins s1 σ H1 Q I1 q1
 | false=>exact ⟨.bl false,H1,I1,rfl,q1⟩
theorem zmk (ha:PE X a ta):PE X (.UnaryOp .Not a pos) (zmh ta):=by
 intro pins s σ H Q I h;refine UnaryOp_ (thn (ha pins s σ H _ I h) fun v s1 ⟨x,H1,I1,r1,q1⟩=>?_);obtain ⟨c,rfl,q1⟩:=q1
 cases r1
 exact not_of (wpAny_truthy_bool ⟨.bl (!c),H1,I1,rfl,q1⟩)
def tIf (t:TT) (ta tb:TE):TE:=fun σ H Q=>t σ H fun c H1=>if c=true then ta σ H1 Q else tb σ H1 Q
theorem zjV {c:Expr} (hc:PT X c tA) (ha:PE X a ta) (hb:PE X b tb):PE X (.IfExp c a b pos) (tIf tA ta tb):=by
 intro pins s σ H Q I h;refine wpAny_IfExp (thn (hc pins s σ H _ I h) fun d s1 ⟨H1,I1,q1⟩=>?_)
 cases d with
 | true=>exact ha pins s1 σ H1 Q I1 q1
 | false=>exact hb pins s1 σ H1 Q I1 q1
end
end L2
namespace L2
open PySem PySem.Spec PyProof.Rows
def SqL (K:PySem.W.Frag) (H:Hp) (a:Addr) (xs:List V):Prop :=
 Rd H a (.lst xs) ∨
  ∃ (o:Obj) (its:Array Value) (n:Nat),K.lookup a=some o∧o.cls=.type "list"∧o.dict=none∧o.data=.seq its n∧its.size≤sizeLine∧Vals xs its.toList
def SqT (K:PySem.W.Frag) (H:Hp) (a:Addr) (xs:List V):Prop :=
 Rd H a (.tup xs) ∨
  ∃ (o:Obj) (its:Array Value) (n:Nat),K.lookup a=some o∧o.cls=.type "tuple"∧o.data=.seq its n∧its.size≤sizeLine∧Vals xs its.toList
def absV:Value→Option V
 | .none=>some .non
 | .bool b=>some (.bl b)
 | .int i _=>some (.int i)
 | .str x _=>some (.str x)
 | .bytes b _=>some (.byt b)
 | .float b _=>some (.flt b)
 | .ref a=>some (.ref a)
 | .type n=>some (.ty n)
 | _=>none
theorem RelV.abs {x:V} {u:Value} (r:RelV x u):absV u=some x:=by
 cases x with
 | non=>cases r;rfl
 | bl _=>cases r;rfl
 | int _=>obtain ⟨t,rfl⟩:=r;rfl
 | str _=>obtain ⟨t,rfl⟩:=r;rfl
 | byt _=>obtain ⟨t,rfl⟩:=r;rfl
 | flt _=>obtain ⟨t,rfl⟩:=r;rfl
 | ref _=>cases r;rfl
 | ty _=>cases r;rfl
theorem RelV.inj {x y:V} {u:Value} (r:RelV x u) (q:RelV y u):x=y:=Option.some.inj (r.abs.symm.trans q.abs)
theorem Vals.inj:∀ {xs ys:List V} {us:List Value},Vals xs us→Vals ys us→xs=ys
 | _,_,_,.nil,.nil=>rfl
 | _,_,_,.cons r t,.cons r' t'=>by rw [r.inj r',Vals.inj t t']
section
variable {X:Cx} {pins:List (Addr×Obj)} {σ:St} {H:Hp} {s:Shared} {a:Addr} {xs ys:List V}
theorem SqL.of {K:PySem.W.Frag} (h:H a=some (.lst xs)):SqL K H a xs:=.inl (.inl h)
theorem SqT.of {K:PySem.W.Frag} (h:H a=some (.tup xs)):SqT K H a xs:=.inl (.inl h)
theorem Inv.list (I:Inv X pins σ H s) (h:SqL X.K H a xs):∃ its:List Value,Vals xs its∧PlainL s.heap a its.toArray∧xs.length≤sizeLine:=by
 rcases h with h | ⟨o,its,n,hk,hc,hd,hs,hz,r⟩
 ·obtain ⟨z,its,n,r,e⟩:=h.ok I.hok;exact ⟨its,r,⟨_,n,e,rfl,rfl,rfl⟩,z⟩
 ·refine ⟨its.toList,r,⟨o,n,I.kIn a o hk,hc,hd,by simpa using hs⟩,?_⟩;have e:=r.length;simp only [Array.length_toList] at e;omega
theorem Inv.tuple (I:Inv X pins σ H s) (h:SqT X.K H a xs):∃ its:List Value,Vals xs its∧IsTup s.heap a its.toArray∧xs.length≤sizeLine:=by
 rcases h with h | ⟨o,its,n,hk,hc,hs,hz,r⟩
 ·obtain ⟨z,its,r,p⟩:=h.ok I.hok;exact ⟨its,r,p,z⟩
 ·refine ⟨its.toList,r,⟨o,I.kIn a o hk,hc,n,by simpa using hs⟩,?_⟩;have e:=r.length;simp only [Array.length_toList] at e;omega
theorem Inv.list_inj (I:Inv X pins σ H s) (h:SqL X.K H a xs) (h':SqL X.K H a ys):xs=ys:=by
 obtain ⟨its,r,⟨o,n,e,_,_,d⟩,_⟩:=I.list h;obtain ⟨its',r',⟨o',n',e',_,_,d'⟩,_⟩:=I.list h';rw [e] at e';cases e'
 rw [d] at d';injection d' with d1 _;have:its=its':=by simpa using congrArg Array.toList d1
 subst this;exact r.inj r'
end
abbrev Cx.wish (X:Cx) (E:Value→Shared→Prop):Cx:={ X with xe:=E }
abbrev Cx.nox (X:Cx):Cx:=X.wish fun _ _=>False
theorem Cx.Ok.wish {X:Cx} (ok:X.Ok) (E:Value→Shared→Prop):(X.wish E).Ok :=
 ⟨ok.mod,ok.kind,ok.glob,ok.blt,ok.above,ok.inj,ok.has,ok.cab,ok.hd,ok.frames,ok.stk,ok.exf,ok.bs,ok.bsz,ok.noex,ok.exfs,ok.funs,ok.frf⟩
theorem Cx.Ok.unwish {X:Cx} {E:Value→Shared→Prop} (ok:(X.wish E).Ok):X.Ok :=
 ⟨ok.mod,ok.kind,ok.glob,ok.blt,ok.above,ok.inj,ok.has,ok.cab,ok.hd,ok.frames,ok.stk,ok.exf,ok.bs,ok.bsz,ok.noex,ok.exfs,ok.funs,ok.frf⟩
section
variable {X:Cx} {pins:List (Addr×Obj)} {σ:St} {H:Hp} {s:Shared} {E:Value→Shared→Prop}
theorem Inv.wish (I:Inv X pins σ H s) (E:Value→Shared→Prop):Inv (X.wish E) pins σ H s:=⟨I.ok.wish E,I.os,I.bare,I.base,I.loc,I.cell,I.free,I.freeC,I.pin,I.hok,I.len⟩
theorem Inv.unwish (I:Inv (X.wish E) pins σ H s):Inv X pins σ H s:=⟨I.ok.unwish,I.os,I.bare,I.base,I.loc,I.cell,I.free,I.freeC,I.pin,I.hok,I.len⟩
theorem SP.unwish {D:Ends} {f:Flow} {s':Shared} (h:SP (X.wish E) pins D f s'):SP X pins D f s':=by
 cases f with
 | next=>obtain ⟨σ',H',I,q⟩:=h;exact ⟨σ',H',I.unwish,q⟩
 | brk=>obtain ⟨σ',H',I,q⟩:=h;exact ⟨σ',H',I.unwish,q⟩
 | cont=>obtain ⟨σ',H',I,q⟩:=h;exact ⟨σ',H',I.unwish,q⟩
 | ret u=>obtain ⟨v,σ',H',I,r,q⟩:=h;exact ⟨v,σ',H',I.unwish,r,q⟩
theorem PSs.nox {st:List Stmt} {t:TS} (h:PSs X.nox st t):PSs X st t:=fun pins s σ H D I hw =>
 wpAny_mono (h pins s σ H D (I.wish _) hw) (fun _ _ q=>q.unwish) fun _ _ z=>False.elim z
end
section
variable {X:Cx} {st:Stmt} {rest:List Stmt} {t u:TS} {e:Expr} {te:TE} {pos:Pos}
def tNext:TS:=fun D σ H=>D.nx σ H
def tSeq (t u:TS):TS:=fun D σ H=>t { D with nx:=u D } σ H
theorem pss_nil:PSs X [] tNext:=fun _ _ σ H _ I h=>wpAny_execs_nil ⟨σ,H,I,h⟩
theorem zac (h1:PS X st t) (h2:PSs X rest u):PSs X (st::rest) (tSeq t u):=by
 intro pins s σ H D I h;refine wpAny_execs_cons (thn (h1 pins s σ H { D with nx:=u D } I h) fun f s1 q=>?_)
 cases f with
 | next =>
   obtain ⟨σ',H',I',q⟩:=q;exact h2 pins s1 σ' H' D I' q
 | ret v=>exact q
 | brk=>exact q
 | cont=>exact q
theorem zad (h1:PS X st t):PSs X [st] t:=by
 intro pins s σ H D I h;refine wpAny_execs_cons (thn (h1 pins s σ H D I h) fun f s1 q=>?_)
 cases f with
 | next=>exact wpAny_execs_nil q
 | ret v=>exact q
 | brk=>exact q
 | cont=>exact q
def tCont:TS:=fun D σ H=>D.ct σ H
theorem ps_continue:PS X (.Continue pos) tCont:=fun _ _ σ H _ I h=>wpAny_Continue ⟨σ,H,I,h⟩
theorem Inv.quiet {pins:List (Addr×Obj)} {σ:St} {H:Hp} {s:Shared} (I:Inv X pins σ H s):interactive X.env=false:=by simp [interactive,I.ok.kind]
def zml (te:TE):TS:=fun D σ H=>te σ H fun _ H1=>D.nx σ H1
theorem zaV (he:PE X e te) (hs:swapsWith e none pos.line X.env=pure false:=by rfl):PS X (.Expr e pos) (zml te):=by
 intro pins s σ H D I h;exact wpAny_Expr_any (thn (he pins s σ H _ I h) fun v s1 ⟨x,H1,I1,r1,q1⟩=>⟨σ,H1,I1,q1⟩) I.quiet hs
def tRet (te:TE):TS:=fun D σ H=>te σ H D.rt
theorem zaj (he:PE X e te):PS X (.Return (some e) pos) (tRet te):=by
 intro pins s σ H D I h;exact wpAny_Return_some (thn (he pins s σ H _ I h) fun v s1 ⟨x,H1,I1,r1,q1⟩=>⟨x,σ,H1,I1,r1,q1⟩)
def tIfS (c:TT) (t u:TS):TS:=fun D σ H=>c σ H fun b H1=>if b=true then t D σ H1 else u D σ H1
theorem zaX {c:Expr} {a b:List Stmt} {tc:TT} (hc:PT X c tc) (ha:PSs X a t) (hb:PSs X b u):PS X (.If c a b pos) (tIfS tc t u):=by
 intro pins s σ H D I h;refine wpAny_If (thn (hc pins s σ H _ I h) fun d s1 ⟨H1,I1,q1⟩=>?_)
 cases d with
 | true=>exact ha pins s1 σ H1 D I1 q1
 | false=>exact hb pins s1 σ H1 D I1 q1
def tNever:TS:=fun _ _ _=>False
end
abbrev TG:=V→St→Hp→(St→Hp→Prop)→Prop
abbrev TGs:=List V→St→Hp→(St→Hp→Prop)→Prop
def PG (X:Cx) (target:Expr) (t:TG):Prop :=
 ∀ (pins:List (Addr×Obj)) (s:Shared) (σ:St) (H:Hp) (v:V) (u:Value) (Q:St→Hp→Prop),Inv X pins σ H s→RelV v u→t v σ H Q →
  wpAny (model X.prog X.w) X.A (assign target X.env u) (fun _ s'=>∃ σ' H',Inv X pins σ' H' s'∧Q σ' H') X.xe s
def PGs (X:Cx) (ts:List Expr) (t:TGs):Prop :=
 ∀ (pins:List (Addr×Obj)) (s:Shared) (σ:St) (H:Hp) (vs:List V) (us:List Value) (Q:St→Hp→Prop),Inv X pins σ H s→Vals vs us→t vs σ H Q →
  wpAny (model X.prog X.w) X.A (assignInOrder ((assignEach ts X.env).map (·.2)) us) (fun _ s'=>∃ σ' H',Inv X pins σ' H' s'∧Q σ' H') X.xe s
abbrev TSet:=V→V→V→Hp→(Hp→Prop)→Prop
def PSet (X:Cx) (t:TSet):Prop :=
 ∀ (pins:List (Addr×Obj)) (s:Shared) (σ:St) (H:Hp) (o i v:V) (ov iv u:Value) (Q:Hp→Prop),Inv X pins σ H s→RelV o ov→RelV i iv→RelV v u→t o i v H Q →
  wpAny (model X.prog X.w) X.A (setItem ov iv u) (fun _ s'=>∃ H',Inv X pins σ H' s'∧Q H') X.xe s
abbrev TIp:=V→V→Hp→VK→Prop
def PIp (X:Cx) (op:Operator) (t:TIp):Prop :=
 ∀ (pins:List (Addr×Obj)) (s:Shared) (σ:St) (H:Hp) (x y:V) (v u:Value) (Q:VK),Inv X pins σ H s→RelV x v→RelV y u→t x y H Q →
  wpAny (model X.prog X.w) X.A (inplaceOp op v u) (EP X pins σ Q) X.xe s
section
variable {X:Cx} {pos:Pos}
def zcD (i:Nat):TG:=fun v σ H Q=>Q (σ.set i (some v)) H
theorem zap {i:Nat} {x:Str} (hN:X.N.Nodup) (hi:X.N[i]? = some x) (hx:Loc X.env.scope x) (hf:X.fn x=true∨X.env.scope.names.lookup x=some .local:=by first | exact .inl rfl | exact .inr rfl | assumption):PG X (.Name x pos) (zcD i):=by
 intro pins s σ H v u Q I r h;exact wpAny_assign_Name (zhb I hN hi hx r (fun s' I'=>⟨_,H,I',h⟩) hf)
def gNil:TGs:=fun vs σ H Q=>vs=[]∧Q σ H
def zgz (t:TG) (u:TGs):TGs:=fun vs σ H Q=>∃ v r,vs=v::r∧t v σ H fun σ' H'=>u r σ' H' Q
theorem pgs_nil:PGs X [] gNil:=by
 intro pins s σ H vs us Q I r h;obtain ⟨e,h⟩:=h;subst e
 cases r
 exact assignInOrder_nil ⟨σ,H,I,h⟩
theorem zbm {e:Expr} {es:List Expr} {t:TG} {u:TGs} (h1:PG X e t) (h2:PGs X es u)
  (hs:(assignEach (e::es) X.env).map (·.2)=assign e X.env::(assignEach es X.env).map (·.2):=by rfl):PGs X (e::es) (zgz t u):=by
 intro pins s σ H vs us Q I r h;obtain ⟨v,vr,e1,h⟩:=h;subst e1
 cases r with
 | cons r rr =>
   rw [hs];refine assignInOrder_cons (thn (h1 pins s σ H _ _ _ I r h) fun _ s1 ⟨σ1,H1,I1,q1⟩=>?_);exact h2 pins s1 σ1 H1 _ _ Q I1 rr q1
def gTup (K:PySem.W.Frag) (n:Nat) (t:TGs):TG:=fun v σ H Q=>∃ a xs,v=.ref a∧SqT K H a xs∧xs.length=n∧t xs σ H Q
theorem zmm {es:List Expr} {k:Nat} {t:TGs} {n:Nat} (hc:X.calm=true) (h:PGs X es t)
  (hn:(assignEach es X.env).length=n:=by rfl) (hst:(assignEach es X.env).findIdx? (·.1)=none:=by rfl):PG X (.Tuple es k pos) (gTup X.K n t):=by
 intro pins s σ H v u Q I r hw;obtain ⟨a,xs,e1,hq,hl,hw⟩:=hw;subst e1
 cases r
 obtain ⟨its,rv,ht,hz⟩:=I.tuple hq;refine assign_Tuple_tuple (I.ok.hd hc) ht (by simp [hn,← hl,rv.length]) hst fun h' hx=>?_;have I1:Inv X pins σ H { s with heap:=h' }:=I.kept (t':=s.toks) fun b o e=>hx b o (Nat.ne_of_lt (Heap.lt_size e)) e;exact h pins _ σ H xs _ Q I1 (by simpa using rv) hw
def gSub (to ti:TE) (t:TSet):TG:=fun v σ H Q=>to σ H fun o H1=>ti σ H1 fun i H2=>t o i v H2 fun H3=>Q σ H3
theorem zmn {o i:Expr} {to ti:TE} {t:TSet} (ho:PE X o to) (hi:PE X i ti) (hs:PSet X t)
  (ha:∀ v,assign (.Subscript o i pos) X.env v=(do
   let ov ← holding [v] (eval o X.env)
   let iv ← holding [v,ov] (eval i X.env)
   standAt pos
   holding [v,ov,iv] (setItem ov iv v)
   release [v,ov,iv] []):=by intro _;rfl):PG X (.Subscript o i pos) (gSub to ti t):=by
 intro pins s σ H v u Q I r h;rw [ha];refine wpAny_bind (wpAny_holding (thn (ho pins s σ H _ I h) fun ov s1 ⟨x,H1,I1,r1,q1⟩=>?_));refine wpAny_bind (wpAny_holding (thn (hi pins s1 σ H1 _ I1 q1) fun iv s2 ⟨y,H2,I2,r2,q2⟩=>?_));refine wpAny_bind (wpAny_standAt (wpAny_bind (wpAny_holding (thn (hs pins s2 σ H2 x y v ov iv u _ I2 r1 r2 r q2) fun _ s3 ⟨H3,I3,q3⟩=>?_))));exact wpAny_release ⟨σ,H3,I3,q3⟩
def tAsg (te:TE) (g:TG):TS:=fun D σ H=>te σ H fun x H1=>g x σ H1 D.nx
theorem zmo {tg e:Expr} {te:TE} {g:TG} (he:PE X e te) (hg:PG X tg g) (hs:swapsWithSole [tg] e pos.line X.env=pure false:=by rfl) (hw:swappedStores [tg] e X.env=pure none:=by rfl)
  (h1:(assignEach [tg] X.env).map (·.2)=[assign tg X.env]:=by rfl):PS X (.Assign [tg] e pos) (tAsg te g):=by
 intro pins s σ H D I h;refine wpAny_Assign_stores (thn (he pins s σ H _ I h) fun v s1 ⟨x,H1,I1,r1,q1⟩=>?_) hs hw;rw [h1];exact thn (hg pins s1 σ H1 x v _ I1 r1 q1) fun _ s2 q=>q
theorem zaE {i:Nat} {x:Str} {e:Expr} {te:TE} {pos':Pos} (hN:X.N.Nodup) (hi:X.N[i]? = some x) (hx:Loc X.env.scope x) (he:PE X e te) (hs:swapsWith e (some (.Name x pos')) pos.line X.env=pure false:=by rfl) (hf:X.fn x=true∨X.env.scope.names.lookup x=some .local:=by first | exact .inl rfl | exact .inr rfl | assumption) :
  PS X (.Assign [.Name x pos'] e pos) (tAsg te (zcD i)):=by
 intro pins s σ H D I h;refine wpAny_Assign_Name (thn (he pins s σ H _ I h) fun v s1 ⟨y,H1,I1,r1,q1⟩=>?_) hs;exact zhb I1 hN hi hx r1 (fun s2 I2=>⟨_,H1,I2,q1⟩) hf
def zmp (to ti te:TE) (tget:V→V→Hp→VK→Prop) (tip:TIp) (tset:TSet):TS:=fun D σ H=>to σ H fun o H1=>ti σ H1 fun i H2=>tget o i H2 fun x H3=>te σ H3 fun y H4=>tip x y H4 fun z H5=>tset o i z H5 fun H6=>D.nx σ H6
def PGet (X:Cx) (t:V→V→Hp→VK→Prop):Prop :=
 ∀ (pins:List (Addr×Obj)) (s:Shared) (σ:St) (H:Hp) (o i:V) (ov iv:Value) (Q:VK),Inv X pins σ H s→RelV o ov→RelV i iv→t o i H Q →
  wpAny (model X.prog X.w) X.A (getItem ov iv) (EP X pins σ Q) X.xe s
theorem zlf {o i e:Expr} {to ti te:TE} {tget:V→V→Hp→VK→Prop} {tip:TIp} {tset:TSet} {op:Operator} {tpos:Pos} (ho:PE X o to) (hi:PE X i ti) (hg:PGet X tget) (he:PE X e te) (hp:PIp X op tip) (hs:PSet X tset)
  (ha:∀ ov iv new,augStore i ov iv new=(do holding [new,ov,iv] (setItem ov iv new);release [new,ov,iv] [];pure .next):=by intros;rfl):PS X (.AugAssign (.Subscript o i tpos) op e pos) (zmp to ti te tget tip tset):=by
 intro pins s σ H D I h;refine wpAny_AugAssign_SubscriptAny (thn (ho pins s σ H _ I h) fun ov s1 ⟨x1,H1,I1,r1,q1⟩=>?_) ha;refine thn (hi pins s1 σ H1 _ I1 q1) fun iv s2 ⟨x2,H2,I2,r2,q2⟩=>?_;refine thn (hg pins s2 σ H2 x1 x2 ov iv _ I2 r1 r2 q2) fun old s3 ⟨x3,H3,I3,r3,q3⟩=>?_;refine thn (he pins s3 σ H3 _ I3 q3) fun v s4 ⟨x4,H4,I4,r4,q4⟩=>?_;refine thn (hp pins s4 σ H4 x3 x4 old v _ I4 r3 r4 q4) fun new s5 ⟨x5,H5,I5,r5,q5⟩=>?_;exact thn (hs pins s5 σ H5 x1 x2 x5 ov iv new _ I5 r1 r2 r5 q5) fun _ s6 ⟨H6,I6,q6⟩=>⟨σ,H6,I6,q6⟩
def ipI (f:Int→Int→Int):TIp:=fun x y H Q=>∃ i j,x=.int i∧y=.int j∧Q (.int (f i j)) H
theorem ip_sub:PIp X .Sub (ipI fun i j=>i-j):=by
 intro pins s σ H x y v u Q I r1 r2 h;obtain ⟨i,j,e1,e2,q⟩:=h;subst e1;subst e2;obtain ⟨t,rfl⟩:=r1;obtain ⟨t',rfl⟩:=r2;exact isub_int ⟨.int _,H,I.tok _,⟨_,rfl⟩,q⟩
end
section
variable {X:Cx} {pos:Pos}
def zmq (c:TT) (tb:TS):TS:=fun D σ H=>∃ W:Nat→St→Hp→Prop,(∃ m,W m σ H)∧∀ m σ H,W m σ H →
 c σ H fun b H1=>if b=true then ∃ N:St→Hp→Prop,(∀ σ' H',N σ' H'→∃ m',m' < m∧W m' σ' H')∧tb { D with nx:=N,ct:=N,bk:=D.nx } σ H1 else D.nx σ H1
theorem zhc {c:Expr} {body:List Stmt} {tc:TT} {tb:TS} (hp:PassesOwn (model X.prog X.w) X.A X.env X.xe) (hc:PT X c tc) (hb:PSs X body tb):PS X (.While c body [] pos) (zmq tc tb):=by
 intro pins s σ H D I h;obtain ⟨W,⟨m0,w0⟩,turn⟩:=h;refine wpAny_While (codeAny_whileLoop (fun n s'=>∃ σ' H',Inv X pins σ' H' s'∧W n σ' H') ?_ m0 ⟨σ,H,I,w0⟩);rintro n s1 ⟨σ1,H1,I1,w1⟩;refine wpAny_passesOwn hp (thn (hc pins s1 σ1 H1 _ I1 (turn n σ1 H1 w1)) fun b s2 ⟨H2,I2,q2⟩=>?_)
 cases b with
 | true =>
   obtain ⟨N,hN,q2⟩:=q2;rw [if_pos rfl];refine wpAny_passesOwn hp (thn (hb pins s2 σ1 H2 _ I2 q2) fun f s3 q3=>?_)
   cases f with
   | next =>
     obtain ⟨σ3,H3,I3,n3⟩:=q3;obtain ⟨m',hm,w3⟩:=hN σ3 H3 n3;exact ⟨m',hm,σ3,H3,I3,w3⟩
   | cont =>
     obtain ⟨σ3,H3,I3,n3⟩:=q3;obtain ⟨m',hm,w3⟩:=hN σ3 H3 n3;exact ⟨m',hm,σ3,H3,I3,w3⟩
   | brk=>exact q3
   | ret v=>exact q3
 | false =>
   rw [if_neg Bool.false_ne_true];exact wpAny_execs_nil ⟨σ1,H2,I2,q2⟩
end
structure It where
 go:Nat→Hp→Prop
 yld:Nat→Hp→V→Hp→Prop
 stop:Nat→Hp→Prop
def FpOk (X:Cx) (pins:List (Addr×Obj)) (H:Hp) (b:Addr):Prop :=
 H b=none∧b≠X.env.locals∧b∉X.fs∧(b∈X.ex∨X.s₀.heap.objs.size≤b)∧(∀ x c,X.env.cells.lookup x=some c→c≠b)∧∀ p∈X.pn++pins,p.1≠b
theorem Inv.fpOk {X:Cx} {pins:List (Addr×Obj)} {σ:St} {H H':Hp} {s:Shared} {b:Addr} (I:Inv X pins σ H s) (hb:s.heap.objs.size≤b) (hn:H' b=none):FpOk X pins H' b:=by
 refine ⟨hn,Nat.ne_of_gt (Nat.lt_of_lt_of_le I.lt hb),I.nofs hb,.inr (Nat.le_trans I.sz hb),fun x c e z=>?_,fun p hp z=>?_⟩
 ·obtain ⟨v,q⟩:=I.cell x c e;exact absurd (Nat.lt_of_lt_of_le q.lt (by rw [z];exact hb)) (Nat.lt_irrefl _)
 ·exact absurd (Nat.lt_of_lt_of_le (Heap.lt_size (I.pin p hp).1) (by rw [z];exact hb)) (Nat.lt_irrefl _)
structure Turn (P:Program) (w:World) (K:PySem.W.Frag) (tg:Expr) (J:It) (fp:List Addr) (it:Addr) (tn:Nat→Heap→Prop):Prop where
 mem:it∈fp
 obj:∀ i h,tn i h→∀ b∈fp,∃ o,h.get? b=some o∧∀ v,o.data≠.cell v
 keep:∀ i h h',tn i h→(∀ b∈fp,∀ o,h.get? b=some o→h'.get? b=some o)→tn i h'
 item:∀ (X:Cx),X.prog=P→X.w=w→X.K=K→X.calm=true→∀ (i:Nat) (pins:List (Addr×Obj)) (s:Shared) (σ:St) (H:Hp) (E:Value→Shared→Prop),Inv X pins σ H s→(∀ b∈fp,FpOk X pins H b)→tn i s.heap→J.go i H →
  wpAny (model P w) X.A (pyNext (.ref it)) (fun r s1=>∃ u,r=some u ∧
   wpAny (model P w) X.A (letOwnedTupleGo tg (.ref it) u) (fun _ s2=>∃ x H',Inv X pins σ H' s2∧RelV x u∧J.yld i H x H'∧tn (i+1) s2.heap∧∀ b∈fp,H' b=none) E s1) E s
 done:∀ (X:Cx),X.prog=P→X.w=w→X.K=K→X.calm=true→∀ (i:Nat) (pins:List (Addr×Obj)) (s:Shared) (σ:St) (H:Hp) (E:Value→Shared→Prop),Inv X pins σ H s→(∀ b∈fp,FpOk X pins H b)→tn i s.heap→J.stop i H →
  wpAny (model P w) X.A (pyNext (.ref it)) (fun r s1=>r=none∧Inv X pins σ H s1) E s
 self:∀ (A:Around) (i:Nat) (s:Shared) (Q:Value→Shared→Prop) (E:Value→Shared→Prop),tn i s.heap→Q (.ref it) s→wpAny (model P w) A (pyIter (.ref it)) Q E s
abbrev TI:=St→Hp→(It→Hp→Prop)→Prop
def PIE (X:Cx) (pins:List (Addr×Obj)) (σ:St) (tg:Expr) (R:It→Hp→Prop) (itv:Value) (s2:Shared):Prop :=
 ∃ (it:Addr) (fp:List Addr) (tn:Nat→Heap→Prop) (J:It) (H':Hp),itv=.ref it∧Inv X pins σ H' s2∧Turn X.prog X.w X.K tg J fp it tn∧tn 0 s2.heap∧(∀ b∈fp,FpOk X pins H' b)∧R J H'
def PI (X:Cx) (tg iter:Expr) (wi:TI):Prop :=
 ∀ (pins:List (Addr×Obj)) (s:Shared) (σ:St) (H:Hp) (R:It→Hp→Prop),Inv X pins σ H s→wi σ H R →
  wpAny (model X.prog X.w) X.A (eval iter X.env) (fun v s1=>wpAny (model X.prog X.w) X.A (pyIter v) (PIE X pins σ tg R) X.xe s1) X.xe s
theorem zmr {M:Model} {A:Around} {E:Value→Shared→Prop} {s:Shared} {tg:Expr} {it:Addr} {u:Value} {o:Obj} {n:String} {vs:Array Value} {Q:Unit→Shared→Prop} (ho:s.heap.get? it=some o) (hc:o.cls=.type n) (hd:o.data=.fields vs)
  (hn:["enumerate","zip","dict_itemiterator","dict_reverseitemiterator","odict_iterator","itertools.zip_longest","itertools.pairwise"].contains n=false) (hQ:Q () s):wpAny M A (letOwnedTupleGo tg (.ref it) u) Q E s:=by
 unfold letOwnedTupleGo
 cases tg <;> first
  | exact wpAny_pure hQ
  | (cases u <;> first
     | exact wpAny_pure hQ
     | (refine wpAny_bind (wpAny_load ho ?_)
        rw [hc,hd];show wpAny M A (if (["enumerate","zip","dict_itemiterator","dict_reverseitemiterator","odict_iterator","itertools.zip_longest","itertools.pairwise"].contains n && vs[0]? == some (rawInt _))=true then _ else _) Q E s;rw [if_neg (by intro h;rw [hn,Bool.false_and] at h;cases h)];exact wpAny_pure hQ))
def Itl (K:PySem.W.Frag) (a:Addr):It :=
 ⟨fun i H=>∃ xs x,SqL K H a xs∧xs[i]? = some x,fun i H x H'=>H'=H∧∀ xs,SqL K H a xs→xs[i]? = some x,fun i H=>∃ xs,SqL K H a xs∧xs.length≤i⟩
def Itr (lo:Int) (n:Nat):It:=⟨fun i _=>i < n,fun i H x H'=>H'=H∧x=.int (lo+i),fun i _=>n≤i⟩
theorem zio {P:Program} {w:World} {K:PySem.W.Frag} {tg:Expr} (a it:Addr):Turn P w K tg (Itl K a) [it] it (fun i h=>h.IsListIter it a i) where
 mem:=by simp
 obj:=fun i h st b hb=>by
  have e:b=it:=by simpa using hb
  subst e;obtain ⟨o,e,c,d⟩:=st;exact ⟨o,e,fun v z=>by rw [d] at z;cases z⟩
 keep:=fun i h h' st k=>st.at fun o e=>k it (by simp) o e
 item:=by
  intro X hP hw hK hc i pins s σ H E I hf st hg;subst hP hw hK;obtain ⟨xs,x,hq,hx⟩:=hg;obtain ⟨its,rv,p,hz⟩:=I.list hq;obtain ⟨u,hu,ru⟩:=rv.get hx;obtain ⟨f0,f1,f2,f3,f4,f5⟩:=hf it (by simp);refine wpAny_pyNext_list_item st p.isList (x:=u) (by simpa using hu) fun h' st' sb=>?_;have I1:Inv X pins σ H { s with heap:=h' }:=I.turned (t':=s.toks) (fun b o hb e=>(sb.2 b hb).trans e) f0 f1 f3 f4 f5;obtain ⟨o,e,c,d⟩:=id st';exact ⟨u,rfl,zmr (s:={ s with heap:=h' }) e c d (by decide) ⟨x,H,I1,ru,⟨rfl,fun ys hy=>by rw [I.list_inj hy hq];exact hx⟩,st',fun b hb=>(hf b hb).1⟩⟩
 done:=by
  intro X hP hw hK hc i pins s σ H E I hf st hg;subst hP hw hK;obtain ⟨xs,hq,hx⟩:=hg;obtain ⟨its,rv,p,hz⟩:=I.list hq;obtain ⟨f0,f1,f2,f3,f4,f5⟩:=hf it (by simp);have hl:=rv.length;exact wpAny_pyNext_list_end (I.ok.hd hc) st p.isList (by simp;omega) fun h' eb=>⟨rfl,I.turned (t':=s.toks) (fun b o hb e=>eb b o hb e) f0 f1 f3 f4 f5⟩
 self:=fun _ _ _ _ _ st h=>wpAny_pyIter_listiter st h
theorem zhC {P:Program} {w:World} {K:PySem.W.Frag} {tg:Expr} (it:Addr) (lo:Int) (n:Nat):Turn P w K tg (Itr lo n) [it] it (fun i h=>IsRangeIter h it (lo+(i:Nat) * 1) ((n:Int)-(i:Nat)) 1) where
 mem:=by simp
 obj:=fun i h st b hb=>by
  have e:b=it:=by simpa using hb
  subst e;exact ⟨_,st,fun v z=>by
   have z':Data.fields _=Data.cell v:=z
   cases z'⟩
 keep:=fun i h h' st k=>k it (by simp) _ st
 item:=by
  intro X hP hw hK hc i pins s σ H E I hf st hg;subst hP hw hK;obtain ⟨f0,f1,f2,f3,f4,f5⟩:=hf it (by simp);have W:=Walks.range (prog:=X.prog) (w:=X.w) (I.ok.hd hc) it lo 1 n;refine W.item i s _ _ hg st fun v h' tk hv st' kk=>?_;obtain ⟨t,rfl⟩:=hv;have I1:Inv X pins σ H { s with heap:=h',toks:=tk }:=I.turned (fun b o hb e=>kk b o (by simpa using hb) e) f0 f1 f3 f4 f5;refine ⟨_,rfl,zmr (s:={ s with heap:=h',toks:=tk }) (n:="range_iterator") st' rfl rfl (by decide) ⟨.int (lo+i),H,I1,⟨t,?_⟩,⟨rfl,rfl⟩,st',fun b hb=>(hf b hb).1⟩⟩;rw [Int.mul_one]
 done:=by
  intro X hP hw hK hc i pins s σ H E I hf st hg;subst hP hw hK;obtain ⟨f0,f1,f2,f3,f4,f5⟩:=hf it (by simp);exact wpAny_pyNext_range_end (I.ok.hd hc) st (by have:n≤i:=hg;omega) fun h' eb=>⟨rfl,I.turned (t':=s.toks) (fun b o hb e=>eb b o hb e) f0 f1 f3 f4 f5⟩
 self:=fun _ _ _ _ _ st h=>wpAny_pyIter_rangeiter st h
end L2
namespace L2
open PySem PySem.Spec PyProof.Rows
section
variable {X:Cx} {tg:Expr}
def zjW (K:PySem.W.Frag) (tl:TE):TI:=fun σ H R=>tl σ H fun x H1=>∃ a,x=.ref a∧(∃ xs,SqL K H1 a xs)∧R (Itl K a) H1
theorem zlg {l:Expr} {tl:TE} (hl:PE X l tl):PI X tg l (zjW X.K tl):=by
 intro pins s σ H R I h;refine thn (hl pins s σ H _ I h) fun v s1 ⟨x,H1,I1,r1,q1⟩=>?_;obtain ⟨a,e,⟨xs,hq⟩,q⟩:=q1;subst e
 cases r1
 obtain ⟨its,rv,p,hz⟩:=I1.list hq;refine wpAny_pyIter_list p.isList ?_;refine ⟨s1.heap.objs.size,[s1.heap.objs.size],_,_,H1,rfl,I1.kept (t':=s1.toks) fun b o e=>Heap.get?_push_of_some _ e,zio a _,⟨_,Heap.get?_push_size _ rfl,rfl,rfl⟩,fun b hb=>?_,q⟩;have e:b=s1.heap.objs.size:=by simpa using hb
 subst e;exact I1.fpOk (Nat.le_refl _) (I1.hok.fresh (Nat.le_refl _))
theorem zhd {pins:List (Addr×Obj)} {σ:St} {H:Hp} {s:Shared} {R:It→Hp→Prop} {E:Value→Shared→Prop} {lo hi:Int} {t u v:Tok} {tk:Nat} (I:Inv X pins σ H s) (h1 : -(2 ^ 62)≤lo) (h2:lo < 2 ^ 62) (h3 : -(2 ^ 62)≤hi) (h4:hi < 2 ^ 62)
  (q:R (Itr lo (hi-lo).toNat) H):wpAny (model X.prog X.w) X.A (pyIter (.ref s.heap.objs.size)) (PIE X pins σ tg R) E { s with heap:=s.heap.push { cls:=.type "range",data:=.fields #[.int lo t,.int hi u,.int 1 v] },toks:=tk }:=by
 refine wpAny_pyIter_range (IsRange.new ..) (small_one h1 h2 h3 h4) ?_;have I1:Inv X pins σ H { s with heap:=s.heap.push { cls:=.type "range",data:=.fields #[.int lo t,.int hi u,.int 1 v] },toks:=tk }:=I.kept fun b o e=>Heap.get?_push_of_some _ e;refine ⟨(s.heap.push { cls:=.type "range",data:=.fields #[.int lo t,.int hi u,.int 1 v] }).objs.size,[(s.heap.push { cls:=.type "range",data:=.fields #[.int lo t,.int hi u,.int 1 v] }).objs.size],_,_,H,rfl,
  I1.kept (t':=tk) fun b o e=>Heap.get?_push_of_some _ e,zhC _ lo (hi-lo).toNat,?_,fun b hb=>?_,q⟩
 ·have e1:lo+((0:Nat):Int) * 1=lo:=by simp
  have e2:(((hi-lo).toNat:Nat):Int)-((0:Nat):Int)=Builtin.Range.rangeSize lo hi 1:=by rw [rangeSize_one];split <;> omega
  show IsRangeIter _ _ (lo+((0:Nat):Int) * 1) ((((hi-lo).toNat:Nat):Int)-((0:Nat):Int)) 1;rw [e1,e2];exact Heap.get?_push_size _ rfl
 ·have e:b=(s.heap.push { cls:=.type "range",data:=.fields #[.int lo t,.int hi u,.int 1 v] }).objs.size:=by simpa using hb
  subst e;exact I1.fpOk (Nat.le_refl _) (I1.hok.fresh (Nat.le_refl _))
def zlh (ta:TA):TI:=fun σ H R=>ta σ H fun vs H1=>∃ j:Int,vs=[.int j]∧-(2 ^ 62)≤j∧j < 2 ^ 62∧R (Itr 0 j.toNat) H1
def zli (ta:TA):TI:=fun σ H R=>ta σ H fun vs H1=>∃ i j:Int,vs=[.int i,.int j]∧(-(2 ^ 62)≤i∧i < 2 ^ 62∧-(2 ^ 62)≤j∧j < 2 ^ 62)∧R (Itr i (j-i).toNat) H1
theorem za5 {a:Expr} {ta:TA} {p pos:Pos} (hg:Gl X "range") (hm:X.mg "range" = none) (ha:PA X [a] ta) (hs:starEach [a] X.env=[(false,eval a X.env)]:=by rfl):PI X tg (.Call (.Name "range" p) [a] [] pos) (zlh ta):=by
 intro pins s σ H R I h;refine Call_ (zdi I hg hm boot_range (PyProof.Rows.callWith_type1 (thn (ha pos pins s σ H _ I h) fun us s1 ⟨vs,H1,I1,r1,q1⟩=>?_) hs rfl));obtain ⟨j,e,q1,q2,q⟩:=q1;subst e
 cases r1 with
 | cons r rr =>
   cases rr
   obtain ⟨t,rfl⟩:=r;exact call_range_1 (zhd I1 (by omega) (by omega) q1 q2 (by simpa using q))
theorem zbd {a b:Expr} {ta:TA} {p pos:Pos} (hg:Gl X "range") (hm:X.mg "range" = none) (ha:PA X [a,b] ta) (hs:starEach [a,b] X.env=[(false,eval a X.env),(false,eval b X.env)]:=by rfl) (hs2:starEach [b] X.env=[(false,eval b X.env)]:=by rfl) :
  PI X tg (.Call (.Name "range" p) [a,b] [] pos) (zli ta):=by
 intro pins s σ H R I h;refine Call_ (zdi I hg hm boot_range (PyProof.Rows.callWith_type1 (thn (ha pos pins s σ H _ I h) fun us s1 ⟨vs,H1,I1,r1,q1⟩=>?_) (by rw [hs,hs2]) (by rw [hs2];rfl)));obtain ⟨i,j,e,⟨q1,q2,q3,q4⟩,q⟩:=q1;subst e
 cases r1 with
 | cons r rr =>
   cases rr with
   | cons r' rr =>
     cases rr
     obtain ⟨t,rfl⟩:=r;obtain ⟨t',rfl⟩:=r';exact call_range_2 (zhd I1 q1 q2 q3 q4 q)
def tFor (wi:TI) (g:TG) (tb:TS):TS:=fun D σ H=>wi σ H fun J H1=>∃ W:Nat→Nat→St→Hp→Prop,(∃ m,W 0 m σ H1)∧∀ i m σ H,W i m σ H →
 (J.stop i H∧D.nx σ H)∨(J.go i H∧∃ N:St→Hp→Prop,(∀ σ' H',N σ' H'→∃ m',m' < m∧W (i+1) m' σ' H')∧∀ x H',J.yld i H x H'→g x σ H' fun σ2 H2=>tb { D with nx:=N,ct:=N,bk:=D.nx } σ2 H2)
def zfP (fp:List Addr) (h:Heap):List (Addr×Obj):=fp.filterMap fun b=>(h.get? b).map fun o=>(b,o)
theorem zcT {fp:List Addr} {h:Heap} {b:Addr} {o:Obj} (hb:b∈fp) (e:h.get? b=some o):(b,o)∈zfP fp h:=List.mem_filterMap.mpr ⟨b,hb,by rw [e];rfl⟩
theorem ziq {fp:List Addr} {h:Heap} {p:Addr×Obj} (hp:p∈zfP fp h):p.1∈fp∧h.get? p.1=some p.2:=by
 obtain ⟨b,hb,e⟩:=List.mem_filterMap.mp hp
 cases q:h.get? b with
 | none=>rw [q] at e;cases e
 | some o =>
   rw [q] at e;have e':(b,o)=p:=Option.some.inj e;subst e';exact ⟨hb,q⟩
theorem Inv.pinned {pins:List (Addr×Obj)} {σ:St} {H:Hp} {s:Shared} {fp:List Addr} (I:Inv X pins σ H s) (hf:∀ b∈fp,FpOk X pins H b) (ho:∀ b∈fp,∃ o,s.heap.get? b=some o∧∀ v,o.data≠.cell v):Inv X (pins++zfP fp s.heap) σ H s :=
 I.pins_of fun p hp=>(List.mem_append.mp hp).elim (fun z=>I.pin p (List.mem_append_right _ z)) fun z=>by
  obtain ⟨hb,e⟩:=ziq z;obtain ⟨f0,f1,f2,_⟩:=hf p.1 hb;obtain ⟨o,e',d⟩:=ho p.1 hb;rw [e] at e';cases e'
  exact ⟨e,f0,f1,f2,d⟩
theorem Inv.unpinned {pins pl:List (Addr×Obj)} {σ:St} {H:Hp} {s:Shared} (I:Inv X (pins++pl) σ H s):Inv X pins σ H s:=I.pins_of fun p hp=>I.pin p (List.mem_append_right _ (List.mem_append_left _ hp))
theorem za7 {iter:Expr} {body:List Stmt} {wi:TI} {g:TG} {tb:TS} {pos:Pos} (hp:PassesOwn (model X.prog X.w) X.A X.env X.xe) (hc:X.calm=true) (hi:PI X tg iter wi) (hg:PG X tg g) (hb:PSs X body tb)
  (hs:∀ x,foldedSetIterable iter X.env x=pure x:=by intro _;rfl):PS X (.For tg iter body [] pos) (tFor wi g tb):=by
 intro pins s σ H D I h;refine wpAny_For (thn (hi pins s σ H _ I h) fun v s1 h1=>thn h1 fun itv s2 h2=>?_) hs;obtain ⟨it,fp,tn,J,H2,e,I2,T,st2,f2,W,⟨m0,w0⟩,turn⟩:=h2;subst e;have stat:∀ {H':Hp},(∀ b∈fp,H' b=none)→∀ b∈fp,FpOk X pins H' b:=fun hn b hb=>⟨hn b hb,(f2 b hb).2⟩
 refine codeAny_forLoop_any (fun n s'=>∃ i σ' H',Inv X pins σ' H' s'∧tn i s'.heap∧(∀ b∈fp,H' b=none)∧W i n σ' H') ?_ m0 ⟨0,σ,H2,I2,st2,fun b hb=>(f2 b hb).1,w0⟩;rintro n s3 ⟨i,σ3,H3,I3,st3,fr3,w3⟩;rcases turn i n σ3 H3 w3 with ⟨stop,qn⟩ | ⟨go,N,hN,step⟩
 ·refine wpAny_passesOwn hp (thn (T.done X rfl rfl rfl hc i pins s3 σ3 H3 X.xe I3 (stat fr3) st3 stop) fun r s4 ⟨hr,I4⟩=>?_);subst hr;exact wpAny_execs_nil ⟨σ3,H3,I4,qn⟩
 ·refine wpAny_passesOwn hp (thn (T.item X rfl rfl rfl hc i pins s3 σ3 H3 X.xe I3 (stat fr3) st3 go) fun r s4 ⟨u,hr,h4⟩=>?_);subst hr;refine wpAny_passesOwn hp (thn h4 fun _ s5 ⟨x,H5,I5,r5,y5,st5,fr5⟩=>?_);have I5':=I5.pinned (stat fr5) (T.obj _ _ st5);refine wpAny_passesOwn hp (thn (hg _ s5 σ3 H5 x u _ I5' r5 (step x H5 y5)) fun _ s6 ⟨σ6,H6,I6,q6⟩=>?_);refine wpAny_passesOwn hp (thn (hb _ s6 σ6 H6 _ I6 q6) fun f s7 q7=>?_);have again:∀ {σ7:St} {H7:Hp},Inv X (pins++zfP fp s5.heap) σ7 H7 s7→N σ7 H7→∃ m,m < n∧∃ i σ' H',Inv X pins σ' H' s7∧tn i s7.heap∧(∀ b∈fp,H' b=none)∧W i m σ' H':=fun {σ7 H7} I7 n7=>by
   obtain ⟨m',hm,w7⟩:=hN σ7 H7 n7;refine ⟨m',hm,i+1,σ7,H7,I7.unpinned,T.keep _ _ _ st5 fun b hb o e=>(I7.pin (b,o) (List.mem_append_right _ (List.mem_append_right _ (zcT hb e)))).1,fun b hb=>?_,w7⟩;obtain ⟨o,e,d⟩:=T.obj _ _ st5 b hb;exact (I7.pin (b,o) (List.mem_append_right _ (List.mem_append_right _ (zcT hb e)))).2.1
  cases f with
  | next=>obtain ⟨σ7,H7,I7,n7⟩:=q7;exact again I7 n7
  | cont=>obtain ⟨σ7,H7,I7,n7⟩:=q7;exact again I7 n7
  | brk=>obtain ⟨σ7,H7,I7,q7⟩:=q7;exact ⟨σ7,H7,I7.unpinned,q7⟩
  | ret v=>obtain ⟨x7,σ7,H7,I7,r7,q7⟩:=q7;exact ⟨x7,σ7,H7,I7.unpinned,r7,q7⟩
end
theorem zjX {K:PySem.W.Frag} {a:Addr} {xs:List V} {g:TG} {tb:TS} {D:Ends} {σ:St} {H:Hp} (Pv:Nat→St→Hp→Prop) (h0:Pv 0 σ H) (hl:∀ i σ H,i≤xs.length→Pv i σ H→SqL K H a xs)
  (hs:∀ i x σ H,xs[i]? = some x→Pv i σ H→g x σ H fun σ2 H2=>tb { D with nx:=Pv (i+1),ct:=Pv (i+1),bk:=D.nx } σ2 H2) (hd:∀ σ H,Pv xs.length σ H→D.nx σ H) :
  ∃ W:Nat→Nat→St→Hp→Prop,(∃ m,W 0 m σ H)∧∀ i m σ H,W i m σ H →
   ((Itl K a).stop i H∧D.nx σ H)∨((Itl K a).go i H∧∃ N:St→Hp→Prop,(∀ σ' H',N σ' H'→∃ m',m' < m∧W (i+1) m' σ' H')∧∀ x H',(Itl K a).yld i H x H'→g x σ H' fun σ2 H2=>tb { D with nx:=N,ct:=N,bk:=D.nx } σ2 H2):=by
 refine ⟨fun i m σ H=>m=xs.length-i∧i≤xs.length∧Pv i σ H,⟨xs.length,by simp,Nat.zero_le _,h0⟩,?_⟩;rintro i m σ H ⟨rfl,hi,p⟩;have q:=hl i σ H hi p
 by_cases hlt:i < xs.length
 ·refine .inr ⟨⟨xs,xs[i],q,by simp [hlt]⟩,Pv (i+1),fun σ' H' p'=>⟨xs.length-(i+1),by omega,rfl,hlt,p'⟩,fun x H' y=>?_⟩;obtain ⟨e,y⟩:=y;subst e;exact hs i x σ _ (y xs q) p
 ·have e:i=xs.length:=by omega
  subst e;exact .inl ⟨⟨xs,q,Nat.le_refl _⟩,hd σ H p⟩
theorem zir {lo:Int} {n:Nat} {g:TG} {tb:TS} {D:Ends} {σ:St} {H:Hp} (Pv:Nat→St→Hp→Prop) (h0:Pv 0 σ H)
  (hs:∀ i σ H,i < n→Pv i σ H→g (.int (lo+i)) σ H fun σ2 H2=>tb { D with nx:=Pv (i+1),ct:=Pv (i+1),bk:=D.nx } σ2 H2) (hd:∀ σ H,Pv n σ H→D.nx σ H) :
  ∃ W:Nat→Nat→St→Hp→Prop,(∃ m,W 0 m σ H)∧∀ i m σ H,W i m σ H →
   ((Itr lo n).stop i H∧D.nx σ H)∨((Itr lo n).go i H∧∃ N:St→Hp→Prop,(∀ σ' H',N σ' H'→∃ m',m' < m∧W (i+1) m' σ' H')∧∀ x H',(Itr lo n).yld i H x H'→g x σ H' fun σ2 H2=>tb { D with nx:=N,ct:=N,bk:=D.nx } σ2 H2):=by
 refine ⟨fun i m σ H=>m=n-i∧i≤n∧Pv i σ H,⟨n,by simp,Nat.zero_le _,h0⟩,?_⟩;rintro i m σ H ⟨rfl,hi,p⟩
 by_cases hlt:i < n
 ·refine .inr ⟨hlt,Pv (i+1),fun σ' H' p'=>⟨n-(i+1),by omega,rfl,hlt,p'⟩,fun x H' y=>?_⟩;obtain ⟨e,y⟩:=y;subst e y;exact hs i σ _ hlt p
 ·have e:i=n:=by omega
  subst e;exact .inl ⟨Nat.le_refl _,hd σ H p⟩
end L2
namespace L2
open PySem PySem.Spec PyProof.Rows
abbrev R2:=V→V→Hp→VK→Prop
def OpR (X:Cx) (f:Value→Value→Sem Value) (r:R2):Prop :=
 ∀ (pins:List (Addr×Obj)) (s:Shared) (σ:St) (H:Hp) (x y:V) (v u:Value) (Q:VK),Inv X pins σ H s→RelV x v→RelV y u→r x y H Q →
  wpAny (model X.prog X.w) X.A (f v u) (EP X pins σ Q) X.xe s
def zcG (X:Cx) (f:Value) (r:List V→Hp→VK→Prop):Prop :=
 ∀ (pins:List (Addr×Obj)) (s:Shared) (σ:St) (H:Hp) (xs:List V) (us:List Value) (Q:VK),Inv X pins σ H s→Vals xs us→r xs H Q →
  wpAny (model X.prog X.w) X.A (call f us) (EP X pins σ Q) X.xe s
def TruR (X:Cx) (r:V→Hp→(Bool→Hp→Prop)→Prop):Prop :=
 ∀ (pins:List (Addr×Obj)) (s:Shared) (σ:St) (H:Hp) (x:V) (v:Value) (Q:Bool→Hp→Prop),Inv X pins σ H s→RelV x v→r x H Q →
  wpAny (model X.prog X.w) X.A (truthy v) (TP X pins σ Q) X.xe s
def tOp (r:R2) (ta tb:TE):TE:=fun σ H Q=>ta σ H fun x H1=>tb σ H1 fun y H2=>r x y H2 Q
def rI (C:Int→Int→Prop) (g:Int→Int→V):R2:=fun x y H Q=>∃ i j,x=.int i∧y=.int j∧C i j∧Q (g i j) H
def rI0 (g:Int→Int→V):R2:=fun x y H Q=>∃ i j,x=.int i∧y=.int j∧Q (g i j) H
section
variable {X:Cx} {a b c:Expr} {ta tb tc:TE} {pos:Pos}
theorem binT (ha:PE X a ta) (hb:PE X b tb) {pins:List (Addr×Obj)} {s:Shared} {σ:St} {H:Hp} {R:V→V→Hp→Prop} (I:Inv X pins σ H s)
  (h:ta σ H fun x H1=>tb σ H1 fun y H2=>R x y H2) {Q:Value→Shared→Prop} {f:Value→Value→Sem Value}
  (hf:∀ v u s2 x y H2,Inv X pins σ H2 s2→RelV x v→RelV y u→R x y H2→wpAny (model X.prog X.w) X.A (f v u) Q X.xe s2) :
  wpAny (model X.prog X.w) X.A (eval a X.env) (fun v s₁=>wpAny (model X.prog X.w) X.A (eval b X.env) (fun u s₂=>wpAny (model X.prog X.w) X.A (f v u) Q X.xe s₂) X.xe s₁) X.xe s:=by
 refine thn (ha pins s σ H _ I h) fun v s1 ⟨x,H1,I1,r1,q1⟩=>?_;refine thn (hb pins s1 σ H1 _ I1 q1) fun u s2 ⟨y,H2,I2,r2,q2⟩=>?_;exact hf v u s2 x y H2 I2 r1 r2 q2
theorem zay {op:Operator} {r:R2} (ho:OpR X (binaryOp op) r) (ha:PE X a ta) (hb:PE X b tb):PE X (.BinOp a op b pos) (tOp r ta tb):=by
 intro pins s σ H Q I h;exact wpAny_BinOp (binT ha hb I h fun v u s2 x y H2 I2 rx ry q=>ho pins s2 σ H2 x y v u Q I2 rx ry q)
theorem opI {f:Value→Value→Sem Value} {C:Int→Int→Prop} {g:Int→Int→Int}
  (rule:∀ (i j:Int) (t u:Tok) (s:Shared) (Q:Value→Shared→Prop) (E:Value→Shared→Prop),C i j→Q (.int (g i j) s.toks) { s with toks:=s.toks+1 }→wpAny (model X.prog X.w) X.A (f (.int i t) (.int j u)) Q E s) :
  OpR X f (rI C fun i j=>.int (g i j)):=by
 intro pins s σ H x y v u Q I rx ry h;obtain ⟨i,j,rfl,rfl,hc,q⟩:=h;obtain ⟨t,rfl⟩:=rx;obtain ⟨t',rfl⟩:=ry;exact rule i j t t' s _ _ hc ⟨.int (g i j),H,I.tok _,⟨_,rfl⟩,q⟩
theorem opI0 {f:Value→Value→Sem Value} {g:Int→Int→Int}
  (rule:∀ (i j:Int) (t u:Tok) (s:Shared) (Q:Value→Shared→Prop) (E:Value→Shared→Prop),Q (.int (g i j) s.toks) { s with toks:=s.toks+1 }→wpAny (model X.prog X.w) X.A (f (.int i t) (.int j u)) Q E s) :
  OpR X f (rI0 fun i j=>.int (g i j)):=by
 intro pins s σ H x y v u Q I rx ry h;obtain ⟨i,j,rfl,rfl,q⟩:=h;obtain ⟨t,rfl⟩:=rx;obtain ⟨t',rfl⟩:=ry;exact rule i j t t' s _ _ ⟨.int (g i j),H,I.tok _,⟨_,rfl⟩,q⟩
theorem opB0 {f:Value→Value→Sem Value} {g:Int→Int→Bool}
  (rule:∀ (i j:Int) (t u:Tok) (s:Shared) (Q:Value→Shared→Prop) (E:Value→Shared→Prop),Q (.bool (g i j)) s→wpAny (model X.prog X.w) X.A (f (.int i t) (.int j u)) Q E s) :
  OpR X f (rI0 fun i j=>.bl (g i j)):=by
 intro pins s σ H x y v u Q I rx ry h;obtain ⟨i,j,rfl,rfl,q⟩:=h;obtain ⟨t,rfl⟩:=rx;obtain ⟨t',rfl⟩:=ry;exact rule i j t t' s _ _ ⟨.bl (g i j),H,I,rfl,q⟩
def CMul (i j:Int):Prop:=(-(2 ^ 64) < i∧i < 2 ^ 64)∨(-(2 ^ 64) < j∧j < 2 ^ 64)
theorem CMul.ok {i j:Int} (h:CMul i j):IntMulOk i j:=by
 rcases h with ⟨h1,h2⟩ | ⟨h1,h2⟩
 ·exact .of_left (intBits_le_64 h1 h2)
 ·exact .of_right (intBits_le_64 h1 h2)
theorem op_add:OpR X (binaryOp .Add) (rI0 fun i j=>.int (i+j)):=opI0 fun _ _ _ _ _ _ _ q=>add_int q
theorem op_sub:OpR X (binaryOp .Sub) (rI0 fun i j=>.int (i-j)):=opI0 fun _ _ _ _ _ _ _ q=>sub_int q
theorem op_mod:OpR X (binaryOp .Mod) (rI (fun _ j=>0 < j) fun i j=>.int (i % j)):=opI fun i j _ _ _ _ _ hc q=>by
 have h1:(0:Int) < j:=hc;exact mod_int' (by omega) (by rw [Int.fmod_eq_emod_of_nonneg i (by omega)];exact q)
end
def scal:V→V→Bool
 | .non,.non=>true | .non,.int _=>true | .int _,.non=>true | .non,.bl _=>true | .bl _,.non=>true | .non,.str _=>true | .str _,.non=>true
 | .int _,.int _=>true | .bl _,.bl _=>true | .str _,.str _=>true | .byt _,.byt _=>true
 | .int _,.str _=>true | .str _,.int _=>true | .bl _,.str _=>true | .str _,.bl _=>true
 | _,_=>false
def rEq:R2:=fun x y H Q=>scal x y=true∧Q (.bl (decide (x=y))) H
def rNe:R2:=fun x y H Q=>scal x y=true∧Q (.bl (!decide (x=y))) H
theorem zis {i j:Int}:decide (V.int i=V.int j)=(i == j):=by
 rw [Bool.eq_iff_iff];simp
theorem zkU {i j:Bool}:decide (V.bl i=V.bl j)=(i == j):=by
 rw [Bool.eq_iff_iff];simp
theorem zit {i j:Str}:decide (V.str i=V.str j)=(i == j):=by
 rw [Bool.eq_iff_iff];simp
theorem ziu {i j:Array UInt8}:decide (V.byt i=V.byt j)=(i.toList == j.toList):=by
 rw [Bool.eq_iff_iff]
 cases i
 cases j
 simp
section
variable {X:Cx} {a b c:Expr} {ta tb tc:TE} {pos:Pos}
theorem zaY {pins:List (Addr×Obj)} {σ:St} {H:Hp} {s:Shared} {Q:VK} {k k':Bool} (I:Inv X pins σ H s) (q:Q (.bl k) H) (e:k=k'):EP X pins σ Q (.bool k') s:=by
 subst e;exact ⟨.bl k,H,I,rfl,q⟩
theorem op_eq:OpR X (compareOp .Eq) rEq:=by
 intro pins s σ H x y v u Q I rx ry h;obtain ⟨hs,q⟩:=h
 cases x with
 | non =>
   cases rx
   cases y with
   | non=>cases ry;exact PySem.EqNone.eq_none_none (zaY I q (by simp))
   | bl j=>cases ry;exact PySem.EqNone.eq_none_bool (zaY I q (by simp))
   | int j=>obtain ⟨t',rfl⟩:=ry;exact PySem.EqNone.eq_none_int (zaY I q (by simp))
   | str j=>obtain ⟨t',rfl⟩:=ry;exact PySem.EqNone.eq_none_str (zaY I q (by simp))
   | _=>exact absurd (show false=true from hs) Bool.false_ne_true
 | bl i =>
   cases rx
   cases y with
   | non=>cases ry;exact PySem.EqNone.eq_bool_none (zaY I q (by simp))
   | bl j=>cases ry;exact eq_bool (zaY I q zkU)
   | str j=>obtain ⟨t',rfl⟩:=ry;exact PySem.EqMixed.eq_bool_str (zaY I q (by simp))
   | _=>exact absurd (show false=true from hs) Bool.false_ne_true
 | int i =>
   obtain ⟨t,rfl⟩:=rx
   cases y with
   | non=>cases ry;exact PySem.EqNone.eq_int_none (zaY I q (by simp))
   | int j=>obtain ⟨t',rfl⟩:=ry;exact eq_int (zaY I q zis)
   | str j=>obtain ⟨t',rfl⟩:=ry;exact PySem.EqMixed.eq_int_str (zaY I q (by simp))
   | _=>exact absurd (show false=true from hs) Bool.false_ne_true
 | str i =>
   obtain ⟨t,rfl⟩:=rx
   cases y with
   | non=>cases ry;exact PySem.EqNone.eq_str_none (zaY I q (by simp))
   | bl j=>cases ry;exact PySem.EqMixed.eq_str_bool (zaY I q (by simp))
   | int j=>obtain ⟨t',rfl⟩:=ry;exact PySem.EqMixed.eq_str_int (zaY I q (by simp))
   | str j=>obtain ⟨t',rfl⟩:=ry;exact eq_str (zaY I q zit)
   | _=>exact absurd (show false=true from hs) Bool.false_ne_true
 | byt i =>
   obtain ⟨t,rfl⟩:=rx
   cases y with
   | byt j=>obtain ⟨t',rfl⟩:=ry;exact PySem.W.eq_bytes (zaY I q ziu)
   | _=>exact absurd (show false=true from hs) Bool.false_ne_true
 | _=>cases y <;> exact absurd (show false=true from hs) Bool.false_ne_true
theorem op_ne:OpR X (compareOp .NotEq) rNe:=by
 intro pins s σ H x y v u Q I rx ry h;obtain ⟨hs,q⟩:=h
 cases x with
 | non =>
   cases rx
   cases y with
   | non=>cases ry;exact PySem.EqNone.ne_none_none (zaY I q (by simp))
   | bl j=>cases ry;exact PySem.EqNone.ne_none_bool (zaY I q (by simp))
   | int j=>obtain ⟨t',rfl⟩:=ry;exact PySem.EqNone.ne_none_int (zaY I q (by simp))
   | str j=>obtain ⟨t',rfl⟩:=ry;exact PySem.EqNone.ne_none_str (zaY I q (by simp))
   | _=>exact absurd (show false=true from hs) Bool.false_ne_true
 | bl i =>
   cases rx
   cases y with
   | non=>cases ry;exact PySem.EqNone.ne_bool_none (zaY I q (by simp))
   | bl j=>cases ry;exact ne_bool (zaY I q (congrArg not zkU))
   | str j=>obtain ⟨t',rfl⟩:=ry;exact PySem.EqMixed.ne_bool_str (zaY I q (by simp))
   | _=>exact absurd (show false=true from hs) Bool.false_ne_true
 | int i =>
   obtain ⟨t,rfl⟩:=rx
   cases y with
   | non=>cases ry;exact PySem.EqNone.ne_int_none (zaY I q (by simp))
   | int j=>obtain ⟨t',rfl⟩:=ry;exact ne_int (zaY I q (congrArg not zis))
   | str j=>obtain ⟨t',rfl⟩:=ry;exact PySem.EqMixed.ne_int_str (zaY I q (by simp))
   | _=>exact absurd (show false=true from hs) Bool.false_ne_true
 | str i =>
   obtain ⟨t,rfl⟩:=rx
   cases y with
   | non=>cases ry;exact PySem.EqNone.ne_str_none (zaY I q (by simp))
   | bl j=>cases ry;exact PySem.EqMixed.ne_str_bool (zaY I q (by simp))
   | int j=>obtain ⟨t',rfl⟩:=ry;exact PySem.EqMixed.ne_str_int (zaY I q (by simp))
   | str j=>obtain ⟨t',rfl⟩:=ry;exact ne_str (zaY I q (congrArg not zit))
   | _=>exact absurd (show false=true from hs) Bool.false_ne_true
 | byt i =>
   obtain ⟨t,rfl⟩:=rx
   cases y with
   | byt j=>obtain ⟨t',rfl⟩:=ry;exact PySem.W.ne_bytes (zaY I q (congrArg not ziu))
   | _=>exact absurd (show false=true from hs) Bool.false_ne_true
 | _=>cases y <;> exact absurd (show false=true from hs) Bool.false_ne_true
theorem op_lt:OpR X (compareOp .Lt) (rI0 fun i j=>.bl (decide (i < j))):=opB0 fun _ _ _ _ _ _ _ q=>lt_int q
theorem op_gt:OpR X (compareOp .Gt) (rI0 fun i j=>.bl (decide (j < i))):=opB0 fun _ _ _ _ _ _ _ q=>gt_int q
theorem op_ge:OpR X (compareOp .GtE) (rI0 fun i j=>.bl (decide (j≤i))):=opB0 fun _ _ _ _ _ _ _ q=>ge_int q
theorem op_isN:OpR X (compareOp .Is) (fun x y H Q=>y=.non∧Q (.bl (decide (x=.non))) H):=by
 intro pins s σ H x y v u Q I rx ry h;obtain ⟨rfl,q⟩:=h
 cases ry
 refine is_none_gen (zaY I q ?_)
 cases x <;> first
  | (cases rx;rfl)
  | (obtain ⟨t,rfl⟩:=rx;rfl)
theorem OpR.or {f:Value→Value→Sem Value} {r r':R2} (h:OpR X f r) (h':OpR X f r'):OpR X f (fun x y H Q=>r x y H Q∨r' x y H Q):=by
 intro pins s σ H x y v u Q I rx ry q;rcases q with q | q
 ·exact h pins s σ H x y v u Q I rx ry q
 ·exact h' pins s σ H x y v u Q I rx ry q
theorem zaC (b:Expr) {op:CmpOp} (h:op≠.In:=by decide) (h2:op≠.NotIn:=by decide):behindInMarks op b=false:=by
 have e1:(op == CmpOp.In)=false:=by cases op <;> first | rfl | exact absurd rfl h
 have e2:(op == CmpOp.NotIn)=false:=by cases op <;> first | rfl | exact absurd rfl h2
 cases b <;> simp [behindInMarks,e1,e2]
theorem zdG {op:CmpOp} {r:R2} (ho:OpR X (compareOp op) r) (ha:PE X a ta) (hb:PE X b tb) (hm:behindInMarks op b=false):PE X (.Compare a [op] [b] pos) (tOp r ta tb):=by
 intro pins s σ H Q I h;exact wpAny_Compare1 (binT ha hb I h fun v u s2 x y H2 I2 rx ry q=>ho pins s2 σ H2 x y v u Q I2 rx ry q) hm
def zms (t:TE):TT:=fun σ H Q=>t σ H fun x H'=>∃ k,x=.bl k∧Q k H'
theorem zat {op:CmpOp} {r:R2} (ho:OpR X (compareOp op) r) (ha:PE X a ta) (hb:PE X b tb) (hm:behindInMarks op b=false):PT X (.Compare a [op] [b] pos) (zms (tOp r ta tb)):=by
 intro pins s σ H Q I h;refine wpAny_isTrue_Compare1 (thn (ha pins s σ H _ I h) fun v s1 ⟨x,H1,I1,r1,q1⟩=>thn (hb pins s1 σ H1 _ I1 q1) fun u s2 ⟨y,H2,I2,r2,q2⟩ =>
  thn (ho pins s2 σ H2 x y v u _ I2 r1 r2 q2) fun c s3 ⟨z,H3,I3,r3,k,e,q3⟩=>?_) hm
 subst e
 cases r3
 exact wpAny_truthy_bool ⟨H3,I3,q3⟩
def TruV (K:PySem.W.Frag) (x:V) (H:Hp) (k:Bool):Prop :=
 match x with
 | .non=>k=false
 | .bl b=>k=b
 | .int i=>k=(i != 0)
 | .str y=>y.length≤sizeLine∧k=((y.length:Int) != 0)
 | .byt y=>y.size≤sizeLine∧k=((y.size:Int) != 0)
 | .ref p=>(∃ xs,SqL K H p xs∧k = !xs.isEmpty)∨(∃ xs,SqT K H p xs∧k = !xs.isEmpty)∨∃ kvs,H p=some (.dK kvs)∧k = !kvs.isEmpty
 | _=>False
theorem zhD {κ:Type} {kvs:List (κ×V)} {vs:List (κ×Value)} (r:KV kvs vs):(!vs.isEmpty) = !kvs.isEmpty:=by
 cases r <;> rfl
theorem ze9 {xs:List V} {its:List Value} (r:Vals xs its):(!its.toArray.isEmpty) = !xs.isEmpty:=by
 cases r <;> simp
theorem line63:(sizeLine:Nat) < 2 ^ 63:=by rw [sizeLine_eq];decide
theorem tru_ok:TruR X (fun x H Q=>∃ k,TruV X.K x H k∧Q k H):=by
 intro pins s σ H x v Q I rx h;obtain ⟨k,e,q⟩:=h;have hl:=line63;have hs:sizeLine=16777216:=sizeLine_eq
 cases x with
 | non =>
   cases rx
   have e':k=false:=e;subst e';exact truthy_none ⟨H,I,q⟩
 | bl b =>
   cases rx
   have e':k=b:=e;subst e';exact wpAny_truthy_bool ⟨H,I,q⟩
 | int i =>
   obtain ⟨t,rfl⟩:=rx;have e':k=(i != 0):=e;subst e';exact PySem.P.truthy_int ⟨H,I,q⟩
 | str y =>
   obtain ⟨t,rfl⟩:=rx;obtain ⟨hy,e'⟩:y.length≤sizeLine∧k=((y.length:Int) != 0):=e;subst e';exact PySem.P.truthy_str (by omega) ⟨H,I.tok _,q⟩
 | byt y =>
   obtain ⟨t,rfl⟩:=rx;obtain ⟨hy,e'⟩:y.size≤sizeLine∧k=((y.size:Int) != 0):=e;subst e';exact PySem.W.truthy_bytes (by omega) ⟨H,I.tok _,q⟩
 | ref p =>
   cases rx
   have e':(∃ xs,SqL X.K H p xs∧k = !xs.isEmpty)∨(∃ xs,SqT X.K H p xs∧k = !xs.isEmpty)∨∃ kvs,H p=some (.dK kvs)∧k = !kvs.isEmpty:=e;rcases e' with ⟨xs,hx,e'⟩ | ⟨xs,hx,e'⟩ | ⟨kvs,hx,e'⟩
   ·subst e';obtain ⟨its,r,pl,hz⟩:=I.list hx;have hlen:=r.length;exact wpAny_truthy_list pl.isList (by simp only [List.size_toArray];omega) ⟨H,I.tok _,by rw [ze9 r];exact q⟩
   ·subst e';obtain ⟨its,r,pl,hz⟩:=I.tuple hx;have hlen:=r.length;exact truthy_tuple pl (by simp only [List.size_toArray];omega) ⟨H,I.tok _,by rw [ze9 r];exact q⟩
   ·subst e';obtain ⟨hz,hS,vs,r,m⟩:kvs.length≤sizeLine∧(p == sysModules)=false∧∃ vs,KV kvs vs∧s.heap.DictOf (zbv X.prog X.w) p vs:=I.hok p _ hx;have hlen:kvs.length=vs.length:=Paired.length r;exact wpAny_truthy_dict hS m (by omega) ⟨H,I.tok _,by rw [zhD r];exact q⟩
 | _=>exact (show False from e).elim
theorem zjY (ha:PE X a ta) (he:∀ whole,isTrue a X.env whole=(do let v ← whole;standAt a.pos;holding [v] (truthy v))) :
  PT X a (fun σ H Q=>ta σ H fun x H'=>∃ k,TruV X.K x H' k∧Q k H'):=by
 intro pins s σ H Q I h;exact isTrue_plain (thn (ha pins s σ H _ I h) fun v s1 ⟨x,H1,I1,r1,q1⟩=>tru_ok pins s1 σ H1 x v Q I1 r1 q1) (he _)
theorem op_add_str:OpR X (binaryOp .Add) (fun x y H Q=>∃ i j,x=.str i∧y=.str j∧i.length+j.length≤sizeLine∧Q (.str (i++j)) H):=by
 intro pins s σ H x y v u Q I rx ry h;obtain ⟨i,j,rfl,rfl,hz,q⟩:=h;obtain ⟨t,rfl⟩:=rx;obtain ⟨t',rfl⟩:=ry;exact add_str (fun t' tk=>⟨.str (i++j),H,I.tok _,⟨_,rfl⟩,q⟩) hz
theorem vals1 {x:V} {us:List Value} (r:Vals [x] us):∃ u,us=[u]∧RelV x u:=by
 cases r with
 | cons r1 r2=>cases r2;exact ⟨_,rfl,r1⟩
theorem vals2 {x y:V} {us:List Value} (r:Vals [x,y] us):∃ u w',us=[u,w']∧RelV x u∧RelV y w':=by
 cases r with
 | cons r1 r2 =>
   cases r2 with
   | cons r3 r4=>cases r4;exact ⟨_,_,rfl,r1,r3⟩
theorem ziv (hc:X.calm=true):zcG X (.builtin "max") (fun xs H Q=>∃ i j,xs=[.int i,.int j]∧Q (.int (if j > i then j else i)) H):=by
 intro pins s σ H xs us Q I r h;obtain ⟨i,j,rfl,q⟩:=h;obtain ⟨u,w',rfl,⟨t,rfl⟩,⟨t',rfl⟩⟩:=vals2 r;refine max_two_ints (I.ok.hd hc) fun h' tk k=>⟨_,H,I.kept k,?_,q⟩
 by_cases hj:j > i
 ·rw [if_pos hj,if_pos hj];exact ⟨_,rfl⟩
 ·rw [if_neg hj,if_neg hj];exact ⟨_,rfl⟩
theorem ziw (hc:X.calm=true):zcG X (.builtin "min") (fun xs H Q=>∃ i j,xs=[.int i,.int j]∧Q (.int (if j < i then j else i)) H):=by
 intro pins s σ H xs us Q I r h;obtain ⟨i,j,rfl,q⟩:=h;obtain ⟨u,w',rfl,⟨t,rfl⟩,⟨t',rfl⟩⟩:=vals2 r;refine min_two_ints (I.ok.hd hc) fun h' tk k=>⟨_,H,I.kept k,?_,q⟩
 by_cases hj:j < i
 ·rw [if_pos hj,if_pos hj];exact ⟨_,rfl⟩
 ·rw [if_neg hj,if_neg hj];exact ⟨_,rfl⟩
theorem call_int1:zcG X (.type "int") (fun xs H Q=>(∃ i,xs=[.int i]∧Q (.int i) H)∨∃ k,xs=[.bl k]∧Q (.int (if k then 1 else 0)) H):=by
 intro pins s σ H xs us Q I r h;rcases h with ⟨i,rfl,q⟩ | ⟨k,rfl,q⟩
 ·obtain ⟨u,rfl,t,rfl⟩:=vals1 r;exact call_int_int ⟨.int i,H,I,⟨_,rfl⟩,q⟩
 ·obtain ⟨u,rfl,r1⟩:=vals1 r
  cases r1
  exact call_int_bool ⟨.int (if k then 1 else 0),H,I.tok _,⟨_,rfl⟩,q⟩
theorem call_str_int:zcG X (.type "str") (fun xs H Q=>∃ i,xs=[.int i]∧i.natAbs.log2 < 1920∧Q (.str (toString i)) H):=by
 intro pins s σ H xs us Q I r h;obtain ⟨i,rfl,hz,q⟩:=h;obtain ⟨u,rfl,t,rfl⟩:=vals1 r;exact PySem.P.str_of_int hz ⟨.str _,H,I.tok _,⟨_,rfl⟩,q⟩
end
end L2
namespace L2
open PySem PySem.Spec PyProof.Rows
structure ObjM (h:Heap) (x dx C:Addr) (mA:Str→Option Value):Prop where
 obj:h.get? x=some (PySem.W.instObj C dx)
 ns:h.Ns1 dx mA
 ne:dx≠x
theorem zix {h:Heap} {dx:Addr} {mA:Str→Option Value} (n:h.Ns1 dx mA):∃ od,h.get? dx=some od∧∀ name,PySem.W.lookIn name od=some (mA name):=by
 obtain ⟨o,es,ep,ho,hd,hk,_,hm⟩:=n;refine ⟨o,ho,fun name=>?_⟩;have e:=hm name;unfold nsFind findBy at e;rw [← Array.find?_toList] at e;unfold PySem.W.lookIn;rw [hd];dsimp only;split
 ·rename_i y q
  rw [q] at e;exact congrArg some e
 ·rename_i q
  rw [q] at e;have a:es.toList.any (·.refKey)=false:=by
   rw [List.any_eq_false];intro y hy;obtain ⟨z,t,hkey⟩:=hk y (Array.mem_toList_iff.mp hy);simp [DictEntry.refKey,hkey]
  have a':¬es.toList.any (·.refKey)=true:=by rw [a];exact Bool.false_ne_true
  rw [if_neg a'];exact congrArg some e
theorem ObjM.look {h:Heap} {x dx C:Addr} {mA:Str→Option Value} (I:ObjM h x dx C mA):∃ od,PySem.W.InstAt h x (PySem.W.instObj C dx) C (some od)∧∀ name,PySem.W.lookIn name od=some (mA name) :=
 let ⟨od,ho,hl⟩:=zix I.ns
 ⟨od,⟨I.obj,rfl,rfl,ho⟩,hl⟩
section
variable {prog:Program} {w:World} {A:Around} {E:Value→Shared→Prop} {s:Shared} {K:PySem.W.Frag} {x dx C f:Addr} {mA:Str→Option Value} {name:Str} {v:Value}
theorem zlj {expr:Bool} {Q:Value→Shared→Prop} (X:K.In s.heap) (I:ObjM s.heap x dx C mA) (hg:PySem.W.plainGet K C name=true) (hh:PySem.W.hasDictIn K C=true)
  (ha:PySem.W.findIn K (.ref C) name=some none) (hv:mA name=some v) (hv':PySem.W.handedIn v=true) (h:Q v { s with toks:=s.toks+1 }) :
  wpAny (model prog w) A (getAttr (.ref x) name expr) Q E s:=by
 obtain ⟨od,J,hl⟩:=I.look;exact PySem.W.get_value X J (PySem.W.plainGet_of hg).1 (PySem.W.findObj_own hh ha rfl (by rw [hl,hv])) hv' h
theorem zjZ {pl:Sem Bool} {Q:Value×List Value→Shared→Prop} (X:K.In s.heap) (I:ObjM s.heap x dx C mA) (hg:PySem.W.plainGet K C name=true)
  (hf:PySem.W.findIn K (.ref C) name=some (some (.ref f))) (ht:PySem.W.isFn K (.ref f)=true) (hv:mA name=none) (h:Q (.ref f,[.ref x]) s) :
  wpAny (model prog w) A (getMethod (.ref x) name pl) Q E s:=by
 obtain ⟨od,J,hl⟩:=I.look;exact PySem.W.method_fn X J (PySem.W.plainGet_of hg).1 (PySem.W.plainGet_of hg).2 hf (beq_iff_eq.mp ht) (by show (PySem.W.lookIn name od).map (·.isSome)=some false;rw [hl,hv];rfl) h
theorem zlk {ns:List Str} {Q:Unit→Shared→Prop} (X:K.In s.heap) (I:ObjM s.heap x dx C mA)
  (hs:PySem.W.findIn K (.ref C) "__setattr__" = some (some (.builtin "object.__setattr__"))) (hp:PySem.W.plainOver K C=true) (ht:PySem.W.takerIn K C name=some none) (hh:PySem.W.hasDictIn K C=true)
  (hw:PySem.Within mA ns) (hsz:ns.length≤sizeLine)
  (h:∀ h',ObjM h' x dx C (fun y=>if y=name then some v else mA y)→Heap.SameBut dx s.heap h'→Q () { s with heap:=h',toks:=s.toks+2 }) :
  wpAny (model prog w) A (setAttr (.ref x) name v) Q E s:=by
 obtain ⟨od,J,hl⟩:=I.look;refine PySem.W.set_plain X J hs (PySem.W.osa_open (s:={ s with toks:=s.toks+1 }) (r:=none) X J hp ht fun b=>?_);obtain ⟨cd,hc,hd'⟩:=PySem.W.any_some hh;have hx:s.heap.get? x=some ⟨.ref C,some dx,.plain,#[]⟩:=I.obj;refine wpAny_bind (wpAny_pure (wpAny_bind (wpAny_bind (wpAny_loadPart hx (wpAny_bind (PySem.W.Looks.here (s:={ s with toks:=s.toks+1 }) (PySem.W.looks_clsIn X hc) ?_))))));rw [hd'];refine wpAny_pure (a:=some dx) (wpAny_bind (wpAny_pure (wpAny_bind ?_)));refine wpAny_nsSet1 (s:={ s with toks:=s.toks+1 }) I.ns fun h' hn2 hs2=>?_;obtain ⟨oD,esD,epD,hoD,hdD,hcD⟩:=hn2.count (PySem.Within.cons name v hw);refine wpAny_bind (wpAny_lookBehind hoD (by rw [hdD];exact pastItsLine_dict (Nat.le_trans hcD (by rw [List.length_cons];omega))) ?_);exact wpAny_pure (h _ ⟨(hs2.2 _ (Ne.symm I.ne)).trans I.obj,hn2,I.ne⟩ hs2)
theorem zj0 {R:Result→Shared→Prop} {vs:List Value} {kw:List (Str×Value)} (X:K.In s.heap) (hm:PySem.W.makesIn K C=true)
  (hi:PySem.W.findIn K (.ref C) "__init__" = some (some (.ref f))) (hf:PySem.W.typeIn K (.ref f)=some (.type "function"))
  (h:codeAny (model prog w) (A.under (.builtin "type.__call__" ⟨.ref C::vs,kw⟩)) (.call (.ref f) ⟨.ref (s.heap.objs.size+1)::vs,kw⟩) (PySem.W.InitBack (s.heap.objs.size+1) R)
   { s with heap:=(s.heap.push PySem.W.emptyDict).push (PySem.W.instObj C s.heap.objs.size) }) :
  codeAny (model prog w) A (.call (.ref C) ⟨vs,kw⟩) R s:=by
 obtain ⟨hh,g,d,t,os⟩:=s;exact PySem.W.make_core (PySem.W.makes_of X hm) (PySem.W.looks_findIn X hi) (fun self=>PySem.W.bind_fn X self hf) (.inl rfl) h
end
def putF (f:Str) (v:V):List (Str×V)→List (Str×V)
 | []=>[(f,v)]
 | (g,x)::r=>if g=f then (g,v)::r else (g,x)::putF f v r
theorem zaA (f g:Str) (v:V):∀ fs:List (Str×V),(putF f v fs).lookup g=if g=f then some v else fs.lookup g
 | []=>by
   show List.lookup g [(f,v)]=_
   by_cases h:g=f
   ·have hb:(g == f)=true:=beq_iff_eq.mpr h;simp only [List.lookup,hb,if_pos h]
   ·have hb:(g == f)=false:=beq_eq_false_iff_ne.mpr h;simp only [List.lookup,hb,if_neg h]
 | (k,x)::r=>by
  have ih:=zaA f g v r;rw [show putF f v ((k,x)::r)=(if k=f then (k,v)::r else (k,x)::putF f v r) from rfl]
  by_cases hk:k=f
  ·rw [if_pos hk]
   by_cases h:g=k
   ·have hb:(g == k)=true:=beq_iff_eq.mpr h;simp only [List.lookup,hb,if_pos (h.trans hk)]
   ·have hb:(g == k)=false:=beq_eq_false_iff_ne.mpr h;simp only [List.lookup,hb,if_neg (fun e:g=f=>h (e.trans hk.symm))]
  ·rw [if_neg hk]
   by_cases h:g=k
   ·have hb:(g == k)=true:=beq_iff_eq.mpr h;simp only [List.lookup,hb,if_neg (fun e:g=f=>hk (h.symm.trans e))]
   ·have hb:(g == k)=false:=beq_eq_false_iff_ne.mpr h;simp only [List.lookup,hb];exact ih
theorem zek (f:Str) (v:V):∀ fs:List (Str×V),f∈(putF f v fs).map (·.1)∧∀ g,g∈fs.map (·.1)→g∈(putF f v fs).map (·.1)
 | []=>⟨by simp [putF],fun g h=>by simp at h⟩
 | (k,x)::r=>by
  obtain ⟨i1,i2⟩:=zek f v r;rw [show putF f v ((k,x)::r)=(if k=f then (k,v)::r else (k,x)::putF f v r) from rfl]
  by_cases hk:k=f
  ·rw [if_pos hk];subst hk;exact ⟨by simp,fun g h=>by simpa using h⟩
  ·rw [if_neg hk];refine ⟨?_,fun g h=>?_⟩
   ·rw [List.map_cons];exact List.mem_cons_of_mem _ i1
   ·rw [List.map_cons] at h ⊢;rcases List.mem_cons.mp h with e | e
    ·exact List.mem_cons.mpr (.inl e)
    ·exact List.mem_cons_of_mem _ (i2 g e)
theorem zel (f:Str) (v:V):∀ fs:List (Str×V),(putF f v fs).length≤fs.length+1
 | []=>by simp [putF]
 | (k,x)::r=>by
  have ih:=zel f v r;rw [show putF f v ((k,x)::r)=(if k=f then (k,v)::r else (k,x)::putF f v r) from rfl]
  by_cases hk:k=f
  ·rw [if_pos hk,List.length_cons,List.length_cons];omega
  ·rw [if_neg hk,List.length_cons,List.length_cons];omega
theorem RelO.some_of {v:V} {o:Option Value} (r:RelO (some v) o):∃ u,o=some u∧RelV v u:=by
 cases o with
 | none=>exact (show False from r).elim
 | some u=>exact ⟨u,rfl,r⟩
theorem RelO.none_of {o:Option Value} (r:RelO none o):o=none:=by
 cases o with
 | none=>rfl
 | some u=>exact (show False from r).elim
theorem ziy {v:V} {u:Value} (r:RelV v u):PySem.W.handedIn u=true:=by
 cases v with
 | non=>cases (show u=Value.none from r);rfl
 | bl b=>cases (show u=Value.bool b from r);rfl
 | int i=>obtain ⟨t,e⟩:=(show ∃ t,u=Value.int i t from r);cases e;rfl
 | str x=>obtain ⟨t,e⟩:=(show ∃ t,u=Value.str x t from r);cases e;rfl
 | byt b=>obtain ⟨t,e⟩:=(show ∃ t,u=Value.bytes b t from r);cases e;rfl
 | flt b=>obtain ⟨t,e⟩:=(show ∃ t,u=Value.float b t from r);cases e;rfl
 | ref a=>cases (show u=Value.ref a from r);rfl
 | ty n=>cases (show u=Value.type n from r);rfl
section
variable {P:Program} {w:World} {H H':Hp} {h h':Heap} {a C dx:Addr} {fs fs':List (Str×V)}
theorem zfp (hok:HOk P w H h) (e:H a=some (.ins C dx fs)):∃ mA,ObjM h a dx C mA∧(∀ f,RelO (fs.lookup f) (mA f))∧PySem.Within mA (fs.map (·.1))∧fs.length≤1000∧H dx=some (.own a):=by
 obtain ⟨d,z,ne,ob,mA,n,r,q⟩:=(show zbD P w H h a (.ins C dx fs) from hok a _ e)
 exact ⟨mA,⟨ob,n,ne⟩,r,q,z,d⟩
end
structure Cls (K:PySem.W.Frag) (C:Addr):Prop where
 pg:PySem.W.plainGet K C Str.empty=true
 hd:PySem.W.hasDictIn K C=true
 po:PySem.W.plainOver K C=true
 sa:PySem.W.findIn K (.ref C) "__setattr__" = some (some (.builtin "object.__setattr__"))
theorem Cls.get {K:PySem.W.Frag} {C:Addr} (c:Cls K C) (f:Str):PySem.W.plainGet K C f=true:=c.pg
def zbw (K:PySem.W.Frag) (C:Addr) (f:Str):Prop:=PySem.W.findIn K (.ref C) f=some none
theorem zbw.taker {K:PySem.W.Frag} {C:Addr} {f:Str} (n:zbw K C f):PySem.W.takerIn K C f=some none:=by
 unfold PySem.W.takerIn;rw [show PySem.W.findIn K (.ref C) f=some none from n];rfl
structure Meth (K:PySem.W.Frag) (C:Addr) (m:Str) (f:Addr):Prop where
 at_:PySem.W.findIn K (.ref C) m=some (some (.ref f))
 fn:PySem.W.isFn K (.ref f)=true
 kp:PySem.W.keepIn K (.ref f)=true
section
variable {X:Cx} {pins:List (Addr×Obj)} {σ:St} {H:Hp} {s:Shared} {a C dx:Addr} {fs:List (Str×V)} {f:Str} {v:V} {A:Around} {E:Value→Shared→Prop}
theorem zhE {b:Bool} {Q:Value→Shared→Prop} (I:Inv X pins σ H s) (e:H a=some (.ins C dx fs)) (c:Cls X.K C) (n:zbw X.K C f) (l:fs.lookup f=some v)
  (h:∀ u s',Inv X pins σ H s'→RelV v u→Q u s'):wpAny (model X.prog X.w) A (getAttr (.ref a) f b) Q E s:=by
 obtain ⟨mA,O,r,_,_,_⟩:=zfp I.hok e;obtain ⟨u,hu,ru⟩:=RelO.some_of (v:=v) (o:=mA f) (by rw [← l];exact r f);exact zlj I.kIn O (c.get f) c.hd n hu (ziy ru) (h u _ (I.tok _) ru)
theorem zfa {m:Str} {g:Addr} {pl:Sem Bool} {Q:Value×List Value→Shared→Prop} (I:Inv X pins σ H s) (e:H a=some (.ins C dx fs)) (c:Cls X.K C) (k:Meth X.K C m g) (l:fs.lookup m=none)
  (h:Q (.ref g,[.ref a]) s):wpAny (model X.prog X.w) A (getMethod (.ref a) m pl) Q E s:=by
 obtain ⟨mA,O,r,_,_,_⟩:=zfp I.hok e;have hn:mA m=none:=RelO.none_of (by rw [← l];exact r m);exact zjZ I.kIn O (c.get m) k.at_ k.fn hn h
theorem zhF {y:V} {u:Value} {Q:Unit→Shared→Prop} (I:Inv X pins σ H s) (e:H a=some (.ins C dx fs)) (c:Cls X.K C) (n:zbw X.K C f) (hl:fs.length < 1000) (ry:RelV y u)
  (h:∀ s',Inv X pins σ (upd H a (.ins C dx (putF f y fs))) s'→Q () s'):wpAny (model X.prog X.w) A (setAttr (.ref a) f u) Q E s:=by
 obtain ⟨mA,O,r,wi,_,ho⟩:=zfp I.hok e;have hz:(fs.map (·.1)).length≤sizeLine:=by rw [List.length_map,sizeLine_eq];omega
 refine zlk I.kIn O c.sa c.po n.taker c.hd wi hz fun h' O' sb=>h _ ?_;have hd:∃ o,h'.get? dx=some o:=let ⟨o,_,_,e',_⟩:=O'.ns;⟨o,e'⟩;refine I.write (x:=a) (e:=dx) (by rw [e];exact True.intro) (.inr ho) (fun b q hb z=>(sb.2 b hb).trans z) hd ?_;refine ⟨by rw [zaJ O.ne];exact ho,?_,O.ne,O'.obj,_,O'.ns,fun g=>?_,fun g hg=>?_⟩
 ·have:=zel f y fs;omega
 ·show RelO ((putF f y fs).lookup g) (if g=f then some u else mA g);rw [zaA]
  by_cases q:g=f
  ·rw [if_pos q,if_pos q];exact ry
  ·rw [if_neg q,if_neg q];exact r g
 ·by_cases q:g=f
  ·rw [q];exact (zek f y fs).1
  ·refine (zek f y fs).2 g (wi g fun z=>hg ?_);show (if g=f then some u else mA g)=none;rw [if_neg q];exact z
theorem Inv.made (I:Inv X pins σ H s):Inv X pins σ (upd (upd H s.heap.objs.size (.own (s.heap.objs.size+1))) (s.heap.objs.size+1) (.ins C s.heap.objs.size []))
  { s with heap:=(s.heap.push PySem.W.emptyDict).push (PySem.W.instObj C s.heap.objs.size) }:=by
 have e1:(s.heap.push PySem.W.emptyDict).get? s.heap.objs.size=some PySem.W.emptyDict:=Heap.get?_push_size s.heap rfl;have e2:((s.heap.push PySem.W.emptyDict).push (PySem.W.instObj C s.heap.objs.size)).get? (s.heap.objs.size+1)=some (PySem.W.instObj C s.heap.objs.size):=by
  have:=Heap.get?_push_size (s.heap.push PySem.W.emptyDict) (o:=PySem.W.instObj C s.heap.objs.size) rfl
  rwa [Heap.size_push] at this
 have e3:(s.heap.push PySem.W.emptyDict).Ns s.heap.objs.size (fun _=>none):=⟨PySem.W.emptyDict,#[],_,e1,rfl,(fun e he=>absurd he (by simp)),fun _=>rfl⟩
 have I1:=I.laid (a:=s.heap.objs.size) (o:=.own (s.heap.objs.size+1)) (h':=s.heap.push PySem.W.emptyDict) (t':=s.toks) (fun b u q=>Heap.get?_push_of_some _ q) (Nat.le_refl _) ⟨_,e1⟩;refine I1.laid (a:=s.heap.objs.size+1) (o:=.ins C s.heap.objs.size []) (t':=s.toks) (fun b u q=>Heap.get?_push_of_some _ q) (Nat.le_of_eq (Heap.size_push _ _)) ?_;have ne:s.heap.objs.size≠s.heap.objs.size+1:=Nat.ne_of_lt (Nat.lt_succ_self _);refine ⟨by rw [zaJ ne,zar],Nat.zero_le _,ne,e2,fun _=>none,(Heap.Ns1.of_empty e3).at fun o q=>Heap.get?_push_of_some _ q,fun _=>True.intro,fun y hy=>absurd rfl hy⟩
theorem zll {prog:Program} {w:World} {env:Env} {e:Expr} {f:Str} {pos:Pos} {s:Shared} {Q:Value→Shared→Prop} (hb:attributeBase e f env (eval e env)=eval e env)
  (h:wpAny (model prog w) A (eval e env) (fun o s₁=>wpAny (model prog w) A (getAttr o f true) Q E s₁) E s):wpAny (model prog w) A (eval (.Attribute e f pos) env) Q E s :=
 Attribute_any_ h (by rw [arm_eval_Attribute,hb])
end
def tFld (K:PySem.W.Frag) (ta:TE) (f:Str):TE:=fun σ H Q=>ta σ H fun x H1=>∃ a C dx fs v,x=.ref a∧H1 a=some (.ins C dx fs)∧Cls K C∧zbw K C f∧fs.lookup f=some v∧Q v H1
def sFld (K:PySem.W.Frag) (ta tv:TE) (f:Str):TS:=fun D σ H=>tv σ H fun y H1=>ta σ H1 fun x H2=>∃ a C dx fs,x=.ref a∧H2 a=some (.ins C dx fs)∧Cls K C∧zbw K C f∧fs.length < 1000 ∧
 D.nx σ (upd H2 a (.ins C dx (putF f y fs)))
section
variable {X:Cx} {o e value:Expr} {f:Str} {pos pos' tpos:Pos} {ta tv:TE}
theorem zmt (he:PE X e ta) (hb:attributeBase e f X.env (eval e X.env)=eval e X.env):PE X (.Attribute e f pos) (tFld X.K ta f):=by
 intro pins s σ H Q I h;refine zll hb (thn (he pins s σ H _ I h) fun u s1 ⟨x,H1,I1,rx,a,C,dx,fs,v,ex,ea,c,n,l,q⟩=>?_);subst ex;obtain rfl:u=Value.ref a:=rx;exact zhE I1 ea c n l fun u' s2 I2 ru=>⟨v,H1,I2,ru,q⟩
theorem zmu (ha:PE X o ta) (hv:PE X value tv) (hs:swapsWith value (some (.Attribute o f pos')) pos.line X.env=pure false):PS X (.Assign [.Attribute o f pos'] value pos) (sFld X.K ta tv f):=by
 intro pins s σ H D I h;refine plainObj_wpAny_Assign_Attribute (thn (hv pins s σ H _ I h) fun u s1 ⟨y,H1,I1,ry,q⟩=>thn (ha pins s1 σ H1 _ I1 q) fun ov s2 ⟨x,H2,I2,rx,a,C,dx,fs,ex,ea,c,n,l,q2⟩=>?_) hs;subst ex;obtain rfl:ov=Value.ref a:=rx;exact zhF I2 ea c n l ry fun s3 I3=>⟨σ,_,I3,q2⟩
end
section
variable {X:Cx} {pins:List (Addr×Obj)} {σ:St} {H:Hp} {s:Shared} {A:Around} {E:Value→Shared→Prop} {Q:Value→Shared→Prop} {c:Value} {b:Bool}
inductive TyOf (K:PySem.W.Frag) (H:Hp):V→Value→Prop where
 | non:TyOf K H .non (.type "NoneType")
 | bl (x:Bool):TyOf K H (.bl x) (.type "bool")
 | int (i:Int):TyOf K H (.int i) (.type "int")
 | str (x:Str):TyOf K H (.str x) (.type "str")
 | flt (x:UInt64):TyOf K H (.flt x) (.type "float")
 | lst {a:Addr} {xs:List V} (e:H a=some (.lst xs)):TyOf K H (.ref a) (.type "list")
 | frz {a:Addr} {o:Obj} {xs:List V} (e:H a=some (.frz o (.lst xs))):TyOf K H (.ref a) (.type "list")
 | tup {a:Addr} {xs:List V} (e:H a=some (.tup xs)):TyOf K H (.ref a) (.type "tuple")
 | dK {a:Addr} {kvs:List (Key×V)} (e:H a=some (.dK kvs)):TyOf K H (.ref a) (.type "dict")
 | dT {a:Addr} {kvs:List (List Key×V)} (e:H a=some (.dT kvs)):TyOf K H (.ref a) (.type "dict")
 | ins {a C dx:Addr} {fs:List (Str×V)} (e:H a=some (.ins C dx fs)) (cl:Cls K C) (ha:PySem.W.findIn K (.ref C) "__class__" = some (some (.builtin "object.__class__")))
    (hn:PySem.W.specialIn K (.builtin "object.__class__") "__get__" = some (some (.builtin "getset_descriptor.__get__"))) (htk:PySem.W.takesIn K (.builtin "object.__class__")=some true)
    (hm:PySem.W.mroIn K C (.type "object")=some true):TyOf K H (.ref a) (.ref C)
theorem ziz {x:V} {u t:Value} (I:Inv X pins σ H s) (rx:RelV x u) (ty:TyOf X.K H x t) (e:PySem.W.kitOne X.K t c=some b) (h:∀ tk,Q (.bool b) { s with toks:=tk }) :
  wpAny (model X.prog X.w) A (call (.builtin "isinstance") [u,c]) Q E s:=by
 cases ty with
 | non=>cases (show u=Value.none from rx);exact PySem.W.kia_one PySem.W.kitx_none I.kIn True.intro e (fun z=>nomatch z) h
 | bl y=>cases (show u=Value.bool y from rx);exact PySem.W.kia_one PySem.W.kitx_bool I.kIn True.intro e (fun z=>nomatch z) h
 | int i=>obtain ⟨t,q⟩:=(show ∃ t,u=Value.int i t from rx);cases q;exact PySem.W.kia_one PySem.W.kitx_int I.kIn True.intro e (fun z=>nomatch z) h
 | str y=>obtain ⟨t,q⟩:=(show ∃ t,u=Value.str y t from rx);cases q;exact PySem.W.kia_one PySem.W.kitx_str I.kIn True.intro e (fun z=>nomatch z) h
 | flt y=>obtain ⟨t,q⟩:=(show ∃ t,u=Value.float y t from rx);cases q;exact PySem.W.kia_one PySem.W.kitx_float I.kIn True.intro e (fun z=>nomatch z) h
 | @lst a xs ea =>
   cases (show u=Value.ref a from rx)
   obtain ⟨_,_,n,_,h1⟩:=(show zbD X.prog X.w H s.heap a (.lst xs) from I.hok a _ ea)
   exact PySem.W.kia_one PySem.W.kitx_list I.kIn ⟨_,h1,rfl⟩ e (fun z=>nomatch z) h
 | @frz a ob xs ea =>
   cases (show u=Value.ref a from rx)
   obtain ⟨_,_,_,n,_,h1⟩:=(show zbD X.prog X.w H s.heap a (.frz ob (.lst xs)) from I.hok a _ ea)
   exact PySem.W.kia_one PySem.W.kitx_list I.kIn ⟨_,h1,rfl⟩ e (fun z=>nomatch z) h
 | @tup a xs ea =>
   cases (show u=Value.ref a from rx)
   obtain ⟨_,_,_,p⟩:=(show zbD X.prog X.w H s.heap a (.tup xs) from I.hok a _ ea)
   obtain ⟨o,h1,h2,_⟩:=p;exact PySem.W.kia_one PySem.W.kitx_tuple I.kIn ⟨o,h1,h2⟩ e (fun z=>nomatch z) h
 | @dK a kvs ea =>
   cases (show u=Value.ref a from rx)
   obtain ⟨_,_,vs,_,p⟩:=(show zbD X.prog X.w H s.heap a (.dK kvs) from I.hok a _ ea)
   obtain ⟨o,es,ep,h1,h2,_⟩:=p;exact PySem.W.kia_one PySem.W.kitx_dict I.kIn ⟨o,h1,h2.1⟩ e (fun z=>nomatch z) h
 | @dT a kvs ea =>
   cases (show u=Value.ref a from rx)
   obtain ⟨_,_,xs,_,o,es,ep,h1,h2,_⟩:=(show zbD X.prog X.w H s.heap a (.dT kvs) from I.hok a _ ea)
   exact PySem.W.kia_one PySem.W.kitx_dict I.kIn ⟨o,h1,h2.1⟩ e (fun z=>nomatch z) h
 | @ins a C dx fs ea cl ha hn htk hm =>
   cases (show u=Value.ref a from rx)
   obtain ⟨mA,O,_⟩:=zfp I.hok ea;obtain ⟨od,J,_⟩:=O.look;exact PySem.W.kia_one (PySem.W.kitx_own (cl.get _) cl.hd ha hn htk hm) I.kIn J e (fun z=>nomatch z) h
end
end L2
namespace L2
open PySem PySem.Spec PyProof.Rows
structure Room (k:Nat) (A:Around):Prop where
 hd:A.handled=none
 dp:A.depth+3 * k+5 < recursionLimit
 un:A.units+16 * k+200 < cLine
theorem Room.mono {j k:Nat} {A:Around} (r:Room k A) (h:j≤k):Room j A:=⟨r.hd,by have:=r.dp;omega,by have:=r.un;omega⟩
theorem Room.deeper {k:Nat} {A:Around} (r:Room (k+1) A) (env:Env):Room k (A.deeper env) :=
 ⟨r.hd,by have:=r.dp;show A.depth+1+3 * k+5 < _;omega,by have:=r.un;show A.units+3+16 * k+200 < _;omega⟩
theorem zhG {A:Around} {C:Addr} {us:List Value} {kw:List (Str×Value)}:(A.under (.builtin "type.__call__" ⟨.ref C::us,kw⟩)).depth=A.depth+1:=by
 first | rfl | simp [Around.under,Code.weight,Code.isCreation,Code.isGuard,Code.isCaller,Code.frames,Code.isFrame,guardIds]
theorem zhH {A:Around} {C:Addr} {us:List Value} {kw:List (Str×Value)}:(A.under (.builtin "type.__call__" ⟨.ref C::us,kw⟩)).units=A.units+1:=by
 first | rfl | simp [Around.under,Code.cUnits,Code.frames,Code.isFrame]
theorem Room.make {k:Nat} {A:Around} (r:Room (k+1) A) (C:Addr) (us:List Value) (kw:List (Str×Value)):Room k (A.under (.builtin "type.__call__" ⟨.ref C::us,kw⟩)) :=
 ⟨r.hd,by have:=r.dp;rw [zhG];omega,by have:=r.un;rw [zhH];omega⟩
theorem Room.depth {k:Nat} {A:Around} (r:Room k A):A.depth < recursionLimit:=by have:=r.dp;omega
theorem Room.units {k:Nat} {A:Around} (r:Room k A):A.units+64 < cLine:=by have:=r.un;omega
theorem Room.units0 {k:Nat} {A:Around} (r:Room k A):A.units < cLine:=by have:=r.un;omega
def tNil:TA:=fun _ H Q=>Q [] H
def zgA (ta:TE) (tr:TA):TA:=fun σ H Q=>ta σ H fun x H1=>tr σ H1 fun xs H2=>Q (x::xs) H2
section
variable {X:Cx} {e:Expr} {es:List Expr} {te:TE} {t:TA} {pos:Pos}
theorem pa_nil:PA X [] tNil:=fun _ _ _ _ H Q I h=>Calls.spliced_nil ⟨[],H,I,.nil,h⟩
theorem zaa (ha:PE X e te) (hr:PA X es t) (hs:starEach (e::es) X.env=(false,eval e X.env)::starEach es X.env:=by rfl):PA X (e::es) (zgA te t):=by
 intro pos pins s σ H Q I h;rw [hs];show wpAny _ _ (spliced ((false,eval e X.env)::backTo pos (starEach es X.env))) _ _ s;refine Calls.spliced_cons (thn (ha pins s σ H _ I h) fun u s1 ⟨x,H1,I1,r1,q1⟩=>?_);exact thn (hr pos pins s1 σ H1 _ I1 q1) fun us s2 ⟨xs,H2,I2,r2,q2⟩=>⟨x::xs,H2,I2,.cons r1 r2,q2⟩
def tLst (t:TA):TE:=fun σ H Q=>t σ H fun xs H1=>xs.length≤sizeLine∧∀ p,H1 p=none→Q (.ref p) (upd H1 p (.lst xs))
theorem zaL (h:PA X es t):PE X (.List es pos) (tLst t):=by
 intro pins s σ H Q I hq;refine wpAny_List_spliced (thn (h pos pins s σ H _ I hq) fun us s1 ⟨xs,H1,I1,r,z,q⟩=>⟨by rw [← r.length];exact z,?_⟩);have hf:H1 s1.heap.objs.size=none:=I1.hok.fresh (Nat.le_refl _);refine ⟨.ref s1.heap.objs.size,upd H1 s1.heap.objs.size (.lst xs),I1.laid (t':=s1.toks) (fun b u e=>Heap.get?_push_of_some _ e) (Nat.le_refl _) ?_,rfl,q _ hf⟩;exact ⟨z,us,0,r,Heap.get?_push_size _ rfl⟩
end
abbrev Sp:=List V→Hp→VK→XK→Prop
abbrev CXT:=List Env→Hp→Shared→XK→Value→Shared→Prop
structure Env0 (P:Program) (w:World) (K:PySem.W.Frag) (mg:Str→Option Value) (base:Heap) (A:Around) (outer:List Env) (s:Shared) (H:Hp):Prop where
 frames:A.frames=some outer
 mod:Mod K mg base
 bs:∀ b o,base.get? b=some o→s.heap.get? b=some o∧H b=none
 bsz:base.objs.size≤s.heap.objs.size
 funs:s.heap.FunFrames base outer
 frf:∀ b∈frs outer,H b=none
 hok:HOk P w H s.heap
 bare:AllBare s.gens
def CE (outer:List Env) (P:Program) (w:World) (H:Hp) (s:Shared) (Q:VK) (u:Value) (s':Shared):Prop :=
 ∃ v H',s'.os=s.os∧AllBare s'.gens∧Un (frs outer) [] H H' s.heap s'.heap∧HOk P w H' s'.heap∧RelV v u∧Q v H'
def CR (CX:CXT) (outer:List Env) (P:Program) (w:World) (H:Hp) (s:Shared) (Q:VK) (E:XK) (r:Result) (s':Shared):Prop :=
 match r with
 | .ok (.ret u)=>CE outer P w H s Q u s'
 | .ok _=>False
 | .error e=>CX outer H s E e s'
structure FnOk (P:Program) (w:World) (K:PySem.W.Frag) (mg:Str→Option Value) (base:Heap) (CX:CXT) (k:Nat) (f:Addr) (fd:FuncData) (ps:List Str) (sp:Sp):Prop where
 len:∀ vs H Q E,sp vs H Q E→vs.length=ps.length
 run:∀ (A:Around) (outer:List Env) (s:Shared) (H:Hp) (args:Args) (us:List Value) (vs:List V) (Q:VK) (E:XK),Room k A→Env0 P w K mg base A outer s H→BindsTo s fd args (ps.zip us)→Vals vs us→sp vs H Q E →
  codeAny (model P w) A (.call (.ref f) args) (CR CX outer P w H s Q E) s
theorem Env0.make {P:Program} {w:World} {K:PySem.W.Frag} {mg:Str→Option Value} {base:Heap} {A:Around} {outer:List Env} {s:Shared} {H:Hp} (e:Env0 P w K mg base A outer s H) (C:Addr) (us:List Value) (kw:List (Str×Value)) :
  Env0 P w K mg base (A.under (.builtin "type.__call__" ⟨.ref C::us,kw⟩)) outer s H:=⟨by first | exact e.frames | (simpa [Around.under,Code.envs,Code.isFrame,pushEnvs] using e.frames),e.mod,e.bs,e.bsz,e.funs,e.frf,e.hok,e.bare⟩
section
variable {X:Cx} {pins:List (Addr×Obj)} {σ:St} {H:Hp} {s s':Shared}
theorem Inv.env0 (I:Inv X pins σ H s):Env0 X.prog X.w X.K X.mg X.base X.A X.stack s H :=
 ⟨I.ok.frames,I.ok.mod,I.bs,Nat.le_trans I.ok.bsz I.sz,I.stack,I.stkFree,I.hok,I.bare⟩
theorem Inv.after {Q:VK} {u:Value} (I:Inv X pins σ H s) (h:CE X.stack X.prog X.w H s Q u s'):EP X pins σ Q u s':=by
 obtain ⟨v,H',os,bare,un,hok,r,q⟩:=h;obtain ⟨hh,g,d,t,os'⟩:=s';obtain rfl:os'=s.os:=os;exact ⟨v,H',I.call (h':=hh) (g':=g) (d':=d) (t':=t) (ch:=[]) un hok bare (fun b z=>absurd z (by simp)),r,q⟩
end
def zj1 (sp:Sp) (dvs:List V) (E:XK) (t:TA):TE:=fun σ H Q=>t σ H fun vs H1=>sp (vs++dvs) H1 Q E
def zlm (C:Addr) (m:Str) (sp:Sp) (dvs:List V) (E:XK) (ta:TE) (t:TA):TE:=fun σ H Q=>ta σ H fun x H1=>∃ a dx fs,x=.ref a∧H1 a=some (.ins C dx fs)∧fs.lookup m=none ∧
 t σ H1 fun vs H2=>sp (x::(vs++dvs)) H2 Q E
def zln (C:Addr) (sp:Sp) (dvs:List V) (E:XK) (t:TA):TE:=fun σ H Q=>t σ H fun vs H1=>∀ x dx,H1 x=none→H1 dx=none→dx≠x →
 sp (.ref x::(vs++dvs)) (upd (upd H1 dx (.own x)) x (.ins C dx [])) (fun v H2=>v=.non∧Q (.ref x) H2) E
def Binds (K:PySem.W.Frag) (fd:FuncData) (ps:List Str) (ds:List Value):Prop :=
 ∀ (s:Shared) (us:List Value),K.In s.heap→(us++ds).length=ps.length→BindsTo s fd ⟨us,[]⟩ (ps.zip (us++ds))
theorem Binds.all {K:PySem.W.Frag} {fd:FuncData} {ps:List Str} (h:∀ us:List Value,us.length=ps.length→bindArgs fd ⟨us,[]⟩=pure (ps.zip us)):Binds K fd ps []:=fun s us _ hl=>by
 rw [List.append_nil] at hl ⊢;exact .of_eq (h us hl)
def zdk (CX:CXT) (X:Cx) (E:XK):Prop:=∀ (pins:List (Addr×Obj)) (σ:St) (H:Hp) (s:Shared) (e:Value) (s':Shared),Inv X pins σ H s→CX X.stack H s E e s'→X.xe e s'
section
variable {X:Cx} {CX:CXT} {k:Nat} {f C:Addr} {fd:FuncData} {ps:List Str} {sp:Sp} {dvs:List V} {ds:List Value} {E:XK} {x m:Str} {p pos apos:Pos} {e o:Expr} {es:List Expr} {ta:TE} {t:TA}
theorem ziA {pins:List (Addr×Obj)} {σ:St} {H:Hp} {s:Shared} {Q:VK} {us:List Value} {vs:List V} (F:FnOk X.prog X.w X.K X.mg X.base CX k f fd ps sp) (hr:Room k X.A) (hb:Binds X.K fd ps ds) (hd:Vals dvs ds) (hx:zdk CX X E)
  (I:Inv X pins σ H s) (r:Vals vs us) (h:sp (vs++dvs) H Q E):wpAny (model X.prog X.w) X.A (call (.ref f) us) (EP X pins σ Q) X.xe s:=by
 have r2:Vals (vs++dvs) (us++ds):=r.append hd;have hl:(us++ds).length=ps.length:=by rw [← r2.length];exact F.len _ _ _ _ h
 refine wpAny_call (codeAny_mono (F.run X.A X.stack s H ⟨us,[]⟩ (us++ds) (vs++dvs) Q E hr I.env0 (hb s us I.kIn hl) r2 h) fun r s' hq=>?_)
 cases r with
 | error e=>exact hx pins σ H s e s' I hq
 | ok fl =>
   cases fl with
   | ret u=>exact I.after hq
   | next=>exact False.elim hq
   | brk=>exact False.elim hq
   | cont=>exact False.elim hq
theorem zaq (F:FnOk X.prog X.w X.K X.mg X.base CX k f fd ps sp) (hr:Room k X.A) (hg:Gl X x) (hm:X.mg x=some (.ref f)) (hk:PySem.W.keepIn X.K (.ref f)=true) (hb:Binds X.K fd ps ds) (hd:Vals dvs ds) (hx:zdk CX X E)
  (ha:PA X (e::es) t) (hdb:(x == ("__debug__" : Str))=false:=by decide) (he:starEach (e::es) X.env=(false,eval e X.env)::starEach es X.env:=by rfl) (hpl:(backTo pos (starEach es X.env)).any (·.1)=false:=by rfl) :
  PE X (.Call (.Name x p) (e::es) [] pos) (zj1 sp dvs E t):=by
 intro pins s σ H Q I h;refine wpAny_Call_Name_kw (zda I hg hm ?_ hdb);refine PySem.W.callWith_K (h₀:=X.base) I.ok.mod.kin hk (thn (ha pos pins s σ H _ I h) fun us s1 ⟨vs,H1,I1,r,q⟩=>⟨I1.kIn,?_⟩) he hpl;exact ziA F hr hb hd hx I1 r q
theorem zbV {pl:Sem Bool} (he:PE X o ta) (c:Cls X.K C) (hm:Meth X.K C m f) (F:FnOk X.prog X.w X.K X.mg X.base CX k f fd ps sp) (hr:Room k X.A) (hb:Binds X.K fd ps ds) (hd:Vals dvs ds) (hx:zdk CX X E) (ha:PA X (e::es) t)
  (hst:starEach (e::es) X.env=(false,eval e X.env)::starEach es X.env:=by rfl) (hpl:(backTo pos (starEach es X.env)).any (·.1)=false:=by rfl)
  (ht:eval (.Call (.Attribute o m apos) (e::es) [] pos) X.env=(do
   let ov ← eval o X.env
   standAt apos.atName
   let (f,first) ← holding [ov] (getMethod ov m pl)
   callWith pos f first (backTo pos (starEach (e::es) X.env)) (backToKw pos (keywordEach [] X.env))):=by rfl) :
  PE X (.Call (.Attribute o m apos) (e::es) [] pos) (zlm C m sp dvs E ta t):=by
 intro pins s σ H Q I h;refine PySem.W.methodCall_KW (pl:=pl) (thn (he pins s σ H _ I h) fun u s1 ⟨x,H1,I1,rx,a,dx,fs,ex,ea,l,q⟩=>?_) ht;subst ex;obtain rfl:u=Value.ref a:=rx;refine zfa I1 ea c hm l ?_;refine PySem.W.callWith_K (first:=[.ref a]) (h₀:=X.base) I.ok.mod.kin hm.kp (thn (ha pos pins s1 σ H1 _ I1 q) fun us s2 ⟨vs,H2,I2,r,q2⟩=>⟨I2.kIn,?_⟩) hst hpl;exact ziA (us:=.ref a::us) (vs:=.ref a::vs) F hr hb hd hx I2 (.cons rfl r) q2
theorem zbG {pl:Sem Bool} (he:PE X o ta) (c:Cls X.K C) (hm:Meth X.K C m f) (F:FnOk X.prog X.w X.K X.mg X.base CX k f fd ps sp) (hr:Room k X.A) (hb:Binds X.K fd ps ds) (hd:Vals dvs ds) (hx:zdk CX X E)
  (ht:eval (.Call (.Attribute o m apos) [] [] pos) X.env=(do
   let ov ← eval o X.env
   standAt apos.atName
   let (f,first) ← holding [ov] (getMethod ov m pl)
   callWith pos f first (backTo pos (starEach [] X.env)) (backToKw pos (keywordEach [] X.env))):=by rfl) :
  PE X (.Call (.Attribute o m apos) [] [] pos) (zlm C m sp dvs E ta tNil):=by
 intro pins s σ H Q I h;refine PySem.W.methodCall_KW (pl:=pl) (thn (he pins s σ H _ I h) fun u s1 ⟨x,H1,I1,rx,a,dx,fs,ex,ea,l,q⟩=>?_) ht;subst ex;obtain rfl:u=Value.ref a:=rx;refine zfa I1 ea c hm l ?_;exact PySem.W.callWith_K0 (first:=[.ref a]) I1.kIn hm.kp (ziA (us:=[.ref a]) (vs:=[.ref a]) F hr hb hd hx I1 (.cons rfl .nil) q)
structure Mk (K:PySem.W.Frag) (C f:Addr):Prop where
 makes:PySem.W.makesIn K C=true
 init:PySem.W.findIn K (.ref C) "__init__" = some (some (.ref f))
 fn:PySem.W.isFn K (.ref f)=true
 kp:PySem.W.keepIn K (.ref C)=true
theorem zhe {pins:List (Addr×Obj)} {σ:St} {H:Hp} {s:Shared} {Q:VK} {us:List Value} {vs:List V} (M:Mk X.K C f) (F:FnOk X.prog X.w X.K X.mg X.base CX k f fd ps sp) (hr:Room (k+1) X.A) (hb:Binds X.K fd ps ds) (hd:Vals dvs ds)
  (hx:zdk CX X E) (I:Inv X pins σ H s) (r:Vals vs us)
  (h:∀ x dx,H x=none→H dx=none→dx≠x→sp (.ref x::(vs++dvs)) (upd (upd H dx (.own x)) x (.ins C dx [])) (fun v H2=>v=.non∧Q (.ref x) H2) E) :
  wpAny (model X.prog X.w) X.A (call (.ref C) us) (EP X pins σ Q) X.xe s:=by
 have hq:=h (s.heap.objs.size+1) s.heap.objs.size (I.hok.fresh (Nat.le_succ _)) (I.hok.fresh (Nat.le_refl _)) (Nat.ne_of_lt (Nat.lt_succ_self _));have I2:=Inv.made (C:=C) I;have r2:Vals (V.ref (s.heap.objs.size+1)::(vs++dvs)) (Value.ref (s.heap.objs.size+1)::(us++ds)):=.cons rfl (r.append hd);have hl:(Value.ref (s.heap.objs.size+1)::us++ds).length=ps.length:=by
  have e:=r2.length;rw [F.len _ _ _ _ hq] at e;exact e.symm
 refine wpAny_call (zj0 (f:=f) I.kIn M.makes M.init (beq_iff_eq.mp M.fn) (codeAny_mono (F.run _ X.stack _ _ ⟨Value.ref (s.heap.objs.size+1)::us,[]⟩ (Value.ref (s.heap.objs.size+1)::(us++ds)) _ _ E (hr.make C us [])
  (I2.env0.make C us []) (hb _ (Value.ref (s.heap.objs.size+1)::us) I2.kIn hl) r2 hq) fun r s' hq'=>?_))
 cases r with
 | error e=>exact hx pins σ _ _ e s' I2 hq'
 | ok fl =>
   cases fl with
   | ret u =>
     obtain ⟨v,H',I3,rv,ev,q3⟩:=I2.after hq';subst ev;exact ⟨rv,⟨V.ref (s.heap.objs.size+1),H',I3,rfl,q3⟩⟩
   | next=>exact False.elim hq'
   | brk=>exact False.elim hq'
   | cont=>exact False.elim hq'
theorem zlo (M:Mk X.K C f) (F:FnOk X.prog X.w X.K X.mg X.base CX k f fd ps sp) (hr:Room (k+1) X.A) (hg:Gl X x) (hm:X.mg x=some (.ref C)) (hb:Binds X.K fd ps ds) (hd:Vals dvs ds) (hx:zdk CX X E)
  (ha:PA X (e::es) t) (hdb:(x == ("__debug__" : Str))=false:=by decide) (he:starEach (e::es) X.env=(false,eval e X.env)::starEach es X.env:=by rfl) (hpl:(backTo pos (starEach es X.env)).any (·.1)=false:=by rfl) :
  PE X (.Call (.Name x p) (e::es) [] pos) (zln C sp dvs E t):=by
 intro pins s σ H Q I h;refine wpAny_Call_Name_kw (zda I hg hm ?_ hdb);refine PySem.W.callWith_K (h₀:=X.base) I.ok.mod.kin M.kp (thn (ha pos pins s σ H _ I h) fun us s1 ⟨vs,H1,I1,r,q⟩=>⟨I1.kIn,?_⟩) he hpl;exact zhe M F hr hb hd hx I1 r q
theorem zj2 (M:Mk X.K C f) (F:FnOk X.prog X.w X.K X.mg X.base CX k f fd ps sp) (hr:Room (k+1) X.A) (hg:Gl X x) (hm:X.mg x=some (.ref C)) (hb:Binds X.K fd ps ds) (hd:Vals dvs ds) (hx:zdk CX X E)
  (hdb:(x == ("__debug__" : Str))=false:=by decide):PE X (.Call (.Name x p) [] [] pos) (zln C sp dvs E tNil):=by
 intro pins s σ H Q I h;refine wpAny_Call_Name_kw (zda I hg hm ?_ hdb);exact PySem.W.callWith_K0 I.kIn M.kp (zhe (us:=[]) M F hr hb hd hx I .nil h)
end
def PK (X:Cx) (kws:List Keyword) (t:TA):Prop :=
 ∀ (pos:Pos) (pins:List (Addr×Obj)) (s:Shared) (σ:St) (H:Hp) (Q:List V→Hp→Prop),Inv X pins σ H s→t σ H Q→wpAny (model X.prog X.w) X.A (evalAll ((backToKw pos (keywordEach kws X.env)).map (·.2))) (AP X pins σ Q) X.xe s
section
variable {X:Cx} {CX:CXT} {k:Nat} {f C:Addr} {fd:FuncData} {ps ks:List Str} {sp:Sp} {E:XK} {x m:Str} {p pos apos kpos:Pos} {e o:Expr} {es:List Expr} {kws:List Keyword} {te ta:TE} {t tk:TA} {nm:Option Str}
theorem pk_nil:PK X [] tNil:=fun _ _ _ _ H Q I h=>wpAny_evalAll_nil ⟨[],H,I,.nil,h⟩
theorem ziB (ha:PE X e te) (hr:PK X kws t):PK X (⟨nm,e,kpos⟩::kws) (zgA te t):=by
 intro pos pins s σ H Q I h;show wpAny _ _ (evalAll ((do let v ← eval e X.env;standAt pos;pure v)::(backToKw pos (keywordEach kws X.env)).map (·.2))) _ _ s;refine wpAny_evalAll_cons (wpAny_bind (thn (ha pins s σ H _ I h) fun u s1 ⟨x,H1,I1,r1,q1⟩=>wpAny_bind (wpAny_standAt (wpAny_pure ?_))));exact thn (hr pos pins s1 σ H1 _ I1 q1) fun us s2 ⟨xs,H2,I2,r2,q2⟩=>⟨x::xs,H2,I2,.cons r1 r2,q2⟩
variable {g:List Value→List Value→List Value} {gV:List V→List V→List V}
end
structure zam (N P:List Str) (sc:Scope):Prop where
 kind:sc.kind=.function
 co:sc.isCoroutine=false
 gen:sc.isGenerator=false
 nd:N.Nodup
 pre:N.take P.length=P
 par:∀ x∈P,sc.names.lookup x=some .local∨sc.names.lookup x=some .cell
 nofree:∀ y∈sc.names,y.2≠.free
theorem zfQ {kindOf:Str→Option NameKind} {x:Str}:∀ {binds:List (Str×Value)} {m:Str→Option Value},(∀ v,(x,v)∉binds)→bindL kindOf binds m x=m x
 | [],_,_=>rfl
 | (n,v)::r,m,h=>by
  unfold bindL;rw [zfQ fun w hw=>h w (List.mem_cons_of_mem _ hw)];split
  ·have:x≠n:=by rintro rfl;exact h v List.mem_cons_self
   simp [this]
  ·rfl
theorem zfR {kindOf:Str→Option NameKind} {x:Str}:∀ {binds:List (Str×Value)} {m:Str→Option Value},(∀ v,(x,v)∉binds)→bindC kindOf binds m x=m x
 | [],_,_=>rfl
 | (n,v)::r,m,h=>by
  unfold bindC;rw [zfR fun w hw=>h w (List.mem_cons_of_mem _ hw)];split
  ·rfl
  ·have:x≠n:=by rintro rfl;exact h v List.mem_cons_self
   simp [this]
theorem zfS {kindOf:Str→Option NameKind} {x:Str} {v:Value}:∀ {P:List Str} {vs:List Value} {i:Nat} {m:Str→Option Value},P.Nodup→P[i]? = some x→vs[i]? = some v→kindOf x=some .local →
  bindL kindOf (P.zip vs) m x=some v
 | [],_,_,_,_,h,_,_=>by simp at h
 | _::_,[],_,_,_,_,h,_=>by simp at h
 | p::P,w::vs,0,m,nd,h1,h2,hk=>by
   simp at h1 h2;subst h1;subst h2;show bindL kindOf ((p,w)::P.zip vs) m p=_;unfold bindL;rw [zfQ fun v hv=>(List.nodup_cons.mp nd).1 (List.of_mem_zip hv).1,if_pos hk];simp
 | p::P,w::vs,i+1,m,nd,h1,h2,hk=>by
   show bindL kindOf ((p,w)::P.zip vs) m x=_;unfold bindL;exact zfS (i:=i) (List.nodup_cons.mp nd).2 (by simpa using h1) (by simpa using h2) hk
theorem zfT {kindOf:Str→Option NameKind} {x:Str} {v:Value}:∀ {P:List Str} {vs:List Value} {i:Nat} {m:Str→Option Value},P.Nodup→P[i]? = some x→vs[i]? = some v→kindOf x≠some .local →
  bindC kindOf (P.zip vs) m x=some v
 | [],_,_,_,_,h,_,_=>by simp at h
 | _::_,[],_,_,_,_,h,_=>by simp at h
 | p::P,w::vs,0,m,nd,h1,h2,hk=>by
   simp at h1 h2;subst h1;subst h2;show bindC kindOf ((p,w)::P.zip vs) m p=_;unfold bindC;rw [zfR fun v hv=>(List.nodup_cons.mp nd).1 (List.of_mem_zip hv).1,if_neg hk];simp
 | p::P,w::vs,i+1,m,nd,h1,h2,hk=>by
   show bindC kindOf ((p,w)::P.zip vs) m x=_;unfold bindC;exact zfT (i:=i) (List.nodup_cons.mp nd).2 (by simpa using h1) (by simpa using h2) hk
def start (N:List Str) (vs:List V):St:=vs.map some++List.replicate (N.length-vs.length) none
def cxOf (CX:CXT) (P:Program) (w:World) (K:PySem.W.Frag) (mg:Str→Option Value) (base:Heap) (N:List Str) (qual:Str) (scope:Scope) (f:Addr) (cd:Value) (A:Around) (outer:List Env) (s:Shared) (H:Hp) (E:XK):Cx where
 prog:=P
 w:=w
 K:=K
 mg:=mg
 base:=base
 A:=A.deeper (envOfC qual scope s.heap.objs.size f cd)
 N:=N
 s₀:=s
 H₀:=H
 env:=envOfC qual scope s.heap.objs.size f cd
 outer:=outer
 stack:=envOfC qual scope s.heap.objs.size f cd::outer
 ex:=[]
 calm:=true
 fn:=fun _=>true
 pn:=[]
 xe:=fun e s'=>wpAny (model P w) (A.deeper (envOfC qual scope s.heap.objs.size f cd)) (leaving (envOfC qual scope s.heap.objs.size f cd) e) (fun _ s''=>CX outer H s E e s'') (fun e' s''=>CX outer H s E e' s'') s'
theorem zhf {sc:Scope} {n:Nat} {x:Str} (h:sc.names.lookup x=some .cell):∃ c,(cellsFrom n sc.names []).lookup x=some c:=by
 have q:=PySem.W.cellsFrom_some sc.names n [] (.inl h);exact Option.isSome_iff_exists.mp q
theorem ziC {CX:CXT} {P:Program} {w:World} {K:PySem.W.Frag} {mg:Str→Option Value} {base:Heap} {N ps:List Str} {qual:Str} {scope:Scope} {f:Addr} {cd:Value} {A:Around} {outer:List Env} {s s1:Shared} {H:Hp} {E:XK} {us:List Value} {vs:List V}
  (S:zam N ps scope) (hd:A.handled=none) (e0:Env0 P w K mg base A outer s H) (hl:vs.length=ps.length) (r:Vals vs us)
  (x:InCallC s s.heap.objs.size (bindL (envOfC qual scope s.heap.objs.size f cd).kindOf (ps.zip us) fun _=>none) (cellsFrom (s.heap.objs.size+1) scope.names []) (bindC (envOfC qual scope s.heap.objs.size f cd).kindOf (ps.zip us) fun _=>none) s1) :
  Inv (cxOf CX P w K mg base N qual scope f cd A outer s H E) [] (start N vs) H s1:=by
 have hpl:ps.length≤N.length:=by have:=congrArg List.length S.pre;rw [List.length_take] at this;omega
 obtain ⟨h1,tk,rfl,hk⟩:=x.done;have noA:∀ b:Addr,b∉(cxOf CX P w K mg base N qual scope f cd A outer s H E).ex:=fun b z=>absurd (show b∈([]:List Addr) from z) (by simp);refine ⟨⟨e0.mod,S.kind,rfl,rfl,Nat.le_refl _,fun y z c h1 h2=>?_,fun y hy=>?_,fun y c _ h=>?_,fun _=>hd,Around.frames_deeper e0.frames,.inr ⟨rfl,rfl⟩,fun b z=>absurd z (noA b),e0.bs,e0.bsz,fun b _ _=>noA b,fun b z=>absurd z (noA b),e0.funs,e0.frf⟩,
  rfl,e0.bare,Un.kept hk,⟨_,x.toInCall.ns,fun i y v h1 h2 h3=>?_⟩,fun y c h=>⟨_,x.cell y c h⟩,e0.hok.fresh (Nat.le_refl _),fun y c h=>?_,fun p hp=>absurd (show p∈([]:List (Addr×Obj)) from hp) (by simp),e0.hok.kept hk,?_⟩
 ·exact name_of_addr x.apart (PySem.mem_of_lookup h1) (PySem.mem_of_lookup h2)
 ·have hy:scope.names.lookup y=some .cell∨scope.names.lookup y=some .free:=hy;rcases hy with hy | hy
  ·exact zhf hy
  ·exact absurd rfl (S.nofree _ (PySem.mem_of_lookup hy))
 ·exact Nat.le_of_lt (x.above y c (PySem.mem_of_lookup h))
 ·have hi:i < vs.length:=by
   unfold start at h2
   by_cases hi:i < vs.length
   ·exact hi
   ·rw [List.getElem?_append_right (by simpa using hi)] at h2;rw [List.getElem?_replicate] at h2;split at h2 <;> cases h2
  have ha:vs[i]? = some v:=by
   unfold start at h2;rw [List.getElem?_append_left (by simpa using hi),List.getElem?_map] at h2
   cases e:vs[i]? with
   | none=>rw [e] at h2;cases h2
   | some a=>rw [e] at h2;cases h2;rfl
  obtain ⟨u,hu,rv⟩:=r.get ha;have hp:ps[i]? = some y:=by
   rw [← S.pre,List.getElem?_take_of_lt (by omega)];exact h1
  have ndP:ps.Nodup:=by rw [← S.pre];exact S.nd.sublist (List.take_sublist _ _)
  refine ⟨u,rv,?_⟩;rcases S.par y (List.mem_of_getElem? hp) with k | k
  ·exact .inl ⟨k,zfS ndP hp hu k⟩
  ·obtain ⟨c,e⟩:=zhf (n:=s.heap.objs.size+1) k;refine .inr ⟨.inl k,c,e,?_⟩;have q:=x.cell y c e;rw [zfT ndP hp hu (by show scope.names.lookup y≠_;rw [k];decide)] at q;exact q
 ·exact e0.hok.fresh (Nat.le_of_lt (x.above y c (PySem.mem_of_lookup h)))
 ·unfold start;show _=N.length;rw [List.length_append,List.length_map,List.length_replicate];omega
theorem zmv {CX:CXT} {P:Program} {w:World} {K:PySem.W.Frag} {mg:Str→Option Value} {base:Heap} {k:Nat} {f:Addr} {name qual:Str} {params:Arguments} {body:List Stmt} {scope:Scope} {dV kV doc pm cdv ct oc:Value} {an od:Option Addr}
  {osl:Array (Option Value)} {N ps:List Str} {sp:Sp} (lk:K.lookup f=some ⟨oc,od,.func (PySem.W.fnOf name qual params body scope dV kV doc pm an cdv ct),osl⟩) (hcd:PySem.W.codeIn K cdv qual=true) (S:zam N ps scope)
  (len:∀ vs H Q E,sp vs H Q E→vs.length=ps.length)
  (hbody:∀ (A:Around) (outer:List Env) (s:Shared) (H:Hp) (vs:List V) (Q:VK) (E:XK),Room k (A.deeper (envOfC qual scope s.heap.objs.size f cdv))→sp vs H Q E →
   ∃ t,PSs (cxOf CX P w K mg base N qual scope f cdv A outer s H E) body t∧t { nx:=fun _ H'=>Q .non H',rt:=Q } (start N vs) H) :
  FnOk P w K mg base CX (k+1) f (PySem.W.fnOf name qual params body scope dV kV doc pm an cdv ct) ps sp:=by
 refine ⟨len,fun A outer s H args us vs Q E hr e0 hb r hsp=>?_⟩;have hl:=len _ _ _ _ hsp;have KX:K.In s.heap:=e0.mod.kin.keeps fun b o e=>(e0.bs b o e).1;have lim:s.heap.NoLimit:=e0.mod.nolimit.keeps fun b o e=>(e0.bs b o e).1;have hkind:∀ y∈ps.zip us,scope.names.lookup y.1=some .local∨(scope.names.lookup y.1=some .cell∧((cellsFrom (s.heap.objs.size+1) scope.names []).lookup y.1).isSome=true):=fun ⟨n,v⟩ hy=>by
  rcases S.par n (List.of_mem_zip hy).1 with q | q
  ·exact .inl q
  ·exact .inr ⟨q,PySem.W.cellsFrom_some _ _ _ (.inl q)⟩
 refine codeAny_call_function hr.depth (KX _ _ lk) rfl S.co S.gen rfl (PySem.W.codeRec_of KX hcd) (hb _ _ _ _ ?_);refine wpAny_newFunctionEnv_cells S.kind hkind fun env he s1 x=>?_;subst he;refine ⟨lim.keeps x.toInCall.keep,codeAny_func ?_⟩;obtain ⟨t,ht,hq⟩:=hbody A outer s H vs Q E (hr.deeper _) hsp;have I:Inv (cxOf CX P w K mg base N qual scope f cdv A outer s H E) [] (start N vs) H s1:=ziC S hr.hd e0 hl r x;refine wpAny_mono (ht [] s1 (start N vs) H _ I hq) (fun fl s' hs=>?_) fun e s' hs=>hs;have fin:∀ {σ':St} {H':Hp} {v:V} {u:Value},Inv (cxOf CX P w K mg base N qual scope f cdv A outer s H E) [] σ' H' s'→RelV v u→Q v H'→CE outer P w H s Q u s' :=
  fun {σ' H' v u} J rv q=>⟨v,H',J.os,J.bare,J.base,J.hok,rv,q⟩
 cases fl with
 | ret u =>
   obtain ⟨v,σ',H',J,rv,q⟩:=hs;exact fin J rv q
 | next =>
   obtain ⟨σ',H',J,q⟩:=hs;exact fin (v:=V.non) (u:=Value.none) J rfl q
 | brk =>
   obtain ⟨_,_,_,q⟩:=hs;exact False.elim q
 | cont =>
   obtain ⟨_,_,_,q⟩:=hs;exact False.elim q
end L2
namespace L2
open PySem PySem.Spec PyProof.Rows
section
variable {X:Cx} {x:Str} {p pos:Pos} {e:Expr} {es:List Expr} {t:TA} {id T:String} {r:List V→Hp→VK→Prop}
def tCB (r:List V→Hp→VK→Prop) (t:TA):TE:=fun σ H Q=>t σ H fun vs H1=>r vs H1 Q
theorem zai (hc:zcG X (.builtin id) r) (hg:Gl X x) (hm:X.mg x=none) (hv:bootBuiltins x=some (.builtin id)) (ha:PA X (e::es) t) (hn:x≠"__name__":=by decide) (hdb:(x == ("__debug__" : Str))=false:=by decide)
  (he:starEach (e::es) X.env=(false,eval e X.env)::starEach es X.env:=by rfl) (hpl:(backTo pos (starEach es X.env)).any (·.1)=false:=by rfl):PE X (.Call (.Name x p) (e::es) [] pos) (tCB r t):=by
 intro pins s σ H Q I h;refine wpAny_Call_Name_kw (zdi I hg hm hv ?_ hn hdb);exact PyProof.Rows.callWith_builtin1 (thn (ha pos pins s σ H _ I h) fun us s1 ⟨vs,H1,I1,r1,q1⟩=>hc pins s1 σ H1 vs us Q I1 r1 q1) he hpl
theorem zbx (hc:zcG X (.type T) r) (hg:Gl X x) (hm:X.mg x=none) (hv:bootBuiltins x=some (.type T)) (ha:PA X (e::es) t) (hn:x≠"__name__":=by decide) (hdb:(x == ("__debug__" : Str))=false:=by decide)
  (he:starEach (e::es) X.env=(false,eval e X.env)::starEach es X.env:=by rfl) (hpl:(backTo pos (starEach es X.env)).any (·.1)=false:=by rfl):PE X (.Call (.Name x p) (e::es) [] pos) (tCB r t):=by
 intro pins s σ H Q I h;refine wpAny_Call_Name_kw (zdi I hg hm hv ?_ hn hdb);exact PyProof.Rows.callWith_type1 (thn (ha pos pins s σ H _ I h) fun us s1 ⟨vs,H1,I1,r1,q1⟩=>hc pins s1 σ H1 vs us Q I1 r1 q1) he hpl
end
end L2
namespace HT
open PySem PyProof.Rows
section
open PySem.SeqAt
open PySem.AutoSeq1 (wpAny_loadPart')
open PySem.MeetsSeq PySem.MeetsSeq2 PySem.MeetsSeq3
end
section
variable {prog:Program} {w:World} {A:Around} {E:Value→Shared→Prop} {s:Shared}
def sIx (n d:Nat):Option Int→Nat
 | none=>d
 | some v=>if v < 0 then (v+(n:Int)).toNat else min v.toNat n
theorem sIx_none (n d:Nat):sIx n d none=d:=rfl
theorem sIx_nat (n d k:Nat):sIx n d (some (k:Int))=min k n:=by
 show (if (k:Int) < 0 then ((k:Int)+(n:Int)).toNat else min (k:Int).toNat n)=min k n;rw [if_neg (by omega),Int.toNat_natCast]
end
end HT
namespace L2
open PySem PySem.Spec PyProof.Rows
abbrev TO:=St→Hp→(Option Int→Hp→Prop)→Prop
def PO (X:Cx) (e:Option Expr) (t:TO):Prop :=
 ∀ (pins:List (Addr×Obj)) (s:Shared) (σ:St) (H:Hp) (Q:Option Int→Hp→Prop),Inv X pins σ H s→t σ H Q →
  wpAny (model X.prog X.w) X.A (evalPart e X.env) (fun u s'=>∃ o H',Inv X pins σ H' s'∧IsPart u o∧Q o H') X.xe s
def tNoPart:TO:=fun _ H Q=>Q none H
def zmw (t:TE):TO:=fun σ H Q=>t σ H fun x H1=>∃ i,x=.int i∧Q (some i) H1
theorem intsAre_of {ns:List Int}:∀ {us:List Value},Vals (ns.map V.int) us→IntsAre us ns:=by
 induction ns with
 | nil=>intro us r;rw [List.map_nil] at r;cases r;exact .nil
 | cons n ns ih =>
   intro us r;rw [List.map_cons] at r
   cases r with
   | cons r1 r2 =>
     obtain ⟨t,e⟩:=r1;subst e;exact .cons n t (ih r2)
section
variable {X:Cx} {e:Expr} {te:TE} {lo hi:Option Expr} {tl th:TO} {pos p2:Pos}
theorem po_none:PO X none tNoPart:=by
 intro pins s σ H Q I h;rw [evalPart_none];exact wpAny_pure ⟨none,H,I,.none,h⟩
theorem zdH (h:PE X e te):PO X (some e) (zmw te):=by
 intro pins s σ H Q I hw;rw [evalPart_some];refine thn (h pins s σ H _ I hw) fun u s1 ⟨x,H1,I1,r1,q1⟩=>?_;obtain ⟨i,rfl,q⟩:=q1;obtain ⟨t,rfl⟩:=r1;exact ⟨some i,H1,I1,.int i t,q⟩
def SlR (X:Cx) (r:V→Option Int→Option Int→Hp→VK→Prop):Prop :=
 ∀ (pins:List (Addr×Obj)) (s:Shared) (σ:St) (H:Hp) (x:V) (v vl vu:Value) (lo hi:Option Int) (sl:Addr) (Q:VK),Inv X pins σ H s→RelV x v→s.heap.IsSliceOf sl vl vu .none→IsPart vl lo→IsPart vu hi→r x lo hi H Q →
  ∃ T id,typeLookup (.type T) "__getitem__" = pure (some (.builtin id))∧s.TypeIs v T∧wpAny (model X.prog X.w) X.A (getItem v (.ref sl)) (EP X pins σ Q) X.xe s
def tSl (r:V→Option Int→Option Int→Hp→VK→Prop) (te:TE) (tl th:TO):TE:=fun σ H Q=>te σ H fun x H1=>tl σ H1 fun l H2=>th σ H2 fun u H3=>r x l u H3 Q
theorem zcU {r:V→Option Int→Option Int→Hp→VK→Prop} (hr:SlR X r) (he:PE X e te) (hl:PO X lo tl) (hu:PO X hi th):PE X (.Subscript e (.Slice lo hi none p2) pos) (tSl r te tl th):=by
 intro pins s σ H Q I h;refine Subscript_ (thn (he pins s σ H _ I h) fun v s1 ⟨x,H1,I1,r1,q1⟩=>?_);refine wpAny_Slice (thn (hl pins s1 σ H1 _ I1 q1) fun vl s2 ⟨l,H2,I2,pl,q2⟩=>thn (hu pins s2 σ H2 _ I2 q2) fun vu s3 ⟨u,H3,I3,pu,q3⟩=>?_);rw [evalPart_none];refine wpAny_pure ?_;have I4:Inv X pins σ H3 { s3 with heap:=s3.heap.push { cls:=.type "slice",data:=.fields #[vl,vu,.none] } }:=I3.kept (t':=s3.toks) fun b ob q=>Heap.get?_push_of_some _ q;obtain ⟨T,id,hT,ht,hg⟩:=hr pins { s3 with heap:=s3.heap.push { cls:=.type "slice",data:=.fields #[vl,vu,.none] } } σ H3 x v vl vu l u s3.heap.objs.size Q I4 r1 (Heap.IsSliceOf.new ..) pl pu q3;show wpAny (model X.prog X.w) X.A (subscriptTail e (.Slice lo hi none p2) v (.ref s3.heap.objs.size)) (EP X pins σ Q) X.xe { s3 with heap:=s3.heap.push { cls:=.type "slice",data:=.fields #[vl,vu,.none] } };exact tail_any (ops:=[.ref s3.heap.objs.size,v]) ht hT hg (by with_unfolding_all rfl)
def cutV (xs:List V) (lo hi:Option Int):List V:=(xs.drop (HT.sIx xs.length 0 lo)).take (HT.sIx xs.length xs.length hi-HT.sIx xs.length 0 lo)
theorem zgB (xs:List V) (lo hi:Option Int):(cutV xs lo hi).length≤xs.length:=by
 unfold cutV;rw [List.length_take,List.length_drop];omega
end
end L2
namespace L2
open PySem PySem.Spec PyProof.Rows
def ixN (n:Nat) (i:Int):Option Nat:=if 0≤i then (if i < n then some i.toNat else none) else if -(n:Int)≤i then some (i+n).toNat else none
def atI {α:Type} (xs:List α) (i:Int):Option α:=(ixN xs.length i).bind fun j=>xs[j]?
theorem ziD {n:Nat} {i:Int} {j:Nat} (h:ixN n i=some j):seqIndex? i n=some j∧j < n∧-(n:Int)≤i∧i < n:=by
 unfold ixN at h
 by_cases h0:0≤i
 ·rw [if_pos h0] at h
  by_cases h1:i < n
  ·rw [if_pos h1] at h;have e:i.toNat=j:=Option.some.inj h;exact ⟨by rw [seqIndex_of h0 h1,e],by omega,by omega,h1⟩
  ·rw [if_neg h1] at h;cases h
 ·rw [if_neg h0] at h
  by_cases h1 : -(n:Int)≤i
  ·rw [if_pos h1] at h;have e:(i+n).toNat=j:=Option.some.inj h;exact ⟨by rw [seqIndex_neg (by omega) h1,e],by omega,h1,by omega⟩
  ·rw [if_neg h1] at h;cases h
theorem zlp {α:Type} {xs:List α} {i:Int} {v:α} (h:atI xs i=some v):∃ j,seqIndex? i xs.length=some j∧xs[j]? = some v∧j < xs.length∧-(xs.length:Int)≤i∧i < xs.length:=by
 unfold atI at h
 cases e:ixN xs.length i with
 | none=>rw [e] at h;cases h
 | some j =>
   rw [e] at h;obtain ⟨h1,h2,h3,h4⟩:=ziD e;exact ⟨j,h1,h,h2,h3,h4⟩
theorem ziE {α:Type} {xs:List α} {j:Nat} {v:α} (h:xs[j]? = some v):atI xs (j:Int)=some v:=by
 have hj:j < xs.length:=(List.getElem?_eq_some_iff.mp h).1;have e:ixN xs.length (j:Int)=some j:=by
  unfold ixN;rw [if_pos (by omega),if_pos (by omega)];simp
 unfold atI;rw [e];exact h
def zlq (b:Expr):Prop:=∀ o i,subscripted b false o i=operate [o,i] (getItem o i)
def IxR (X:Cx) (r:R2):Prop :=
 ∀ (value slice:Expr) (pins:List (Addr×Obj)) (s:Shared) (σ:St) (H:Hp) (x y:V) (v u:Value) (Q:VK),Inv X pins σ H s→RelV x v→RelV y u→r x y H Q →
  subscripted slice false v u=operate [v,u] (getItem v u)→wpAny (model X.prog X.w) X.A (subscriptTail value slice v u) (EP X pins σ Q) X.xe s
def MtR (X:Cx) (id:String) (r:V→List V→Hp→VK→Prop):Prop :=
 ∀ (pins:List (Addr×Obj)) (s:Shared) (σ:St) (H:Hp) (x:V) (xs:List V) (v:Value) (us:List Value) (Q:VK),Inv X pins σ H s→RelV x v→Vals xs us→r x xs H Q →
  wpAny (model X.prog X.w) X.A (call (.builtin id) (v::us)) (EP X pins σ Q) X.xe s
section
variable {X:Cx} {a b:Expr} {ta tb:TE} {pos:Pos}
theorem zaw {r:R2} (hr:IxR X r) (ha:PE X a ta) (hb:PE X b tb) (hs:zlq b):PE X (.Subscript a b pos) (tOp r ta tb):=by
 intro pins s σ H Q I h;exact Subscript_ (binT ha hb I h fun v u s2 x y H2 I2 rx ry q=>hr a b pins s2 σ H2 x y v u Q I2 rx ry q (hs _ _))
def rIxL (K:PySem.W.Frag):R2:=fun x y H Q=>∃ p xs i v,x=.ref p∧y=.int i∧SqL K H p xs∧atI xs i=some v∧Q v H
theorem ix_list:IxR X (rIxL X.K):=by
 intro value slice pins s σ H x y v u Q I rx ry h hs;obtain ⟨p,xs,i,z,rfl,rfl,hq,he,q⟩:=h
 cases rx
 obtain ⟨t,rfl⟩:=ry;obtain ⟨its,r,pl,hz⟩:=I.list hq;obtain ⟨j,h1,h2,h3,h4,h5⟩:=zlp he;obtain ⟨w,ew,rw'⟩:=r.get h2;have hl:=r.length;have hn:=line63;have fin:EP X pins σ Q w s:=⟨z,H,I,rw',q⟩
 by_cases h0:0≤i
 ·have hj:i.toNat=j:=by
   rw [seqIndex_of h0 h5] at h1;exact Option.some.inj h1
  exact item_listR pl.isList h0 (by omega) (by rw [hj];simpa using ew) fin hs
 ·have hj:(i+(its.toArray.size:Int)).toNat=j:=by
   rw [seqIndex_neg (by omega) h4] at h1;rw [List.size_toArray,← hl];exact Option.some.inj h1
  exact subscriptTail_builtinR (x:=w) pl.isList.typeIs slot_list_getitem.lookup
   (wpAny_getItem_list_neg (Q:=fun r s'=>r=w∧EP X pins σ Q r s') pl.isList (by omega) (by rw [List.size_toArray] <;> omega) (by omega) (by rw [hj];simpa using ew) ⟨rfl,fin⟩) hs
theorem zhI (its:List Value) (n j:Nat) (u:Value):Obj.mapSeq (·.setIfInBounds j u) { cls:=.type "list",data:=.seq its.toArray n }={ cls:=.type "list",data:=.seq (its.set j u).toArray n }:=by
 simp [Obj.mapSeq]
theorem Inv.lst {pins:List (Addr×Obj)} {σ:St} {H:Hp} {s:Shared} {p:Addr} {xs:List V} (I:Inv X pins σ H s) (h:H p=some (.lst xs)) :
  ∃ (its:List Value) (n:Nat),Vals xs its∧s.heap.get? p=some { cls:=.type "list",data:=.seq its.toArray n }∧xs.length≤sizeLine:=by
 obtain ⟨z,its,n,r,e⟩:=I.hok p _ h;exact ⟨its,n,r,e,z⟩
theorem Inv.lstUpd {pins:List (Addr×Obj)} {σ:St} {H:Hp} {s:Shared} {p:Addr} {xs ys:List V} {its its':List Value} {n n':Nat} {f:Obj→Obj} (I:Inv X pins σ H s) (h:H p=some (.lst xs))
  (ho:s.heap.get? p=some { cls:=.type "list",data:=.seq its.toArray n }) (hf:f { cls:=.type "list",data:=.seq its.toArray n }={ cls:=.type "list",data:=.seq its'.toArray n' }) (r:Vals ys its') (hz:ys.length≤sizeLine) (t:Nat) :
  Inv X pins σ (upd H p (.lst ys)) { s with heap:=s.heap.update p f,toks:=t }:=by
 have e:(s.heap.update p f).get? p=some { cls:=.type "list",data:=.seq its'.toArray n' }:=by
  rw [Heap.get?_update_self f ho (by rw [hf] <;> rfl),hf]
 refine I.write (x:=p) (e:=p) (by rw [h];trivial) (.inl rfl) (fun b u hb q=>(Heap.get?_update_other _ _ (Ne.symm hb)).trans q) ⟨_,e⟩ ?_;exact ⟨hz,its',n',r,e⟩
def rSetL:V→V→V→Hp→(Hp→Prop)→Prop:=fun o i v H Q=>∃ p xs k j,o=.ref p∧i=.int k∧H p=some (.lst xs)∧ixN xs.length k=some j∧Q (upd H p (.lst (xs.set j v)))
theorem set_list:PSet X rSetL:=by
 intro pins s σ H o i v ov iv u Q I ro ri rv h;obtain ⟨p,xs,k,j,rfl,rfl,hp,hj,q⟩:=h
 cases ro
 obtain ⟨t,rfl⟩:=ri;obtain ⟨its,n,r,ho,hz⟩:=I.lst hp;obtain ⟨h1,h2,h3,h4⟩:=ziD hj;have hl:=r.length;have hn:=line63;have I':Inv X pins σ (upd H p (.lst (xs.set j v))) { s with heap:=s.heap.update p (Obj.mapSeq (·.setIfInBounds j u)) } :=
  I.lstUpd hp ho (zhI its n j u) (r.set rv j) (by rw [List.length_set];exact hz) s.toks
 by_cases h0:0≤k
 ·have hk:k.toNat=j:=by
   rw [seqIndex_of h0 h4] at h1;exact Option.some.inj h1
  exact PySem.W.ki_setAt ho h0 (by omega) (by rw [List.size_toArray,← hl];exact h4) (by rw [hk];exact ⟨_,I',q⟩)
 ·have hk:(k+(its.toArray.size:Int)).toNat=j:=by
   rw [seqIndex_neg (by omega) h3] at h1;rw [List.size_toArray,← hl];exact Option.some.inj h1
  exact PySem.W.ki_setBack ho (by omega) (by rw [List.size_toArray,← hl];exact h3) (by omega) (by rw [hk];exact ⟨_,I',q⟩)
theorem zfU (lo hi:Option Int) (n:Nat):(sliceBounds lo hi none n).1=((HT.sIx n 0 lo:Nat):Int)∧(sliceBounds lo hi none n).2.1=((HT.sIx n n hi:Nat):Int)∧(sliceBounds lo hi none n).2.2=1:=by
 refine ⟨?_,?_,rfl⟩
 ·cases lo with
  | none=>simp [sliceBounds,HT.sIx]
  | some i =>
    simp only [sliceBounds,HT.sIx,Option.getD_none,show (1:Int) > 0 by decide,if_true]
    by_cases h:i < 0
    ·simp only [h,if_true] <;> omega
    ·simp only [h,if_false] <;> omega
 ·cases hi with
  | none=>simp [sliceBounds,HT.sIx]
  | some i =>
    simp only [sliceBounds,HT.sIx,Option.getD_none,show (1:Int) > 0 by decide,if_true]
    by_cases h:i < 0
    ·simp only [h,if_true] <;> omega
    ·simp only [h,if_false] <;> omega
theorem zfq (its:List Value) (lo hi:Option Int):slicePick its.toArray lo hi none=((its.drop (HT.sIx its.length 0 lo)).take (HT.sIx its.length its.length hi-HT.sIx its.length 0 lo)).toArray:=by
 obtain ⟨h1,h2,h3⟩:=zfU lo hi its.toArray.size;unfold slicePick;rw [h1,h2,h3];simp only [sliceRange_one,pick_run,List.size_toArray] <;> rfl
def rSlL (K:PySem.W.Frag):V→Option Int→Option Int→Hp→VK→Prop:=fun x lo hi H Q=>∃ a xs,x=.ref a∧SqL K H a xs∧∀ p,H p=none→Q (.ref p) (upd H p (.lst (cutV xs lo hi)))
theorem sl_list:SlR X (rSlL X.K):=by
 intro pins s σ H x v vl vu lo hi sl Q I rx hs pl pu h;obtain ⟨a,xs,rfl,hx,q⟩:=h
 cases rx
 obtain ⟨its,r,ht,hz⟩:=I.list hx;have hlen:=r.length;refine ⟨"list",_,slot_list_getitem.lookup,ht.isList.typeIs,?_⟩;refine wpAny_getItem_list_slice ht.isList hs pl pu .none (by simp) ?_ (by rw [List.size_toArray] <;> omega);rw [zfq,← hlen];refine ⟨.ref s.heap.objs.size,_,I.laid (t':=s.toks) (o:=.lst (cutV xs lo hi)) (fun b ob q=>Heap.get?_push_of_some _ q) (Nat.le_refl _) ?_,rfl,q _ (I.hok.fresh (Nat.le_refl _))⟩;exact ⟨Nat.le_trans (zgB xs lo hi) hz,_,0,(r.drop (HT.sIx xs.length 0 lo)).take (HT.sIx xs.length xs.length hi-HT.sIx xs.length 0 lo),Heap.get?_push_size _ rfl⟩
def flatV:V→Bool
 | .non=>true
 | .bl _=>true
 | .int _=>true
 | .str _=>true
 | _=>false
def eqV:V→V→Bool
 | .non,.non=>true
 | .bl a,.bl b=>a == b
 | .bl a,.int b=>(if a then 1 else 0) == b
 | .int a,.bl b=>a == (if b then 1 else 0)
 | .int a,.int b=>a == b
 | .str a,.str b=>a == b
 | _,_=>false
theorem ziF {A:Around} {s:Shared} {y x:V} {u v:Value} (ry:RelV y u) (rx:RelV x v) (fy:flatV y=true) (fx:flatV x=true):SeqAt.EqAt A s u v (eqV y x):=by
 cases y with
 | non =>
   cases ry
   cases x with
   | non=>cases rx;exact SeqAt.EqAt.same _
   | bl b=>cases rx;exact SeqAt.EqAt.none_bool b
   | int b=>obtain ⟨t,rfl⟩:=rx;exact SeqAt.EqAt.none_int b t
   | str b=>obtain ⟨t,rfl⟩:=rx;exact SeqAt.EqAt.none_str b t
   | _=>exact absurd (show false=true from fx) Bool.false_ne_true
 | bl a =>
   cases ry
   cases x with
   | non=>cases rx;exact SeqAt.EqAt.bool_none a
   | bl b=>cases rx;exact SeqAt.EqAt.bool_bool a b
   | int b=>obtain ⟨t,rfl⟩:=rx;exact SeqAt.EqAt.bool_int a b t
   | str b=>obtain ⟨t,rfl⟩:=rx;exact SeqAt.EqAt.bool_str a b t
   | _=>exact absurd (show false=true from fx) Bool.false_ne_true
 | int a =>
   obtain ⟨t',rfl⟩:=ry
   cases x with
   | non=>cases rx;exact SeqAt.EqAt.int_none a t'
   | bl b=>cases rx;exact SeqAt.EqAt.int_bool a t' b
   | int b=>obtain ⟨t,rfl⟩:=rx;exact SeqAt.EqAt.int_int a t' b t
   | str b=>obtain ⟨t,rfl⟩:=rx;exact SeqAt.EqAt.int_str a t' b t
   | _=>exact absurd (show false=true from fx) Bool.false_ne_true
 | str a =>
   obtain ⟨t',rfl⟩:=ry
   cases x with
   | non=>cases rx;exact SeqAt.EqAt.str_none a t'
   | bl b=>cases rx;exact SeqAt.EqAt.str_bool a t' b
   | int b=>obtain ⟨t,rfl⟩:=rx;exact SeqAt.EqAt.str_int a t' b t
   | str b=>obtain ⟨t,rfl⟩:=rx;exact SeqAt.EqAt.str_str a t' b t
   | _=>exact absurd (show false=true from fx) Bool.false_ne_true
 | _=>exact absurd (show false=true from fy) Bool.false_ne_true
def eqU (x:V) (u:Value):Bool:=match u with
 | .none=>eqV .non x
 | .bool b=>eqV (.bl b) x
 | .int i _=>eqV (.int i) x
 | .str z _=>eqV (.str z) x
 | _=>false
theorem zkV {x y:V} {u:Value} (r:RelV y u) (f:flatV y=true):eqU x u=eqV y x:=by
 cases y with
 | non=>cases r;rfl
 | bl b=>cases r;rfl
 | int i=>obtain ⟨t,rfl⟩:=r;rfl
 | str z=>obtain ⟨t,rfl⟩:=r;rfl
 | _=>exact absurd (show false=true from f) Bool.false_ne_true
theorem zgC {x:V}:∀ {xs:List V} {us:List Value},Vals xs us→xs.all flatV=true→us.any (eqU x)=xs.any fun y=>eqV y x
 | _,_,.nil,_=>rfl
 | y::xs,u::us,.cons r t,f=>by
   rw [List.all_cons,Bool.and_eq_true] at f;rw [List.any_cons,List.any_cons,zkV r f.1,zgC t f.2]
theorem zfr {A:Around} {s:Shared} {x:V} {v:Value} (rx:RelV x v) (fx:flatV x=true):∀ {xs:List V} {us:List Value},Vals xs us→xs.all flatV=true→∀ u∈us,SeqAt.EqAt A s u v (eqU x u)
 | _,_,.nil,_=>fun u hu=>by cases hu
 | y::xs,u::us,.cons r t,f=>fun u' hu=>by
   rw [List.all_cons,Bool.and_eq_true] at f;rcases List.mem_cons.mp hu with rfl | hu
   ·rw [zkV r f.1];exact ziF r rx f.1 fx
   ·exact zfr rx fx t f.2 u' hu
def inV (x:V) (xs:List V):Bool:=xs.any fun y=>eqV y x
def rIn (K:PySem.W.Frag) (neg:Bool):R2:=fun x y H Q=>∃ p xs,y=.ref p∧(SqL K H p xs∨SqT K H p xs)∧flatV x=true∧xs.all flatV=true∧Q (.bl (if neg then !inV x xs else inV x xs)) H
theorem op_in_seq:OpR X (compareOp .In) (rIn X.K false):=by
 intro pins s σ H x y v u Q I rx ry h;obtain ⟨p,xs,rfl,hq,fx,fs,q⟩:=h
 cases ry
 rcases hq with hq | hq
 ·obtain ⟨its,r,pl,hz⟩:=I.list hq;refine SeqAt.in_listAt (eqU x) pl.isList (fun w hw=>zfr rx fx r fs w (by simpa using hw)) ⟨.bl _,H,I,rfl,?_⟩;rw [show its.toArray.any (eqU x)=its.any (eqU x) by simp,zgC r fs];exact q
 ·obtain ⟨its,r,pl,hz⟩:=I.tuple hq;refine SeqAt.in_tupleAt (eqU x) pl (fun w hw=>zfr rx fx r fs w (by simpa using hw)) ⟨.bl _,H,I,rfl,?_⟩;rw [show its.toArray.any (eqU x)=its.any (eqU x) by simp,zgC r fs];exact q
theorem call_len_seq:zcG X (.builtin "len") (fun xs H Q=>∃ p ys,xs=[.ref p]∧(SqL X.K H p ys∨SqT X.K H p ys)∧Q (.int ys.length) H):=by
 intro pins s σ H xs us Q I r h;obtain ⟨p,ys,rfl,hq,q⟩:=h;obtain ⟨u,rfl,rx⟩:=vals1 r
 cases rx
 have hn:=line63;rcases hq with hq | hq
 ·obtain ⟨its,r',pl,hz⟩:=I.list hq;have hlen:=r'.length;exact Calls.call_len_list pl.isList (by simp only [List.size_toArray] <;> omega) ⟨.int ys.length,H,I.tok _,⟨s.toks+1,by rw [List.size_toArray,hlen]⟩,q⟩
 ·obtain ⟨its,r',pl,hz⟩:=I.tuple hq;have hlen:=r'.length;exact len_tuple pl (by simp only [List.size_toArray] <;> omega) ⟨.int ys.length,H,I.tok _,⟨s.toks+1,by rw [List.size_toArray,hlen]⟩,q⟩
def tyV (K:PySem.W.Frag) (T:String) (x:V) (H:Hp):Prop:=match x with
 | .str _=>T = "str"
 | .int _=>T = "int"
 | .ref p=>(T = "list"∧∃ xs,SqL K H p xs)∨(T = "tuple"∧∃ o,K.lookup p=some o∧o.cls=.type "tuple"∧o.dict=none) ∨
    (T = "dict"∧((∃ kvs,H p=some (.dK kvs))∨∃ kvs,H p=some (.dT kvs)))∨(T = "set"∧∃ S n,H p=some (.set S n))
 | _=>False
theorem zmx {pins:List (Addr×Obj)} {σ:St} {H:Hp} {s:Shared} {T:String} {x:V} {v:Value} (I:Inv X pins σ H s) (r:RelV x v) (ty:tyV X.K T x H) :
  s.TypeIs v T∧∀ a,v=.ref a→∃ ob,s.heap.get? a=some ob∧ob.dict=none:=by
 cases x with
 | str z =>
   obtain ⟨t,rfl⟩:=r
   cases (show T = "str" from ty)
   exact ⟨typeIs_str s z t,fun _ e=>nomatch e⟩
 | int i =>
   obtain ⟨t,rfl⟩:=r
   cases (show T = "int" from ty)
   exact ⟨typeIs_int s i t,fun _ e=>nomatch e⟩
 | ref p =>
   cases r
   rcases ty with ⟨rfl,xs,hq⟩ | ⟨rfl,o,hk,hc,hd⟩ | ⟨rfl,hk⟩ | ⟨rfl,S,n,hk⟩
   ·obtain ⟨its,_,pl,_⟩:=I.list hq;refine ⟨pl.isList.typeIs,fun a e=>?_⟩
    cases e
    obtain ⟨o,n,e,c,hd,_⟩:=pl;exact ⟨o,e,hd⟩
   ·refine ⟨⟨o,I.kIn p o hk,hc⟩,fun a e=>?_⟩
    cases e
    exact ⟨o,I.kIn _ o hk,hd⟩
   ·have z:∃ o,s.heap.get? p=some o∧o.ExactDict:=by
     rcases hk with ⟨kvs,hk⟩ | ⟨kvs,hk⟩
     ·obtain ⟨_,_,_,_,o,_,_,e,ex,_⟩:=I.hok p _ hk;exact ⟨o,e,ex⟩
     ·obtain ⟨_,_,_,_,o,_,_,e,ex,_⟩:=I.hok p _ hk;exact ⟨o,e,ex⟩
    obtain ⟨o,e,ex⟩:=z;refine ⟨⟨o,e,ex.1⟩,fun a e2=>?_⟩
    cases e2
    exact ⟨o,e,ex.2.1⟩
   ·obtain ⟨o,_,_,_,e,ex,_⟩:=I.hok p _ hk;refine ⟨⟨o,e,ex.1⟩,fun a e2=>?_⟩
    cases e2
    exact ⟨o,e,ex.2.1⟩
 | _=>exact False.elim ty
def tBM (K:PySem.W.Frag) (T:String) (r:V→List V→Hp→VK→Prop) (to:TE) (t:TA):TE:=fun σ H Q=>to σ H fun x H1=>tyV K T x H1∧t σ H1 fun xs H2=>r x xs H2 Q
variable {o e:Expr} {es:List Expr} {to:TE} {t:TA} {name:Str} {apos cpos:Pos} {T id:String} {r:V→List V→Hp→VK→Prop}
theorem znU (pa:PlainAttrs T) (slot:Slot T name id) (hty:typeOf (.builtin id)=pure (.type "method_descriptor")) (hm:MtR X id r) (ho:PE X o to) (ha:PA X (e::es) t)
  (hbase:attributeBase o name X.env (eval o X.env)=eval o X.env:=by rfl)
  (hfew:((backTo cpos (starEach (e::es) X.env)).all (fun x=>!x.1) && (backToKw cpos (keywordEach [] X.env)).all (fun x=>x.1.isSome)
   && decide ((e::es).length+([]:List Keyword).length+(if ([]:List Keyword).isEmpty then 0 else 1) < 30))=true:=by rfl)
  (hline:(apos.endLine == cpos.line)=true:=by rfl) (hs:starEach (e::es) X.env=(false,eval e X.env)::starEach es X.env:=by rfl) (hplain:(backTo cpos (starEach es X.env)).any (·.1)=false:=by rfl) :
  PE X (.Call (.Attribute o name apos) (e::es) [] cpos) (tBM X.K T r to t):=by
 intro pins s σ H Q I h;refine wpAny_Call_method_late hbase hfew hline rfl (thn (ho pins s σ H _ I h) fun v s1 ⟨x,H1,I1,r1,ty,q1⟩=>?_);obtain ⟨h1,h2⟩:=zmx I1 r1 ty;refine ⟨T,id,pa,slot,hty,h1,h2,?_⟩;have hA:=ha cpos pins s1 σ H1 _ I1 q1;rw [hs] at hA ⊢;refine Calls.callWith_builtin (by show (false || (backTo cpos (starEach es X.env)).any (·.1))=false;rw [hplain] <;> rfl) (Calls.evalArgs_plain ?_);exact thn hA fun us s2 ⟨vs,H2,I2,r2,q2⟩=>hm pins s2 σ H2 x vs v us Q I2 r1 r2 q2
end
end L2
namespace L2
open PySem PySem.Spec PyProof.Rows
def MtM (X:Cx) (id:String) (r:V→List V→Hp→VK→Prop):Prop :=
 ∀ (pins:List (Addr×Obj)) (s:Shared) (σ:St) (H:Hp) (x:V) (xs:List V) (v:Value) (us:List Value) (Q:VK),Inv X pins σ H s→RelV x v→Vals xs us→r x xs H Q →
  wpAny (model X.prog X.w) X.A (call (.builtin id) (v::us)) (EP X pins σ Q) X.xe s
theorem Vals.one:∀ {x:V} {us:List Value},Vals [x] us→∃ u,us=[u]∧RelV x u
 | _,_,.cons r .nil=>⟨_,rfl,r⟩
theorem Vals.two:∀ {x y:V} {us:List Value},Vals [x,y] us→∃ u v,us=[u,v]∧RelV x u∧RelV y v
 | _,_,_,.cons r (.cons q .nil)=>⟨_,_,rfl,r,q⟩
section
variable {X:Cx} {pins:List (Addr×Obj)} {σ:St} {H:Hp} {s:Shared} {l b:Addr} {xs ys zs:List V}
theorem Inv.lset {its its':List Value} {n:Nat} {f:Array Value→Array Value} {t':Nat} (I:Inv X pins σ H s) (hH:H l=some (.lst xs))
  (e:s.heap.get? l=some { cls:=.type "list",data:=.seq its.toArray n }) (hf:f its.toArray=its'.toArray) (hv:Vals ys its') (hz:ys.length≤sizeLine) :
  Inv X pins σ (upd H l (.lst ys)) { s with heap:=s.heap.update l (Obj.mapSeq f),toks:=t' }:=by
 have q:=PySem.IsL.update e f;rw [hf] at q;refine I.write (x:=l) (e:=l) (by rw [hH];exact trivial) (.inl rfl) (fun b' u hb hu=>(Heap.get?_update_other s.heap (Obj.mapSeq f) (Ne.symm hb)).trans hu) ⟨_,q⟩ ?_;exact ⟨hz,its',_,hv,q⟩
theorem Inv.lnew {its:List Value} {t':Nat} (I:Inv X pins σ H s) (hv:Vals ys its) (hz:ys.length≤sizeLine) :
  Inv X pins σ (upd H s.heap.objs.size (.lst ys)) { s with heap:=s.heap.push { cls:=.type "list",data:=.seq its.toArray },toks:=t' } :=
 I.laid (fun _ _ q=>Heap.get?_push_of_some _ q) (Nat.le_refl _) ⟨hz,its,0,hv,Heap.get?_push_size _ rfl⟩
theorem Inv.fresh (I:Inv X pins σ H s):H s.heap.objs.size=none:=I.hok.fresh (Nat.le_refl _)
theorem Inv.lstM (I:Inv X pins σ H s) (hH:H l=some (.lst xs)):xs.length≤sizeLine∧∃ (its:List Value) (n:Nat),Vals xs its∧xs.length=its.length∧s.heap.get? l=some { cls:=.type "list",data:=.seq its.toArray n }:=by
 obtain ⟨z,its,n,r,e⟩:=I.hok l _ hH;exact ⟨z,its,n,r,r.length,e⟩
theorem zfs {n:Nat} (h:n≤sizeLine):Builtin.List.listTooLong n=false:=by
 unfold Builtin.List.listTooLong;exact decide_eq_false (by omega)
end
section
variable {X:Cx}
def rAppend:V→List V→Hp→VK→Prop:=fun x vs H Q=>∃ l xs y,x=.ref l∧vs=[y]∧H l=some (.lst xs)∧xs.length < sizeLine∧Q .non (upd H l (.lst (xs++[y])))
theorem mt_append:MtM X "list.append" rAppend:=by
 intro pins s σ H x vs v us Q I rx rv h;obtain ⟨l,xs,y,rfl,rfl,hH,hz,q⟩:=h
 cases rx
 obtain ⟨u,rfl,ru⟩:=rv.one;obtain ⟨z,its,n,r,hl,e⟩:=I.lstM hH;refine call_meets F.slot_list_append ⟨_,e,rfl⟩ F.entry_list_append (F.args_list_append_2 _ _) (PySem.list_append l its.toArray n u (by rw [List.size_toArray];omega)) ⟨e,?_⟩;refine ⟨.non,_,I.lset (its':=its++[u]) hH e (by simp) (r.append (.cons ru .nil)) ?_,rfl,q⟩;rw [List.length_append,List.length_singleton];omega
def rExtend:V→List V→Hp→VK→Prop:=fun x vs H Q=>∃ l b xs zs,x=.ref l∧vs=[.ref b]∧H l=some (.lst xs)∧H b=some (.lst zs)∧xs.length+zs.length≤sizeLine∧Q .non (upd H l (.lst (xs++zs)))
theorem mt_extend:MtM X "list.extend" rExtend:=by
 intro pins s σ H x vs v us Q I rx rv h;obtain ⟨l,b,xs,zs,rfl,rfl,hH,hB,hz,q⟩:=h
 cases rx
 obtain ⟨u,rfl,ru⟩:=rv.one
 cases ru
 obtain ⟨z,its,n,r,hl,e⟩:=I.lstM hH;obtain ⟨z2,its2,n2,r2,hl2,e2⟩:=I.lstM hB;have hsz:its.toArray.size+its2.toArray.size≤sizeLine:=by rw [List.size_toArray,List.size_toArray];omega
 have hlong:¬(!its.toArray.isEmpty && Builtin.List.listTooLong (its.toArray.size+its2.toArray.size))=true:=by
  rw [zfs hsz,Bool.and_false];exact Bool.false_ne_true
 refine call_meets F.slot_list_extend ⟨_,e,rfl⟩ F.entry_list_extend (F.args_list_extend_2 _ _)
  (AutoSeq1.list_extend_list_list_0 l its.toArray n b its2.toArray n2 hlong (by rw [List.size_toArray];omega) (by omega)) ⟨e,e2,?_⟩
 refine ⟨.non,_,I.lset (its':=its++its2) hH e (by simp) (r.append r2) ?_,rfl,q⟩;rw [List.length_append];omega
def rCat:R2:=fun x y H Q=>∃ l b xs zs,x=.ref l∧y=.ref b∧H l=some (.lst xs)∧H b=some (.lst zs)∧xs.length+zs.length≤sizeLine∧∀ p,H p=none→Q (.ref p) (upd H p (.lst (xs++zs)))
theorem op_cat:OpR X (binaryOp .Add) rCat:=by
 intro pins s σ H x y v u Q I rx ry h;obtain ⟨l,b,xs,zs,rfl,rfl,hH,hB,hz,q⟩:=h
 cases rx
 cases ry
 obtain ⟨z,its,n,r,hl,e⟩:=I.lstM hH;obtain ⟨z2,its2,n2,r2,hl2,e2⟩:=I.lstM hB;refine PySem.P.add_list e e2 ?_ (by rw [List.size_toArray,List.size_toArray];omega);have ea:its.toArray++its2.toArray=(its++its2).toArray:=by simp
 rw [ea];exact ⟨.ref _,_,I.lnew (t':=s.toks) (r.append r2) (by rw [List.length_append];omega),rfl,q _ I.fresh⟩
end
section
variable {prog:Program} {w:World} {A:Around} {E:Value→Shared→Prop} {s:Shared}
theorem zhJ {a c n:Nat} (hac:a≤c) (hc:c≤n):sliceBounds (some (a:Int)) (some (c:Int)) none n=((a:Int),(c:Int),1):=by
 simp only [sliceBounds,Option.getD_none];have h1:¬((a:Int) < 0):=by omega
 have h2:¬((c:Int) < 0):=by omega
 simp only [h1,h2,if_false,show (1:Int) > 0 by decide,if_true]
 congr 1
 ·omega
 ·congr 1;omega
set_option maxRecDepth 100000 in
theorem zj3 {l b sl:Addr} {items new:Array Value} {n n2:Nat} {vl vu:Value} {a c:Nat} {Q:Unit→Shared→Prop}
  (e:s.heap.get? l=some { cls:=.type "list",data:=.seq items n }) (e2:s.heap.get? b=some { cls:=.type "list",data:=.seq new n2 }) (hne:l≠b)
  (hs:s.heap.IsSliceOf sl vl vu .none) (pl:IsPart vl (some (a:Int))) (pu:IsPart vu (some (c:Int))) (hac:a≤c) (hc:c≤items.size)
  (hsz:items.size+new.size≤sizeLine) (h:Q () { s with heap:=s.heap.update l (Obj.mapSeq fun xs=>xs.extract 0 a++new++xs.extract c xs.size) }) :
  wpAny (model prog w) A (setItem (.ref l) (.ref sl) (.ref b)) Q E s:=by
 have hl:s.heap.IsList l items:=PySem.IsL.isList e;have hb:s.heap.IsList b new:=PySem.IsL.isList e2;obtain ⟨os,hos,hcs,hds⟩:=id hs;have hTs:s.TypeIs (.ref sl) "slice":=⟨os,hos,hcs⟩
 have hstep:¬((rawPart none == rawInt 0)=true):=Bool.false_ne_true;have hsame:Builtin.List.listSameRef (.ref l) (.ref b)=false:=by
  unfold Builtin.List.listSameRef;exact beq_eq_false_iff_ne.mpr hne
 have hmax:(max (a:Int) (c:Int)).toNat=c:=by omega
 have hz':((fun xs:Array Value=>xs.extract 0 a++new++xs.extract c xs.size) items).size≤sizeLine+1:=by
  simp only [Array.size_append,Array.size_extract];omega
 unfold setItem
 try with_reducible refine wpAny_holding ?_
 first | refine wpAny_bind (wpAny_pure ?_) | skip
 refine wpAny_bind (wpAny_sequenceKey hl.typeIs (by decide) ?_);refine wpAny_bind (wpAny_callSpecial?_slot (name:=Str.ofString "__setitem__") hl.typeIs slot_list_setitem
  (wpAny_call_entry slot_list_setitem hl.typeIs entry_list_setitem ?_ (args_list_setitem _ _ _)))
 show wpAny _ _ (Builtin.List.listSubscript? (.ref sl) >>= _) _ _ s;refine wpAny_bind ?_;unfold Builtin.List.listSubscript?;refine wpAny_bind (wpAny_specialOf hTs slice_no_index ?_);simp only [Option.isNone_none,if_true];refine wpAny_pure ?_;show wpAny _ _ (typeOf (.ref sl) >>= _) _ _ s;refine wpAny_bind (wpAny_typeOf hTs ?_)
 first
  | rw [if_neg (by decide)]
  | refine PySem.W.KFB.if_not (by decide) ?_
 rw [listSliceParts_eq];refine wpAny_bind (wpAny_bind (wpAny_field hos hds (x:=.none) rfl (wpAny_bind (wpAny_listPart .none ?_))));rw [if_neg hstep];refine wpAny_bind (wpAny_field hos hds (x:=vl) rfl (wpAny_bind (wpAny_listPart pl ?_)));refine wpAny_bind (wpAny_field hos hds (x:=vu) rfl (wpAny_bind (wpAny_listPart pu (wpAny_pure ?_))))
 first
  | simp only [hsame,Bool.false_eq_true,if_false]
  | refine PySem.W.KFB.if_not hsame ?_
  | (dsimp only
     rw [if_neg (by rw [hsame];exact Bool.false_ne_true)])
 refine wpAny_bind (m:=Builtin.List.listAllItems (.ref b) "must assign iterable to extended slice") ?_;unfold Builtin.List.listAllItems;refine wpAny_bind (wpAny_typeOf hb.typeIs ?_)
 first
  | refine PySem.W.KFB.if_so (by decide) ?_
  | rw [if_pos (by decide)]
  | simp only [beq_self_eq_true,Bool.true_or,if_true]
 unfold Builtin.List.listItems;refine wpAny_bind (wpAny_seqItems e2 rfl (wpAny_pure ?_));refine wpAny_bind (wpAny_bind (wpAny_seqItems e rfl (wpAny_pure ?_)));refine wpAny_bind (wpAny_of_eq ((sliceIndices_raw (some (a:Int)) (some (c:Int)) none items.size (by simp)).trans (congrArg (pure:Int×Int×Int→Sem (Int×Int×Int)) (zhJ hac hc))) ?_);show wpAny _ _ (if ((1:Int) == 1)=true then _ else _) _ _ s;rw [if_pos (by decide)];refine wpAny_bind (wpAny_rule ?_)
 first
  | simp only [zfs hsz,Bool.false_eq_true,if_false]
  | refine PySem.W.KFB.if_not (zfs hsz) ?_
 first | refine wpAny_bind (wpAny_pure ?_) | skip
 show wpAny _ _ (updateSeq l (fun xs=>xs.extract 0 ((a:Int)).toNat++new++xs.extract (max (a:Int) (c:Int)).toNat xs.size) >>= _) _ _ s;rw [hmax,Int.toNat_natCast];refine wpAny_bind (wpAny_updateSeq (hz:=Nat.le_trans (Nat.le_add_right _ _) hsz) (_hz':=hz') e rfl ?_);refine wpAny_bind (wpAny_letGo ?_)
 first
  | exact wpAny_bind (wpAny_pure (wpAny_pure ⟨.none,rfl,wpAny_pure h⟩))
  | exact wpAny_pure ⟨.none,rfl,wpAny_pure h⟩
end
section
variable {X:Cx}
end
end L2
namespace Att
open PySem PySem.W PySem.Calls PyProof.Rows
theorem zem {P:Params} {h:Heap}:∀ (ns:List Int) (vs:List Value),WellAll P h vs (ns.map WData.int)→IntsAre vs ns:=by
 intro ns
 induction ns with
 | nil =>
   intro vs w;rw [List.map_nil] at w
   cases w
   exact .nil
 | cons n ns ih =>
   intro vs w;rw [List.map_cons] at w
   cases w with
   | cons a b =>
     cases a
     exact .cons _ _ (ih _ b)
theorem ziG {l:OpenLaw} {n:Nat} (hn:l.most=some n) {P:Params} {h:Heap} {args:List WData} {vals:List Value}
  (hpre:l.row.toRowW.claim.pre args=true) (hwl:WellAll P h vals args) :
  ∃ a vs ns,vals=[Value.ref a]∧args=[WData.list (ns.map WData.int)]∧h.get? a=some { cls:=.type "list",data:=.seq vs.toArray }∧IntsAre vs ns∧ns.length≤n:=by
 have hsh:WShape.hasAll [] args [.list .int]=true:=(pre_splitW hpre).1;have hc:l.pre.holds [] { args:=args }=true:=(pre_splitW hpre).2;obtain ⟨d,r,rfl,h1,h2⟩:=hasAllW_cons hsh;obtain rfl:=hasAllW_nil h2;obtain ⟨xs,rfl,h3⟩:=hasW_list h1;obtain ⟨ns,rfl⟩:=items_int h3;have hlen:ns.length≤n:=by
  unfold OpenLaw.pre at hc;have h4:(WTm.not (.lt (.lit (.int (n:Int))) (.len (.arg 0)))).holds [] { args:=[.list (ns.map .int)] }=true:=by
   have h4:=(holds_andW hc).1;rw [hn] at h4;exact h4
  have h5:=condW_of h4 (w_not (w_lt w_lit (w_len_list (w_arg rfl))));rw [List.length_map] at h5;refine Nat.le_of_not_lt fun q=>?_;have q':(n:Int) < ((ns.length:Nat):Int):=by omega
  first
   | (rw [decide_eq_true q'] at h5;exact absurd h5 (by decide))
   | (simp at h5;omega)
 cases hwl with
 | cons w1 w2 =>
   cases w2
   cases w1 with
   | list ho hall=>exact ⟨_,_,ns,rfl,rfl,ho,zem ns _ hall,hlen⟩
theorem ziH (l:OpenLaw) (args:List WData):l.row.toRowW.claim.post args (.bool true) args=true :=
 postW_of (r:=l.row.toRowW) (X:=(true == true))
  (show WShape.has [] (.bool true) .bool=true by first | rfl | decide | simp [WShape.has,WShape.arms,WShape.armsAll])
  (show (WTm.eq .res (.lit (.bool true))).value [] { args:=args,res:=some (.bool true),after:=args }=some (.bool (true == true)) from w_eq_bool (w_res rfl) w_lit) rfl
theorem attach_call {l:OpenLaw} {n:Nat} {q:Program} {loose:List Str} {XP:(Str→Option Value)→Heap→Prop} {YP:World→Heap→Prop} {d:DefRec}
  (hn:l.most=some n) (hdf:d.params.defaults=[])
  (call:∀ (w:World) (s₀ s₁:Shared) (mg mb:Str→Option Value) (fa:Addr) (o:Obj) (pm cd doc:Value) (a:Addr) (vs:List Value) (ns:List Int),
   Ground q loose [] XP w s₀ mg mb s₁.heap→YP w s₁.heap →
   s₁.heap.get? fa=some o→o.data=.func (docDef d.name d.params d.body d.scope pm cd doc)→s₁.heap.CodeRec cd d.name→mg d.name=some (.ref fa) →
   s₁.heap.get? a=some { cls:=.type "list",data:=.seq vs.toArray }→IntsAre vs ns→ns.length≤n→s₁.gens=#[] →
   codeAny (model l.prog w) callerA (.call (.ref fa) ⟨[.ref a],[]⟩) (fun r s'=>r=.ok (.ret (.bool true))∧OldK s₁.heap s'.heap∧s'.os=s₁.os∧AllBare s'.gens) s₁) :
  WalkO q loose XP YP l.row.toRowW d [] (fun f vs=>PySem.call f vs):=by
 intro w s₀ s₁ mg mb G Y fa o pm cd doc dV kV ho hd hcd hD hmg hg args vals as hpre hlay hrd hwl hlo;obtain rfl:dV=.none:=Dflts.none hD hdf;obtain rfl:kV=.none:=Dflts.noKw hD;obtain ⟨a,vs,ns,rfl,rfl,hobj,hints,hlen⟩:=ziG hn hpre hwl;refine enter_call (codeAny_mono (call w s₀ s₁ mg mb fa o pm cd doc a vs ns G Y ho (fd_plain hd) hcd hmg hobj hints hlen hg) fun r s' hq=>?_);obtain ⟨rfl,h2,h3,h4⟩:=hq;exact ⟨.inl ⟨.bool true,.bool true,[],rfl,fun _=>rfl,.bool true,ziH l _,fun _=>⟨List.Pairwise.nil,fun _ hm=>(nomatch hm)⟩⟩,h2,h3,h4⟩
section
variable {prog:Program} {w:World} {A:Around} {E:Value→Shared→Prop} {s:Shared} {K:Frag}
end
end Att
namespace L2
open PySem PySem.Spec PyProof.Rows
theorem vals_ints:∀ {vs:List Value} {ns:List Int},IntsAre vs ns→Vals (ns.map V.int) vs
 | _,_,.nil=>.nil
 | _,_,.cons n t h=>.cons ⟨t,rfl⟩ (vals_ints h)
def Only (H:Hp):Prop:=∀ b,H b=none∨∃ o xs,H b=some (.frz o (.lst xs))
theorem zj4 {P:Program} {w:World} {K:PySem.W.Frag} {mg mb:Str→Option Value} {CX:CXT} {k:Nat} {fa a:Addr} {fd:FuncData} {x:Str} {sp:Sp} {s₁:Shared} {vs:List Value} {ns:List Int}
  (KX:K.In s₁.heap) (hns:s₁.heap.Ns mainGlobals mg) (hb:s₁.heap.Ns builtinsNs mb) (hbb:∀ x:Str,x≠"__name__"→mb x=bootBuiltins x) (hlim:s₁.heap.NoLimit) (hg:s₁.gens=#[])
  (ha:s₁.heap.get? a=some { cls:=.type "list",data:=.seq vs.toArray }) (hi:IntsAre vs ns) (hl:ns.length≤sizeLine) (hr:Room k callerA)
  (F:∀ base:Heap,K.In base→base.Ns mainGlobals mg→FnOk P w K mg base CX k fa fd [x] sp) (hbind:∀ (s:Shared) (u:Value),BindsTo s fd ⟨[u],[]⟩ [(x,u)])
  (hsp:∀ H:Hp,Only H→SqL K H a (ns.map V.int)→sp [.ref a] H (fun v _=>v=.bl true) fun _ _ _=>False)
  (hCX:∀ H e s',CX [] H s₁ (fun _ _ _=>False) e s'→False) :
  codeAny (model P w) callerA (.call (.ref fa) ⟨[.ref a],[]⟩) (fun r s'=>r=.ok (.ret (.bool true))∧OldK s₁.heap s'.heap∧s'.os=s₁.os∧AllBare s'.gens) s₁:=by
 have rv:=vals_ints hi;have lenV:=hi.length;have core:∀ H:Hp,Only H→SqL K H a (ns.map V.int)→HOk P w H s₁.heap→(∀ b,H b≠none→b=a)→(H a≠none→K.lookup a=none) →
   codeAny (model P w) callerA (.call (.ref fa) ⟨[.ref a],[]⟩) (fun r s'=>r=.ok (.ret (.bool true))∧OldK s₁.heap s'.heap∧s'.os=s₁.os∧AllBare s'.gens) s₁:=by
  intro H hO hS hok hA hK;have base_of:∀ {b:Addr} {o:Obj},s₁.heap.get? b=some o→H b=none→(hidT s₁.heap H).get? b=some o:=fun e n=>zjT e n;have noA:∀ {b:Addr} {o:Obj} {es:Array DictEntry} {ep:Nat},s₁.heap.get? b=some o→o.data=.dict es ep→H b=none:=fun {b o es ep} e d=>by
   cases q:H b with
   | none=>rfl
   | some u =>
     have e':b=a:=hA b (by rw [q];simp);subst e';rw [ha] at e;cases e
     have d':Data.seq vs.toArray _=Data.dict es ep:=d
     cases d'
  have nsK:∀ {b:Addr} {m:Str→Option Value},s₁.heap.Ns b m→(hidT s₁.heap H).Ns b m:=fun {b m} ⟨o,es,ep,e,d,r⟩=>⟨o,es,ep,base_of e (noA e d),d,r⟩
  have hKb:K.In (hidT s₁.heap H):=fun b o e=>base_of (KX b o e) (by
   cases q:H b with
   | none=>rfl
   | some u =>
     have e':b=a:=hA b (by rw [q];simp);subst e';rw [hK (by rw [q];simp)] at e;cases e)
  have hM:Mod K mg (hidT s₁.heap H):=⟨hKb,nsK hns,⟨mb,nsK hb,hbb⟩,let ⟨mc,h1,h2⟩:=hlim;⟨mc,nsK h1,h2⟩⟩
  have e0:Env0 P w K mg (hidT s₁.heap H) callerA [] s₁ H:=⟨rfl,hM,fun b o e=>zle e,Nat.le_of_eq (zim _ _),trivial,fun b hb=>absurd (show b∈([]:List Addr) from hb) (by simp),hok,.of_eq hg⟩
  refine codeAny_mono ((F _ hKb (nsK hns)).run callerA [] s₁ H ⟨[.ref a],[]⟩ [.ref a] [.ref a] _ _ hr e0 (hbind s₁ (.ref a)) (.cons rfl .nil) (hsp H hO hS)) fun r s' h=>?_
  cases r with
  | error e=>exact (hCX H e s' h).elim
  | ok fl =>
    cases fl with
    | next=>exact False.elim h
    | brk=>exact False.elim h
    | cont=>exact False.elim h
    | ret u =>
      obtain ⟨v,H',os,bare,un,hok',r',q⟩:=h;have q':v=.bl true:=q;subst q';obtain rfl:u=Value.bool true:=r';refine ⟨rfl,OldK.of_keep fun b o e=>?_,os,bare⟩
      cases q:H b with
      | none=>exact un.keep b o e q (by intro z;exact absurd (show b∈([]:List Addr) from z) (by simp)) (by simp)
      | some u =>
        rcases hO b with z | ⟨ob,xs,z⟩
        ·rw [q] at z;cases z
        ·have z2:=un.frzs b ob _ z;obtain ⟨e1,_⟩:=hok b _ z;obtain ⟨e2,_⟩:=hok' b _ z2;rw [e] at e1;cases e1
         exact e2
 cases hk:K.lookup a with
 | some o =>
   have e:=KX a o hk;rw [ha] at e
   cases e
   refine core (fun _=>none) (fun _=>.inl rfl) (.inr ⟨_,vs.toArray,_,hk,rfl,rfl,rfl,by rw [List.size_toArray,lenV];exact hl,by simpa using rv⟩) (fun b u z=>by have z':(none:Option HO)=some u:=z;cases z') (fun b z=>absurd rfl z) fun z=>absurd rfl z
 | none =>
   refine core (fun b=>if b=a then some (.frz { cls:=.type "list",data:=.seq vs.toArray } (.lst (ns.map V.int))) else none) (fun b=>?_) (.inl (.inr ⟨{ cls:=.type "list",data:=.seq vs.toArray },if_pos rfl⟩)) (fun b u z=>?_) (fun b z=>?_) fun _=>hk
   ·by_cases hb:b=a
    ·exact .inr ⟨_,_,if_pos hb⟩
    ·exact .inl (if_neg hb)
   ·by_cases hb:b=a
    ·have z':=(if_pos hb).symm.trans z
     cases z'
     subst hb;exact ⟨ha,by rw [List.length_map];exact hl,vs,_,rv,ha⟩
    ·have z':=(if_neg hb).symm.trans z
     cases z'
   ·by_cases hb:b=a
    ·exact hb
    ·exact absurd (if_neg hb) z
end L2
namespace L2
open PySem PySem.Spec PyProof.Rows
theorem zlr {l:PySem.W.OpenLaw} {n k:Nat} {q:Program} {loose:List Str} {XP:(Str→Option Value)→Heap→Prop} {YP:World→Heap→Prop} {d:DefRec} {K:Params→PySem.W.Frag} {CX:World→CXT} {sp:World→Sp} {x:Str}
  (hn:l.most=some n) (hn2:n≤sizeLine) (hdf:d.params.defaults=[]) (hr:Room k callerA)
  (hY:∀ (w:World) (h:Heap),YP w h→(K w.params).In h)
  (F:∀ (w:World) (mg:Str→Option Value) (fa:Addr) (h:Heap),(K w.params).In h→h.Ns mainGlobals mg→mg d.name=some (.ref fa) →
   ∃ fd:FuncData,(∀ (s:Shared) (u:Value),BindsTo s fd ⟨[u],[]⟩ [(x,u)]) ∧
    ∀ base:Heap,(K w.params).In base→base.Ns mainGlobals mg→FnOk l.prog w (K w.params) mg base (CX w) k fa fd [x] (sp w))
  (hsp:∀ (w:World) (H:Hp) (a:Addr) (ns:List Int),ns.length≤n→Only H→SqL (K w.params) H a (ns.map V.int)→sp w [.ref a] H (fun v _=>v=.bl true) fun _ _ _=>False)
  (hCX:∀ (w:World) (H:Hp) (s:Shared) (e:Value) (s':Shared),CX w [] H s (fun _ _ _=>False) e s'→False) :
  PySem.W.WalkO q loose XP YP l.row.toRowW d [] (fun f vs=>PySem.call f vs):=by
 refine Att.attach_call hn hdf fun w s₀ s₁ mg mb fa o pm cd doc a vs ns G Y ho hd hcd hmg hobj hints hlen hg=>?_;have KX:=hY w _ Y;obtain ⟨fd,hb,hF⟩:=F w mg fa _ KX G.T.g hmg;exact zj4 KX G.T.g G.T.b G.T.builtins G.T.nolimit hg hobj hints (Nat.le_trans hlen hn2) hr hF hb (fun H hO hS=>hsp w H a ns hlen hO hS) fun H e s'=>hCX w H s₁ e s'
end L2
namespace L2
open PySem PySem.Spec PyProof.Rows
def zbb (s:Stmt) (j:Nat):Stmt:=match s with
 | .ClassDef _ _ _ body _ _ _ _ _ _ _=>body.getD j (.Pass ⟨0,0,0,0⟩)
 | _=>.Pass ⟨0,0,0,0⟩
def zan (s:Stmt):Arguments:=match s with
 | .FunctionDef _ a _ _ _ _ _ _ _ _=>a
 | _=>{ posonlyargs:=[],args:=[],vararg:=none,kwonlyargs:=[],kw_defaults:=[],kwarg:=none,defaults:=[] }
def zal (s:Stmt):List Stmt:=match s with
 | .FunctionDef _ _ b _ _ _ _ _ _ _=>b
 | _=>[]
def zab (s:Stmt):Scope:=match s with
 | .FunctionDef _ _ _ _ _ _ sc _ _ _=>sc
 | _=>{ kind:=.function,names:=[],isGenerator:=false,isCoroutine:=false }
abbrev CX0:CXT:=fun _ _ _ _ _ _=>False
abbrev E0:XK:=fun _ _ _=>False
theorem zaD {X:Cx}:zdk CX0 X E0:=fun _ _ _ _ _ _ _ h=>h.elim
structure Fun (K:PySem.W.Frag) (x qual:Str) (st:Stmt) (f:Addr) (fd:FuncData):Prop where
 ex:∃ (oc:Value) (od:Option Addr) (kV doc pm:Value) (an:Option Addr) (cdv ct:Value) (osl:Array (Option Value)),
  fd=PySem.W.fnOf x qual (zan st) (zal st) (zab st) .none kV doc pm an cdv ct∧K.lookup f=some ⟨oc,od,.func fd,osl⟩∧PySem.W.codeIn K cdv qual=true
 kp:PySem.W.keepIn K (.ref f)=true
section
variable {P:Program} {w:World} {K:PySem.W.Frag} {mg:Str→Option Value} {base:Heap}
theorem Fun.ok {x qual:Str} {st:Stmt} {f:Addr} {fd:FuncData} {N ps:List Str} {k:Nat} {sp:Sp} (F:Fun K x qual st f fd) (S:zam N ps (zab st)) (len:∀ vs H Q E,sp vs H Q E→vs.length=ps.length)
  (hbody:∀ (cdv:Value) (A:Around) (outer:List Env) (s:Shared) (H:Hp) (vs:List V) (Q:VK) (E:XK),Room k (A.deeper (envOfC qual (zab st) s.heap.objs.size f cdv))→sp vs H Q E →
   ∃ t,PSs (cxOf CX0 P w K mg base N qual (zab st) f cdv A outer s H E).nox (zal st) t∧t { nx:=fun _ H'=>Q .non H',rt:=Q } (start N vs) H):FnOk P w K mg base CX0 (k+1) f fd ps sp:=by
 obtain ⟨oc,od,kV,doc,pm,an,cdv,ct,osl,rfl,lk,hcd⟩:=F.ex;refine zmv lk hcd S len fun A outer s H vs Q E hr hsp=>?_;obtain ⟨t,h,q⟩:=hbody cdv A outer s H vs Q E hr hsp;exact ⟨t,h.nox,q⟩
theorem Fun.binds {x qual:Str} {st:Stmt} {f:Addr} {fd:FuncData} {ps:List Str} (F:Fun K x qual st f fd)
  (h:∀ (kV doc pm:Value) (an:Option Addr) (cdv ct:Value) (us:List Value),us.length=ps.length→bindArgs (PySem.W.fnOf x qual (zan st) (zal st) (zab st) .none kV doc pm an cdv ct) ⟨us,[]⟩=pure (ps.zip us)):Binds K fd ps []:=by
 obtain ⟨oc,od,kV,doc,pm,an,cdv,ct,osl,rfl,lk,hcd⟩:=F.ex;exact .all (h kV doc pm an cdv ct)
theorem zav {x qual:Str} {st:Stmt} {f:Addr} {oc:Value} {od an:Option Addr} {osl:Array (Option Value)} {kV doc pm cdv ct:Value} (l:K.lookup f=some ⟨oc,od,.func (PySem.W.fnOf x qual (zan st) (zal st) (zab st) .none kV doc pm an cdv ct),osl⟩)
  (c:PySem.W.codeIn K cdv qual=true) (k:PySem.W.keepIn K (.ref f)=true):Fun K x qual st f (PySem.W.fnOf x qual (zan st) (zal st) (zab st) .none kV doc pm an cdv ct):=⟨⟨oc,od,kV,doc,pm,an,cdv,ct,osl,rfl,l,c⟩,k⟩
end
theorem zeX {A:Around} {k:Nat} (hr:Room k A):A.units+1 < cLine:=Nat.lt_of_le_of_lt (Nat.add_le_add_left (by decide:1≤64) _) hr.units
theorem zaK {n:Nat} (h:n≤1000):n < sizeLine:=Nat.lt_of_le_of_lt h (by decide)
section
variable {X:Cx}
theorem pv (i:Nat) {x:Str} {pos:Pos} (hN:X.N[i]? = some x:=by rfl) (hv:Vis X.env.scope x:=by first | exact Or.inl rfl | exact Or.inr (Or.inl rfl) | exact Or.inr (Or.inr rfl)) (hd:(x == ("__debug__" : Str))=false:=by decide)
  (hcd:(x == ("__classdict__" : Str))=false:=by decide):PE X (.Name x pos) (tVar i):=zmf hN hv hd hcd
end
theorem iteF {A B:Prop} (h:B):if false=true then A else B:=by
 rw [if_neg Bool.false_ne_true];exact h
theorem iteT {A B:Prop} (h:A):if true=true then A else B:=by
 rw [if_pos rfl];exact h
def Same (H H':Hp):Prop:=∀ b o,H b=some o→H' b=some o
theorem Same.refl (H:Hp):Same H H:=fun _ _ h=>h
theorem Same.trans {H H1 H2:Hp} (a:Same H H1) (b:Same H1 H2):Same H H2:=fun c o h=>b c o (a c o h)
theorem Same.free {H H':Hp} (e:Same H H') {l:Addr} (h:H' l=Option.none):H l=Option.none:=by
 cases q:H l with
 | none=>rfl
 | some o =>
   rw [e l o q] at h
   cases h
theorem Same.seq {K:PySem.W.Frag} {H H':Hp} {a:Addr} {xs:List V} (e:Same H H') (h:SqL K H a xs):SqL K H' a xs:=by
 rcases h with (h | ⟨o,h⟩) | h
 ·exact .inl (.inl (e _ _ h))
 ·exact .inl (.inr ⟨o,e _ _ h⟩)
 ·exact .inr h
end L2
namespace L2
open PySem PySem.Spec PyProof.Rows
section
variable {κ:Type} [DecidableEq κ]
def valV (kvs:List (κ×V)) (k:κ):Option V:=(kvs.find? fun kv=>decide (kv.1=k)).map (·.2)
def putK (kvs:List (κ×V)) (k:κ) (v:V):List (κ×V) :=
 if (kvs.any fun kv=>decide (kv.1=k))=true then kvs.map (fun kv=>if kv.1=k then (kv.1,v) else kv) else kvs++[(k,v)]
theorem zd9 {p:κ×V} {r:List (κ×V)} {k:κ} (e:p.1=k):valV (p::r) k=some p.2:=by simp [valV,List.find?_cons,e]
theorem zea {p:κ×V} {r:List (κ×V)} {k:κ} (e:¬p.1=k):valV (p::r) k=valV r k:=by simp [valV,List.find?_cons,e]
theorem zft (k:κ):∀ kvs:List (κ×V),(kvs.any fun kv=>decide (kv.1=k))=(valV kvs k).isSome
 | []=>rfl
 | p::r=>by
   rw [List.any_cons]
   by_cases e:p.1=k
   ·simp only [zd9 e,decide_eq_true e,Bool.true_or,Option.isSome_some]
   ·rw [zea e,decide_eq_false e,Bool.false_or];exact zft k r
theorem zen (kvs:List (κ×V)) (k:κ) (v:V):(putK kvs k v).length≤kvs.length+1:=by
 unfold putK;split
 ·rw [List.length_map];omega
 ·rw [List.length_append,List.length_cons,List.length_nil];omega
theorem zj5 {kvs:List (κ×V)} {k:κ} (v:V) (h:valV kvs k=none):putK kvs k v=kvs++[(k,v)]:=by
 unfold putK;rw [zft,h];exact if_neg (by decide)
theorem RelO.isSome_eq {o:Option V} {u:Option Value} (r:RelO o u):o.isSome=u.isSome:=by
 cases o with
 | none=>cases u with
   | none=>rfl
   | some _=>exact (show False from r).elim
 | some _=>cases u with
   | none=>exact (show False from r).elim
   | some _=>rfl
theorem KV.val {kvs:List (κ×V)} {vs:List (κ×Value)} (r:KV kvs vs) (k:κ):RelO (valV kvs k) (valueAt vs k):=by
 unfold KV at r
 induction r with
 | nil=>exact True.intro
 | @cons p q ps qs h t ih =>
   obtain ⟨h1,h2⟩:=h
   by_cases e:p.1=k
   ·have e':q.1=k:=h1.symm.trans e;have b:valueAt (q::qs) k=some q.2:=by simp [valueAt,List.find?_cons,e']
    rw [zd9 e,b];exact h2
   ·have e':¬q.1=k:=fun z=>e (h1.trans z);have b:valueAt (q::qs) k=valueAt qs k:=by simp [valueAt,List.find?_cons,e']
    rw [zea e,b];exact ih
theorem KV.any {kvs:List (κ×V)} {vs:List (κ×Value)} (r:KV kvs vs) (k:κ):(kvs.any fun kv=>decide (kv.1=k))=vs.any fun kv=>decide (kv.1=k):=by
 unfold KV at r
 induction r with
 | nil=>rfl
 | cons h t ih=>rw [List.any_cons,List.any_cons,ih,h.1]
theorem KV.repl {kvs:List (κ×V)} {vs:List (κ×Value)} (r:KV kvs vs) (k:κ) {y:V} {u:Value} (ry:RelV y u) :
  KV (kvs.map fun kv=>if kv.1=k then (kv.1,y) else kv) (vs.map fun kv=>if kv.1=k then (kv.1,u) else kv):=by
 unfold KV at r ⊢
 induction r with
 | nil=>exact .nil
 | @cons p q ps qs h t ih =>
   rw [List.map_cons,List.map_cons];refine .cons ?_ ih;obtain ⟨h1,h2⟩:=h
   by_cases e:p.1=k
   ·rw [if_pos e,if_pos (h1.symm.trans e)];exact ⟨h1,ry⟩
   ·rw [if_neg e,if_neg (fun z=>e (h1.trans z))];exact ⟨h1,h2⟩
theorem KV.put {kvs:List (κ×V)} {vs:List (κ×Value)} (r:KV kvs vs) (k:κ) {y:V} {u:Value} (ry:RelV y u):KV (putK kvs k y) (stored vs k u):=by
 unfold putK stored;rw [r.any k]
 by_cases e:(vs.any fun kv=>decide (kv.1=k))=true
 ·rw [if_pos e,if_pos e];exact r.repl k ry
 ·rw [if_neg e,if_neg e];exact Paired.snoc r ⟨rfl,ry⟩
theorem KV.length {kvs:List (κ×V)} {vs:List (κ×Value)} (r:KV kvs vs):kvs.length=vs.length:=Paired.length r
end
theorem zj6 {P:Program} {w:World} {k:Key} {u:Value} (r:RelV (kV k) u):(zbv P w).is k u=true:=by
 cases k with
 | inl i=>obtain ⟨t,e⟩:=(show ∃ t,u=Value.int i t from r);subst e;exact zgx P w i t
 | inr x=>obtain ⟨t,e⟩:=(show ∃ t,u=Value.str x t from r);subst e;exact zgy P w x t
theorem zfV {P:Program} {w:World}:∀ {ks:List Key} {us:List Value},Vals (ks.map kV) us→ItemsAre (zbv P w) ks us
 | [],_,r=>by rw [List.map_nil] at r;cases r;exact .nil
 | k::ks,_,r=>by
   rw [List.map_cons] at r
   cases r with
   | cons h t=>exact .cons (zj6 h) (zfV t)
abbrev KT (H:Hp):List (List Key×V)→List (List Key×Addr×Value)→Prop:=Paired fun p q=>p.1=q.1∧H q.2.1=some (.tup (p.1.map kV))∧RelV p.2 q.2.2
theorem KT.val {H:Hp} {kvs:List (List Key×V)} {xs:List (List Key×Addr×Value)} (r:KT H kvs xs) (k:List Key):RelO (valV kvs k) ((atKey xs k).map (·.2)):=by
 induction r with
 | nil=>exact True.intro
 | @cons p q ps qs h t ih =>
   obtain ⟨h1,_,h2⟩:=h
   by_cases e:p.1=k
   ·have e':q.1=k:=h1.symm.trans e;have b:atKey (q::qs) k=some q.2:=by simp [atKey,List.find?_cons,e']
    rw [zd9 e,b];exact h2
   ·have e':¬q.1=k:=fun z=>e (h1.trans z);have b:atKey (q::qs) k=atKey qs k:=by simp [atKey,List.find?_cons,e']
    rw [zea e,b];exact ih
theorem KT.repl {H:Hp} {kvs:List (List Key×V)} {xs:List (List Key×Addr×Value)} (r:KT H kvs xs) (k:List Key) {y:V} {u:Value} (ry:RelV y u) :
  KT H (kvs.map fun kv=>if kv.1=k then (kv.1,y) else kv) (xs.map (putAt k u)):=by
 induction r with
 | nil=>exact .nil
 | @cons p q ps qs h t ih =>
   rw [List.map_cons,List.map_cons];refine .cons ?_ ih;obtain ⟨h1,h2,h3⟩:=h;unfold putAt
   by_cases e:p.1=k
   ·rw [if_pos e,if_pos (h1.symm.trans e)];exact ⟨h1,h2,ry⟩
   ·rw [if_neg e,if_neg (fun z=>e (h1.trans z))];exact ⟨h1,h2,h3⟩
theorem KT.put {H:Hp} {kvs:List (List Key×V)} {xs:List (List Key×Addr×Value)} (r:KT H kvs xs) (k:List Key) {b:Addr} {y:V} {u:Value} (hb:H b=some (.tup (k.map kV))) (ry:RelV y u) :
  KT H (putK kvs k y) (storedH xs k b u):=by
 have e:(kvs.any fun kv=>decide (kv.1=k))=(atKey xs k).isSome:=by
  rw [zft,(r.val k).isSome_eq,Option.isSome_map]
 unfold putK storedH;rw [e]
 by_cases q:(atKey xs k).isSome=true
 ·rw [if_pos q,if_pos q];exact r.repl k ry
 ·rw [if_neg q,if_neg q];exact Paired.snoc r ⟨rfl,hb,ry⟩
theorem KT.keeps {H H':Hp} {kvs:List (List Key×V)} {xs:List (List Key×Addr×Value)} (r:KT H kvs xs) (ht:∀ b ys,H b=some (.tup ys)→H' b=some (.tup ys)):KT H' kvs xs :=
 Paired.mapP r fun _ _ z=>⟨z.1,ht _ _ z.2.1,z.2.2⟩
section
variable {P:Program} {w:World} {H:Hp} {h:Heap} {a:Addr}
theorem zmy {u:HO} (ok:HOk P w H h) (e:Rd H a u):zbD P w H h a u:=e.ok ok
theorem zls {kvs:List (Key×V)} (ok:HOk P w H h) (e:Rd H a (.dK kvs)):kvs.length≤sizeLine∧(a == sysModules)=false∧∃ vs,KV kvs vs∧h.DictOf (zbv P w) a vs :=
 show zbD P w H h a (.dK kvs) from zmy ok e
theorem znV {kvs:List (Key×V)} (ok:HOk P w H h) (e:H a=some (.dK kvs)):kvs.length≤sizeLine∧(a == sysModules)=false∧∃ vs,KV kvs vs∧h.DictOf (zbv P w) a vs:=zls ok (.inl e)
theorem zhg {ks:List Key} (ok:HOk P w H h) (e:H a=some (.tup (ks.map kV))):(tupleKind (zbv P w)).is h ks a:=by
 obtain ⟨_,its,r,o,h1,h2,n,h3⟩:=(show zbD P w H h a (.tup (ks.map kV)) from ok a _ e)
 exact ⟨o,its.toArray,n,h1,h2,h3,by simpa using zfV r⟩
theorem zlt {kvs:List (List Key×V)} (ok:HOk P w H h) (e:Rd H a (.dT kvs)):kvs.length≤sizeLine∧(a == sysModules)=false ∧
  ∃ xs,KT H kvs xs∧h.DictOfH (tupleKind (zbv P w)) a xs:=by
 obtain ⟨z,y,xs,r,o,es,ep,h1,h2,h3,h4,h5⟩:=(show zbD P w H h a (.dT kvs) from zmy ok e)
 refine ⟨z,y,xs,r,o,es,ep,h1,h2,h3,h4,fun x hx=>?_,h5⟩;have all:∀ {l:List (List Key×V)} {m:List (List Key×Addr×Value)},KT H l m→∀ x∈m,(tupleKind (zbv P w)).is h x.1 x.2.1:=by
  intro l m q
  induction q with
  | nil=>intro x hx;exact nomatch hx
  | @cons p q ps qs hq t ih =>
    intro x hx;rcases List.mem_cons.mp hx with e | hx
    ·subst e;exact zhg ok (by rw [← hq.1];exact hq.2.1)
    ·exact ih x hx
 exact all r x hx
theorem znW {kvs:List (List Key×V)} (ok:HOk P w H h) (e:H a=some (.dT kvs)):kvs.length≤sizeLine∧(a == sysModules)=false ∧
  ∃ xs,KT H kvs xs∧h.DictOfH (tupleKind (zbv P w)) a xs:=zlt ok (.inl e)
end
def DGet (H:Hp) (a:Addr) (y:V) (r:Option V):Prop :=
 (∃ kvs k,Rd H a (.dK kvs)∧y=kV k∧r=valV kvs k)∨∃ kvs k b,Rd H a (.dT kvs)∧y=.ref b∧H b=some (.tup (k.map kV))∧r=valV kvs k
def DPut (H:Hp) (a:Addr) (y v:V) (H':Hp):Prop :=
 (∃ kvs k,H a=some (.dK kvs)∧y=kV k∧kvs.length < sizeLine∧H'=upd H a (.dK (putK kvs k v))) ∨
 ∃ kvs k b,H a=some (.dT kvs)∧y=.ref b∧H b=some (.tup (k.map kV))∧kvs.length < sizeLine∧H'=upd H a (.dT (putK kvs k v))
theorem DGet.k {H:Hp} {a:Addr} {kvs:List (Key×V)} {k:Key} (e:H a=some (.dK kvs)):DGet H a (kV k) (valV kvs k):=.inl ⟨kvs,k,.inl e,rfl,rfl⟩
theorem DPut.k {H:Hp} {a:Addr} {kvs:List (Key×V)} {k:Key} {v:V} (e:H a=some (.dK kvs)) (hl:kvs.length < sizeLine):DPut H a (kV k) v (upd H a (.dK (putK kvs k v))):=.inl ⟨kvs,k,e,rfl,hl,rfl⟩
section
variable {X:Cx} {pins:List (Addr×Obj)} {σ:St} {H:Hp} {s:Shared} {a:Addr} {y v:V} {u r:Value} {o:Option V} {A:Around} {E:Value→Shared→Prop}
theorem Inv.big (I:Inv X pins σ H s):sysModules < s.heap.objs.size:=by
 have h:mainGlobals < s.heap.objs.size:=(I.mod.glob.keeps I.bk).lt;exact Nat.lt_trans (by decide) h
theorem d_in {Q:Value→Shared→Prop} (hu:A.units+1 < cLine) (I:Inv X pins σ H s) (g:DGet H a y o) (ry:RelV y u) (h:∀ s',Inv X pins σ H s'→Q (.bool o.isSome) s') :
  wpAny (model X.prog X.w) A (compareOp .In u (.ref a)) Q E s:=by
 rcases g with ⟨kvs,k,e,ey,l⟩ | ⟨kvs,k,b,e,ey,eb,l⟩
 ·subst ey;obtain ⟨z,hd,vs,rel,dd⟩:=zls I.hok e;refine wpAny_in_of (zj6 ry) hd dd.mapOf ?_;rw [← (rel.val k).isSome_eq,← l];exact h _ (I.tok _)
 ·subst ey
  cases (show u=Value.ref b from ry)
  obtain ⟨z,hd,xs,rel,dd⟩:=zlt I.hok e;refine wpAny_in_heap (tupleKind_room_in1 hu) (zhg I.hok eb) hd dd ?_;have q:=(rel.val k).isSome_eq;rw [Option.isSome_map] at q;rw [← q,← l];exact h _ (I.tok _)
theorem zlu {Q:Value→Shared→Prop} (hu:A.units+1 < cLine) (I:Inv X pins σ H s) (g:DGet H a y o) (ry:RelV y u) (h:∀ s',Inv X pins σ H s'→Q (.bool (!o.isSome)) s') :
  wpAny (model X.prog X.w) A (compareOp .NotIn u (.ref a)) Q E s:=by
 rcases g with ⟨kvs,k,e,ey,l⟩ | ⟨kvs,k,b,e,ey,eb,l⟩
 ·subst ey;obtain ⟨z,hd,vs,rel,dd⟩:=zls I.hok e;refine wpAny_notIn_of (zj6 ry) hd dd.mapOf ?_;rw [← (rel.val k).isSome_eq,← l];exact h _ (I.tok _)
 ·subst ey
  cases (show u=Value.ref b from ry)
  obtain ⟨z,hd,xs,rel,dd⟩:=zlt I.hok e;refine wpAny_notIn_heap (tupleKind_room_in1 hu) (zhg I.hok eb) hd dd ?_;have q:=(rel.val k).isSome_eq;rw [Option.isSome_map] at q;rw [← q,← l];exact h _ (I.tok _)
theorem ziI {h':Heap} {t':Nat} {ob:HO} (I:Inv X pins σ H s) (mu:Mut (H a)) (hs:Heap.SameBut a s.heap h') (he:∃ q,h'.get? a=some q) (new:zbD X.prog X.w (upd H a ob) h' a ob) :
  Inv X pins σ (upd H a ob) { s with heap:=h',toks:=t' } :=
 I.write (x:=a) (e:=a) mu (.inl rfl) (fun b q hb z=>(hs.2 b hb).trans z) he new
theorem zmz {P:Program} {w:World} {H':Hp} {h':Heap} {kvs:List (Key×V)} {vs:List (Key×Value)} (z:kvs.length≤sizeLine) (hd:(a == sysModules)=false) (rel:KV kvs vs) (dd:h'.DictOf (zbv P w) a vs) :
  zbD P w H' h' a (.dK kvs):=⟨z,hd,vs,rel,dd⟩
theorem ziJ {H':Hp} {Q:Unit→Shared→Prop} (hu:A.units+1 < cLine) (I:Inv X pins σ H s) (g:DPut H a y v H') (ry:RelV y u) (rv:RelV v r) (h:∀ s',Inv X pins σ H' s'→Q () s') :
  wpAny (model X.prog X.w) A (setItem (.ref a) u r) Q E s:=by
 rcases g with ⟨kvs,k,e,ey,l,eH⟩ | ⟨kvs,k,b,e,ey,eb,l,eH⟩
 ·subst ey eH;obtain ⟨z,hd,vs,rel,dd⟩:=znV I.hok e;have hz:vs.length≤sizeLine:=by rw [← rel.length];exact z
  have hl:(putK kvs k v).length≤sizeLine:=by have:=zen kvs k v;omega
  refine wpAny_setItem_pairs (hsz:=hz) (zj6 ry) dd fun h' dd' hs=>h _ ?_;have he:∃ q,h'.get? a=some q:=let ⟨q,_,_,hq,_⟩:=dd';⟨q,hq⟩;exact ziI I (by rw [e];exact True.intro) hs he (zmz hl hd (rel.put k rv) dd')
 ·subst ey eH
  cases (show u=Value.ref b from ry)
  obtain ⟨z,hd,xs,rel,dd⟩:=znW I.hok e;have hz:xs.length≤sizeLine:=by rw [← Paired.length rel];exact z
  have hl:(putK kvs k v).length≤sizeLine:=by have:=zen kvs k v;omega
  refine wpAny_setItem_heap (hsz:=hz) (tupleKind_room_in1 hu) (zhg I.hok eb) dd fun h' dd' hs=>h _ ?_;obtain ⟨q,es,ep,hq,h2,h3,h4,_,h5⟩:=dd';refine ziI I (by rw [e];exact True.intro) hs ⟨q,hq⟩ ⟨hl,hd,_,(rel.put k eb rv).keeps fun c ys ec=>?_,q,es,ep,hq,h2,h3,h4,h5⟩;rw [zaJ (znT ec e (fun z=>nomatch z))];exact ec
end
section
variable {X:Cx} {pins:List (Addr×Obj)} {σ:St} {H:Hp} {s:Shared} {a:Addr} {kvs:List (Key×V)} {k:Key} {u:Value} {A:Around} {E:Value→Shared→Prop}
end
def tDIn (ty td:TE):TE:=fun σ H Q=>ty σ H fun y H1=>td σ H1 fun x H2=>∃ a o,x=.ref a∧DGet H2 a y o∧Q (.bl o.isSome) H2
def ziK (ty td:TE):TE:=fun σ H Q=>ty σ H fun y H1=>td σ H1 fun x H2=>∃ a o,x=.ref a∧DGet H2 a y o∧Q (.bl (!o.isSome)) H2
def zmA (td ty tv:TE):TS:=fun D σ H=>tv σ H fun v H1=>td σ H1 fun x H2=>ty σ H2 fun y H3=>∃ a H4,x=.ref a∧DPut H3 a y v H4∧D.nx σ H4
section
variable {X:Cx} {o i e value:Expr} {pos pos' tpos:Pos} {td ty tv:TE}
theorem zmB (hu:X.A.units+1 < cLine) (hi:PE X i ty) (ho:PE X o td):PC X .In i o (tDIn ty td):=by
 intro pins s σ H Q I h;refine thn (hi pins s σ H _ I h) fun iv s1 ⟨y,H1,I1,ry,q1⟩=>thn (ho pins s1 σ H1 _ I1 q1) fun u s2 ⟨x,H2,I2,rx,a,ov,ex,g,q2⟩=>?_;subst ex;obtain rfl:u=Value.ref a:=rx;exact d_in hu I2 g ry fun s3 I3=>⟨.bl ov.isSome,H2,I3,rfl,q2⟩
theorem ziL (hu:X.A.units+1 < cLine) (hi:PE X i ty) (ho:PE X o td):PC X .NotIn i o (ziK ty td):=by
 intro pins s σ H Q I h;refine thn (hi pins s σ H _ I h) fun iv s1 ⟨y,H1,I1,ry,q1⟩=>thn (ho pins s1 σ H1 _ I1 q1) fun u s2 ⟨x,H2,I2,rx,a,ov,ex,g,q2⟩=>?_;subst ex;obtain rfl:u=Value.ref a:=rx;exact zlu hu I2 g ry fun s3 I3=>⟨.bl (!ov.isSome),H2,I3,rfl,q2⟩
theorem zlv (hu:X.A.units+1 < cLine) (ho:PE X o td) (hi:PE X i ty) (hv:PE X value tv) (hs:swapsWith value (some (.Subscript o i pos')) pos.line X.env=pure false) :
  PS X (.Assign [.Subscript o i pos'] value pos) (zmA td ty tv):=by
 intro pins s σ H D I h;refine wpAny_Assign_Subscript (thn (hv pins s σ H _ I h) fun r s1 ⟨v,H1,I1,rv,q1⟩=>thn (ho pins s1 σ H1 _ I1 q1) fun u s2 ⟨x,H2,I2,rx,q2⟩=>thn (hi pins s2 σ H2 _ I2 q2) fun iv s3 ⟨y,H3,I3,ry,a,H4,ex,g,q3⟩=>?_) hs;subst ex;obtain rfl:u=Value.ref a:=rx;exact ziJ hu I3 g ry rv fun s4 I4=>⟨σ,H4,I4,q3⟩
end
theorem zj7 {P:Program} {w:World} {H:Hp} (h:Heap) (hb:sysModules < h.objs.size):zbD P w H (h.push { cls:=.type "dict",data:=.dict #[] }) h.objs.size (.dK []) :=
 ⟨Nat.zero_le _,beq_eq_false_iff_ne.mpr (Ne.symm (Nat.ne_of_lt hb)),[],.nil,Heap.DictOf.new h⟩
def tDNewK:TE:=fun _ H Q=>∀ p,H p=none→Q (.ref p) (upd H p (.dK []))
section
variable {X:Cx} {pos:Pos}
theorem pe_dnewK:PE X (.Dict [] [] pos) tDNewK:=fun pins s σ H Q I h =>
 wpAny_Dict_empty ⟨.ref s.heap.objs.size,_,I.laid (a:=s.heap.objs.size) (o:=.dK []) (t':=s.toks) (fun _ _ q=>Heap.get?_push_of_some _ q) (Nat.le_refl _) (zj7 s.heap I.big),rfl,h _ (I.hok.fresh (Nat.le_refl _))⟩
end
end L2
namespace L2
open PySem PySem.Spec PyProof.Rows
section
variable {prog:Program} {w:World} {A:Around} {R:Result -> Shared -> Prop} {s:Shared}
theorem zfW {elt target iter:Expr} {ifs:List Expr} {scope:Scope} {pos:Pos} {it acc:Value} {env:Env} (I:Nat→Shared→Prop)
  (turn:∀ n s,I n s→wpAny (model prog w) A (pyNext it) (fun r s1=>match r with
   | none=>R (.ok .next) s1
   | some v=>wpAny (model prog w) A (letOwnedTupleGo target it v) (fun _ s1'=>wpAny (model prog w) A (assign target env v) (fun _ s2 =>
      wpAny (model prog w) A (forIn ifs true fun c r=>if r=true then do let ok ← isTrue c env (eval c env);pure (ForInStep.yield ok) else pure (ForInStep.yield r)) (fun ok s3 =>
       if ok=true then wpAny (model prog w) A (eval elt env) (fun x s4 =>
        wpAny (model prog w) A (call (.builtin "list.append") [acc,x]) (fun _ s5=>∃ m,m < n∧I m s5) (fun _ _=>False) s4) (fun _ _=>False) s3
       else ∃ m,m < n∧I m s3) (fun _ _=>False) s2) (fun _ _=>False) s1') (fun _ _=>False) s1) (fun _ _=>False) s)
  (n:Nat) (h:I n s) :
  codeAny (model prog w) A (.compLoop (.ListComp elt [⟨target,iter,ifs,0⟩] scope pos) 0 it acc env) R s:=by
 refine codeAny_loop rfl I (fun n s hI=>?_) n h;show wpAny _ A ((compTurn (.ListComp elt [⟨target,iter,ifs,0⟩] scope pos) 0 it acc env).onRaise (fun x=>do noteFrame x env;theTreesLotGoes x)) _ _ s;refine wpAny_noted ?_;rw [compTurn_list];refine wpAny_bind (wpAny_standAt (wpAny_bind (wpAny_mono (turn n s hI) (fun r s1 h1=>?_) fun _ _ z=>z.elim)))
 cases r with
 | none=>exact wpAny_pure h1
 | some v =>
   refine wpAny_bind (wpAny_mono h1 (fun _ s1' h1'=>?_) fun _ _ z=>z.elim);refine wpAny_bind (wpAny_mono h1' (fun _ s2 h2=>wpAny_bind (wpAny_mono h2 (fun ok s3 h3=>?_) fun _ _ z=>z.elim)) fun _ _ z=>z.elim)
   cases ok with
   | false=>exact wpAny_pure ⟨rfl,h3⟩
   | true =>
     exact wpAny_bind (wpAny_bind (wpAny_mono h3 (fun x s4 h4=>wpAny_bind (wpAny_mono h4 (fun _ s5 h5=>wpAny_pure (wpAny_pure ⟨rfl,h5⟩)) fun _ _ z=>z.elim)) fun _ _ z=>z.elim))
end
def PTs (X:Cx) (ifs:List Expr) (t:TT):Prop :=
 ∀ (pins:List (Addr×Obj)) (s:Shared) (σ:St) (H:Hp) (Q:Bool→Hp→Prop),Inv X pins σ H s→t σ H Q →
  wpAny (model X.prog X.w) X.A (forIn ifs true fun c r=>if r=true then do let ok ← isTrue c X.env (eval c X.env);pure (ForInStep.yield ok) else pure (ForInStep.yield r)) (TP X pins σ Q) X.xe s
def tTT:TT:=fun _ H Q=>Q true H
theorem zaT {X:Cx}:PTs X [] tTT:=fun pins s σ H Q I h=>wpAny_tests_nil ⟨H,I,h⟩
theorem zcH {X:Cx} {c:Expr} {t:TT} (h:PT X c t):PTs X [c] t:=fun pins s σ H Q I q=>wpAny_tests_one (h pins s σ H Q I q)
def Cx.comp (X:Cx) (scope:Scope) (cl:List (Str×Addr)) (C:Addr) (N:List Str) (s:Shared) (H:Hp) (fp:List Addr):Cx where
 prog:=X.prog
 w:=X.w
 K:=X.K
 mg:=X.mg
 base:=X.base
 A:=X.A
 N:=N
 s₀:=s
 H₀:=H
 env:=compEnvC scope cl C X.env
 outer:=X.stack
 stack:=X.stack
 ex:=fp
 fn:=fun _=>false
 calm:=X.calm
 pn:=[]
 xe:=fun _ _=>False
def zbq (names:List (Str×NameKind)) (env:Env) (acc:List (Str×Addr)):List (Str×Addr) :=
 names.foldl (fun cs x=>if x.2 == .free then match env.cells.lookup x.1 with | some c=>(x.1,c)::cs | none=>cs else cs) acc
theorem zdl {scope:Scope} {env:Env} (h:∀ x∈scope.names,x.2=.free→∃ c,env.cells.lookup x.1=some c):closureFor scope env=pure (zbq scope.names env []):=by
 have go:∀ (names:List (Str×NameKind)) (acc:List (Str×Addr)),(∀ x∈names,x.2=.free→∃ c,env.cells.lookup x.1=some c) →
   (forIn (m:=Sem) names acc fun x r=>if (x.2 == NameKind.free)=true then do let y ← cellOf env x.1;pure (ForInStep.yield ((x.1,y)::r)) else pure (ForInStep.yield r))=pure (zbq names env acc):=by
  intro names
  induction names with
  | nil=>intro acc _;rfl
  | cons x r ih =>
    intro acc hx;obtain ⟨n,k⟩:=x;rw [List.forIn_cons];have ihr:=fun acc=>ih acc fun y hy=>hx y (List.mem_cons_of_mem _ hy)
    by_cases hk:k=.free
    ·subst hk;obtain ⟨c,hc⟩:=hx (n,.free) List.mem_cons_self rfl;have e:cellOf env n=pure c:=by unfold cellOf;rw [show env.cells.lookup n=some c from hc]
     have e2:zbq ((n,NameKind.free)::r) env acc=zbq r env ((n,c)::acc):=by
      unfold zbq;rw [List.foldl_cons];simp only [beq_self_eq_true,if_true];rw [show env.cells.lookup n=some c from hc]
     rw [e2,← ihr];simp only [beq_self_eq_true,if_true,e,pure_bind]
    ·have hb:(k == NameKind.free)=false:=by simpa using hk
     have e2:zbq ((n,k)::r) env acc=zbq r env acc:=by
      unfold zbq;rw [List.foldl_cons];simp only [hb,Bool.false_eq_true,if_false]
     rw [e2,← ihr];simp only [hb,Bool.false_eq_true,if_false,pure_bind]
 unfold closureFor;have:=go scope.names [] h;simp only [pure_bind,bind_pure] at this ⊢;exact this
theorem zfb {env:Env}:∀ (names:List (Str×NameKind)) (acc:List (Str×Addr)),(∀ x c,acc.lookup x=some c→env.cells.lookup x=some c)→∀ x c,(zbq names env acc).lookup x=some c→env.cells.lookup x=some c:=by
 intro names
 induction names with
 | nil=>intro acc h x c e;exact h x c e
 | cons y r ih =>
   intro acc h x c e;unfold zbq at e;rw [List.foldl_cons] at e;refine ih _ ?_ x c e;intro z d hz
   by_cases hk:(y.2 == NameKind.free)=true
   ·rw [if_pos hk] at hz
    cases hc:env.cells.lookup y.1 with
    | none=>rw [hc] at hz;exact h z d hz
    | some a =>
      rw [hc] at hz;simp only [List.lookup_cons] at hz
      by_cases hzy:(z == y.1)=true
      ·rw [hzy] at hz;have:z=y.1:=by simpa using hzy
       rw [this,hc];exact hz
      ·have:(z == y.1)=false:=by simpa using hzy
       rw [this] at hz;exact h z d hz
   ·rw [if_neg hk] at hz;exact h z d hz
theorem zfc {env:Env}:∀ (names:List (Str×NameKind)) (acc:List (Str×Addr)) (x:Str),((∃ c,acc.lookup x=some c)∨((x,NameKind.free)∈names∧∃ c,env.cells.lookup x=some c))→∃ c,(zbq names env acc).lookup x=some c:=by
 intro names
 induction names with
 | nil=>intro acc x h;rcases h with h | h;exact h;exact absurd h.1 (by simp)
 | cons y r ih =>
   intro acc x h;unfold zbq;rw [List.foldl_cons];refine ih _ x ?_
   by_cases hk:(y.2 == NameKind.free)=true
   ·rw [if_pos hk]
    cases hc:env.cells.lookup y.1 with
    | none =>
      rcases h with h | ⟨h,h2⟩
      ·exact .inl h
      ·rcases List.mem_cons.mp h with e | e
       ·subst e;rw [hc] at h2;obtain ⟨_,h2⟩:=h2;cases h2
       ·exact .inr ⟨e,h2⟩
    | some a =>
      simp only [List.lookup_cons]
      by_cases hzy:(x == y.1)=true
      ·exact .inl ⟨a,by rw [hzy]⟩
      ·have hf:(x == y.1)=false:=by simpa using hzy
       rw [hf];rcases h with h | ⟨h,h2⟩
       ·exact .inl h
       ·rcases List.mem_cons.mp h with e | e
        ·subst e;simp at hf
        ·exact .inr ⟨e,h2⟩
   ·rw [if_neg hk];rcases h with h | ⟨h,h2⟩
    ·exact .inl h
    ·rcases List.mem_cons.mp h with e | e
     ·subst e;simp at hk
     ·exact .inr ⟨e,h2⟩
def capS (own:Nat) (js:List Nat) (σ:St):St:=List.replicate own none++js.map fun j=>(σ[j]?).getD none
def zgD (wi:TI) (own:Nat) (js:List Nat) (g:TG) (tc:TT) (te:TE):TE:=fun σ H Q=>wi σ H fun J H1=>∀ p,H1 p=none →
 ∃ W:Nat→Nat→St→Hp→Prop,(∃ m,W 0 m (capS own js σ) (upd H1 p (.lst [])))∧∀ i m σc H,W i m σc H →
  (J.stop i H∧Q (.ref p) H)∨(J.go i H∧∃ N:St→Hp→Prop,(∀ σ' H',N σ' H'→∃ m',m' < m∧W (i+1) m' σ' H')∧∀ x H',J.yld i H x H' →
   g x σc H' fun σ2 H2=>tc σ2 H2 fun b H3=>if b=true then te σ2 H3 fun v H4=>∃ ys,H4 p=some (.lst ys)∧ys.length < sizeLine∧N σ2 (upd H4 p (.lst (ys++[v]))) else N σ2 H3)
structure zcI (X:Cx) (scope:Scope) (N:List Str) (own:Nat) (js:List Nat):Prop where
 kind:scope.kind=.function
 nocell:∀ y∈scope.names,y.2≠.cell
 nodup:∀ y∈scope.names,y.2=.local→scope.names.lookup y.1=some .local
 free:∀ y∈scope.names,y.2=.free→X.env.kindOf y.1=some .cell∨X.env.kindOf y.1=some .free
 len:N.length=own+js.length
 cap:∀ (i:Nat) (j:Nat),js[i]? = some j→N[own+i]? = X.N[j]?∧∀ x,X.N[j]? = some x→scope.names.lookup x=some .free∧Vis X.env.scope x∧X.env.kindOf x≠some .local
section
variable {X:Cx} {tg elt iter:Expr} {ifs:List Expr} {scope:Scope} {pos:Pos} {N:List Str} {own:Nat} {js:List Nat} {wi:TI} {g:TG} {tc:TT} {te:TE}
theorem zb6 {env:Env} {names:List (Str×NameKind)} {x:Str} {k:NameKind} (hk:k=.cell∨k=.free) (hnc:∀ y∈names,y.2≠.cell)
  (h:(names.map fun (n,k)=>if (k == NameKind.free && env.scope.kind == .function && env.kindOf n == some .cell) then (n,NameKind.cell) else (n,k)).lookup x=some k):(x,NameKind.free)∈names:=by
 have:=PySem.mem_of_lookup h;obtain ⟨⟨n,k'⟩,hm,e⟩:=List.mem_map.mp this;dsimp only at e;split at e
 ·rename_i hc
  cases e
  have:k'=.free:=by
   simp only [Bool.and_eq_true,beq_iff_eq] at hc;exact hc.1.1
  rw [← this];exact hm
 ·cases e
  rcases hk with rfl | rfl
  ·exact absurd rfl (hnc _ hm)
  ·exact hm
theorem zbK {env:Env}:∀ {names:List (Str×NameKind)} {x:Str},names.lookup x=some .free →
  (names.map fun (n,k)=>if (k == NameKind.free && env.scope.kind == .function && env.kindOf n == some .cell) then (n,NameKind.cell) else (n,k)).lookup x=some .local→False
 | [],_,h,_=>by simp at h
 | (n,k)::r,x,h,h'=>by
  have ih:=@zbK env r x
  cases hx:x == n with
  | true =>
    simp only [List.lookup_cons,hx] at h
    cases h
    rw [List.map_cons] at h';dsimp only at h';split at h' <;> simp [List.lookup_cons,hx] at h'
  | false =>
    simp only [List.lookup_cons,hx] at h;rw [List.map_cons] at h';dsimp only at h';split at h' <;> simp only [List.lookup_cons,hx] at h' <;> exact ih h h'
theorem zj8 {pins:List (Addr×Obj)} {σ:St} {H:Hp} {s:Shared} {fp:List Addr} {h1:Heap} (S:zcI X scope N own js) (I:Inv X pins σ H s) (hf:∀ b∈fp,FpOk X pins H b) (hfo:∀ b∈fp,b < s.heap.objs.size)
  (C p:Addr) (hp:p=s.heap.objs.size) (hC:C=s.heap.objs.size+1) (hns:h1.Ns C fun _=>none) (hkeep:∀ b o,s.heap.get? b=some o→h1.get? b=some o)
  (hacc:h1.get? p=some { cls:=.type "list",data:=.seq #[] 0 }) (tk:Nat) :
  Inv (X.comp scope (zbq scope.names X.env []) C N s H fp) [] (capS own js σ) (upd H p (.lst [])) { s with heap:=h1,toks:=tk }:=by
 have sub:=zfb (env:=X.env) scope.names [] (fun x c e=>by simp at e);have hHp:H p=none:=I.hok.fresh (by rw [hp];exact Nat.le_refl _);have hHC:H C=none:=I.hok.fresh (by rw [hC];exact Nat.le_succ _);have hpC:C≠p:=by rw [hp,hC];exact Nat.succ_ne_self _
 have cellLt:∀ x c,X.env.cells.lookup x=some c→c < s.heap.objs.size:=fun x c e=>by
  obtain ⟨v,q⟩:=I.cell x c e;exact q.lt
 have nop:∀ q:Addr×Obj,q∉(X.comp scope (zbq scope.names X.env []) C N s H fp).pn++([]:List (Addr×Obj)):=fun q z=>absurd (show q∈([]:List (Addr×Obj)) from z) (by simp);refine ⟨⟨I.ok.mod,S.kind,I.ok.glob,I.ok.blt,by rw [show (X.comp scope (zbq scope.names X.env []) C N s H fp).env.locals=C from rfl,hC];exact Nat.le_succ _,?_,?_,fun y c z=>absurd (show false=true from z) (by decide),I.ok.hd,I.ok.frames,.inl rfl,?_,fun b o e=>I.bs b o e,Nat.le_trans I.ok.bsz I.sz,?_,?_,I.stack,I.stkFree⟩,
  rfl,I.bare,Un.laid hkeep (by rw [hp];exact Nat.le_refl _) hHp,⟨_,hns,?_⟩,?_,?_,?_,fun q hq=>absurd hq (nop q),?_,?_⟩
 ·intro x y c e1 e2;exact I.ok.inj x y c (sub x c e1) (sub y c e2)
 ·intro x hx;have hm:(x,NameKind.free)∈scope.names:=by
   rcases hx with hx | hx
   ·exact zb6 (.inl rfl) S.nocell hx
   ·exact zb6 (.inr rfl) S.nocell hx
  exact zfc scope.names [] x (.inr ⟨hm,I.ok.has x (S.free _ hm rfl)⟩)
 ·intro b hb;obtain ⟨f0,f1,f2,f3,f4,f5⟩:=hf b hb;refine ⟨fun e=>?_,fun x c e=>f4 x c (sub x c e)⟩;have e':b=C:=e;have:=hfo b hb;rw [e',hC] at this;exact absurd this (Nat.not_lt.mpr (Nat.le_succ _))
 ·intro b o e hb;obtain ⟨f0,f1,f2,f3,f4,f5⟩:=hf b hb;rcases f3 with z | z
  ·exact I.ok.noex b o e z
  ·exact absurd (Nat.lt_of_lt_of_le (Heap.lt_size (I.ok.bs b o e).1) z) (Nat.lt_irrefl _)
 ·intro b hb z;obtain ⟨f0,f1,f2,f3,f4,f5⟩:=hf b hb;rcases List.mem_cons.mp (I.stkSub b z) with e | e
  ·exact f1 e
  ·exact f2 e
 ·intro i x v h1' h2 h3;have hlen:(capS own js σ).length=own+js.length:=by simp [capS]
  have hio:own≤i:=by
   by_cases hi:i < own
   ·unfold capS at h2;rw [List.getElem?_append_left (by simpa using hi),List.getElem?_replicate,if_pos hi] at h2
    cases h2
   ·omega
  obtain ⟨k,rfl⟩:∃ k,i=own+k:=⟨i-own,by omega⟩
  have e1:(js.map fun j=>(σ[j]?).getD none)[k]? = some (some v):=by
   unfold capS at h2;rw [List.getElem?_append_right (by simp)] at h2;simpa using h2
  rw [List.getElem?_map] at e1
  cases ej:js[k]? with
  | none=>rw [ej] at e1;cases e1
  | some j =>
    rw [ej] at e1;have e2:(σ[j]?).getD none=some v:=Option.some.inj e1;have e3:σ[j]? = some (some v):=by
     cases q:σ[j]? with
     | none=>rw [q] at e2;cases e2
     | some z=>rw [q] at e2;exact congrArg some e2
    obtain ⟨c1,c2⟩:=S.cap k j ej;have hN:X.N[j]? = some x:=by rw [← c1];exact h1'
    obtain ⟨d1,d2,d3⟩:=c2 x hN;obtain ⟨m,_,hl⟩:=I.loc;obtain ⟨u,r,l⟩:=hl j x v hN e3 d2;refine ⟨u,r,?_⟩;rcases l with ⟨l,_⟩ | ⟨_,c,ec,o,ho,hd⟩
    ·exact absurd l d3
    ·obtain ⟨c',hc'⟩:=zfc (env:=X.env) scope.names [] x (.inr ⟨PySem.mem_of_lookup d1,c,ec⟩);have e4:=sub x c' hc';rw [ec] at e4
     cases e4
     refine .inr ⟨?_,c,hc',o,hkeep c o ho,hd⟩;rcases h3 with z | z | z
     ·exact (zbK d1 z).elim
     ·exact .inl z
     ·exact .inr z
 ·intro x c e;obtain ⟨v,o,ho,hd⟩:=I.cell x c (sub x c e);exact ⟨v,o,hkeep c o ho,hd⟩
 ·rw [show (X.comp scope (zbq scope.names X.env []) C N s H fp).env.locals=C from rfl,zaJ hpC];exact hHC
 ·intro x c e;rw [zaJ (by rw [hp];exact Nat.ne_of_lt (cellLt x c (sub x c e)))];exact I.freeC x c (sub x c e)
 ·exact I.hok.laid hkeep (by rw [hp];exact Nat.le_refl _) ⟨Nat.zero_le _,[],0,.nil,hacc⟩
 ·show (capS own js σ).length=N.length;rw [S.len];simp [capS]
theorem zfd {pins:List (Addr×Obj)} {σ:St} {H:Hp} {s:Shared} {E:Value→Shared→Prop} {it:Addr} {fp:List Addr} {tn:Nat→Heap→Prop} {J:It} {Q:VK} {RR:Value→Addr→Result→Shared→Prop}
  (S:zcI X scope N own js) (hc:X.calm=true) (I:Inv X pins σ H s) (T:Turn X.prog X.w X.K tg J fp it tn) (st:tn 0 s.heap) (hf:∀ b∈fp,FpOk X pins H b)
  (hg:∀ cl C s H fp,PG (X.comp scope cl C N s H fp) tg g) (hts:∀ cl C s H fp,PTs (X.comp scope cl C N s H fp) ifs tc) (he:∀ cl C s H fp,PE (X.comp scope cl C N s H fp) elt te)
  (hq:∀ p,H p=none→∃ W:Nat→Nat→St→Hp→Prop,(∃ m,W 0 m (capS own js σ) (upd H p (.lst [])))∧∀ i m σc H,W i m σc H →
   (J.stop i H∧Q (.ref p) H)∨(J.go i H∧∃ N:St→Hp→Prop,(∀ σ' H',N σ' H'→∃ m',m' < m∧W (i+1) m' σ' H')∧∀ x H',J.yld i H x H' →
    g x σc H' fun σ2 H2=>tc σ2 H2 fun b H3=>if b=true then te σ2 H3 fun v H4=>∃ ys,H4 p=some (.lst ys)∧ys.length < sizeLine∧N σ2 (upd H4 p (.lst (ys++[v]))) else N σ2 H3))
  (hRR:∀ p C s' H' m,C=s.heap.objs.size+1→s'.heap.Ns C m→Inv X pins σ H' s'→H' C=none→Q (.ref p) H'→RR (.ref p) C (.ok .next) s') :
  wpAny (model X.prog X.w) X.A (newList []) (fun acc s3=>wpAny (model X.prog X.w) X.A (newFunctionEnv scope X.env.globals (zbq scope.names X.env []) [] X.env.qual none .none (some X.env)) (fun cenv s4 =>
   codeAny (model X.prog X.w) X.A (.compStart (.ListComp elt [⟨tg,iter,ifs,0⟩] scope pos) 0 (.ref it) acc { cenv with scope:=relabel scope X.env }) (RR acc cenv.locals) s4) E s3) E s:=by
 refine wpAny_newObj_type (wpAny_newFunctionEnv S.nocell (by intro y hy;simp at hy) (fun h1 hns1 hsb1=>?_) S.kind);dsimp only at hns1 hsb1 ⊢;generalize hH2:s.heap.push { cls:=.type "list",dict:=none,data:=.seq ([]:List Value).toArray }=H2 at hns1 hsb1 ⊢;have hC:H2.objs.size=s.heap.objs.size+1:=by rw [← hH2,Heap.size_push]
 have old:∀ b o,s.heap.get? b=some o→h1.get? b=some o:=fun b o e=>hsb1.extBut b o (by rw [hC];exact Nat.ne_of_lt (Nat.lt_succ_of_lt (Heap.lt_size e))) (Heap.get?_push_of_some _ (hH2▸Heap.get?_push_of_some _ e));have hacc:h1.get? s.heap.objs.size=some { cls:=.type "list",data:=.seq #[] 0 }:=hsb1.extBut _ _ (by rw [hC];exact Nat.ne_of_lt (Nat.lt_succ_self _)) (Heap.get?_push_of_some _ (hH2▸Heap.get?_push_size _ rfl));have hfo:∀ b∈fp,b < s.heap.objs.size:=fun b hb=>by
  obtain ⟨o,e,_⟩:=T.obj 0 _ st b hb;exact Heap.lt_size e
 have st1:tn 0 h1:=T.keep _ _ _ st fun b _ o e=>old b o e;have I0:=zj8 (fp:=fp) S I hf hfo H2.objs.size s.heap.objs.size rfl hC hns1 old hacc (s.toks+([]:List (Str×Value)).length);have hHp:H s.heap.objs.size=none:=I.hok.fresh (Nat.le_refl _);obtain ⟨W,⟨m0,w0⟩,turn⟩:=hq _ hHp;generalize hX:X.comp scope (zbq scope.names X.env []) H2.objs.size N s H fp=Y at I0;have eY:(Y.prog=X.prog∧Y.w=X.w∧Y.K=X.K∧Y.calm=true∧Y.A=X.A)∧Y.env=compEnvC scope (zbq scope.names X.env []) H2.objs.size X.env∧Y.fs=frs X.stack∧Y.ex=fp∧Y.s₀=s∧Y.H₀=H∧Y.pn=[]:=by
  subst hX;exact ⟨⟨rfl,rfl,rfl,hc,rfl⟩,rfl,rfl,rfl,rfl,rfl,rfl⟩
 have hgY:PG Y tg g:=by subst hX;exact hg _ _ _ _ _
 have htY:PTs Y ifs tc:=by subst hX;exact hts _ _ _ _ _
 have heY:PE Y elt te:=by subst hX;exact he _ _ _ _ _
 have hxe:Y.xe=fun _ _=>False:=by subst hX;rfl
 obtain ⟨⟨e1,e2,e3,e4,e5⟩,e6,e7,e8,e9,e10,e11⟩:=eY;have sub:=zfb (env:=X.env) scope.names [] (fun x c e=>by simp at e);have stat:∀ {H':Hp},(∀ b∈fp,H' b=none)→∀ b∈fp,FpOk Y [] H' b:=fun {H'} hn b hb=>by
  refine ⟨hn b hb,?_,?_,.inl (by rw [e8];exact hb),?_,?_⟩
  ·rw [e6];show b≠H2.objs.size;rw [hC];exact Nat.ne_of_lt (Nat.lt_succ_of_lt (hfo b hb))
  ·rw [e7];intro z;rcases List.mem_cons.mp (I.stkSub b z) with e | e
   ·exact (hf b hb).2.1 e
   ·exact (hf b hb).2.2.1 e
  ·intro x c e;rw [e6] at e;exact (hf b hb).2.2.2.2.1 x c (sub x c e)
  ·intro q hq;rw [e11] at hq;exact absurd hq (by simp)
 have noT:∀ b∈fp,b≠s.heap.objs.size:=fun b hb=>Nat.ne_of_lt (hfo b hb);have loop:∀ s3:Shared,s3={ s with heap:=h1,toks:=s.toks+([]:List (Str×Value)).length } →
   codeAny (model X.prog X.w) X.A (.compLoop (.ListComp elt [⟨tg,iter,ifs,0⟩] scope pos) 0 (.ref it) (.ref s.heap.objs.size) (compEnvC scope (zbq scope.names X.env []) H2.objs.size X.env))
    (RR (.ref s.heap.objs.size) H2.objs.size) s3:=by
  rintro s3 rfl;rw [← e1,← e2,← e5,← e6];refine zfW (fun n s'=>∃ i σ' H',Inv Y [] σ' H' s'∧tn i s'.heap∧(∀ b∈fp,H' b=none)∧W i n σ' H') ?_ m0 ⟨0,_,_,I0,st1,fun b hb=>by rw [zaJ (noT b hb)];exact (hf b hb).1,w0⟩;rintro n s3 ⟨i,σ3,H3,I3,st3,fr3,w3⟩;rcases turn i n σ3 H3 w3 with ⟨stop,qn⟩ | ⟨go,N',hN,step⟩
  ·have tt:=T.done Y e1 e2 e3 e4 i [] s3 σ3 H3 (fun _ _=>False) I3 (stat fr3) st3 stop;rw [← e1,← e2] at tt;refine thn tt fun r s4 ⟨hr,I4⟩=>?_;subst hr;obtain ⟨m,hn4,_⟩:=I4.loc;have hl:Y.env.locals=H2.objs.size:=by rw [e6];rfl
   have u:=I4.base;rw [e7,e8,e9,e10] at u;refine hRR _ _ s4 H3 m hC (by rw [← hl];exact hn4) ?_ (by rw [← hl];exact I4.free) qn;refine I.call' (by rw [I4.os,e9]) u (by rw [← e1,← e2];exact I4.hok) I4.bare fun b hb=>?_;obtain ⟨f0,f1,f2,f3,f4,f5⟩:=hf b hb;exact ⟨f3,f1,f4,f5⟩
  ·have tt:=T.item Y e1 e2 e3 e4 i [] s3 σ3 H3 (fun _ _=>False) I3 (stat fr3) st3 go;rw [← e1,← e2] at tt;refine thn tt fun r s4 ⟨u,hr,h4⟩=>?_;subst hr;refine thn h4 fun _ s5 ⟨x,H5,I5,r5,y5,st5,fr5⟩=>?_;have I5':=I5.pinned (stat fr5) (T.obj _ _ st5);have a6:=hgY _ s5 σ3 H5 x u _ I5' r5 (step x H5 y5);rw [hxe] at a6;refine thn a6 fun _ s6 ⟨σ6,H6,I6,q6⟩=>?_;have a7:=htY _ s6 σ6 H6 _ I6 q6;rw [hxe] at a7;refine thn a7 fun ok s7 ⟨H7,I7,q7⟩=>?_;have again:∀ {H8:Hp} {s8:Shared},Inv Y ([]++zfP fp s5.heap) σ6 H8 s8→N' σ6 H8→∃ m,m < n∧∃ i σ' H',Inv Y [] σ' H' s8∧tn i s8.heap∧(∀ b∈fp,H' b=none)∧W i m σ' H':=fun {H8 s8} I8 n8=>by
    obtain ⟨m',hm,w8⟩:=hN σ6 H8 n8;refine ⟨m',hm,i+1,σ6,H8,I8.unpinned,T.keep _ _ _ st5 fun b hb o e=>(I8.pin (b,o) (List.mem_append_right _ (List.mem_append_right _ (zcT hb e)))).1,fun b hb=>?_,w8⟩;obtain ⟨o,e,d⟩:=T.obj _ _ st5 b hb;exact (I8.pin (b,o) (List.mem_append_right _ (List.mem_append_right _ (zcT hb e)))).2.1
   cases ok with
   | false =>
     rw [if_neg Bool.false_ne_true] at q7 ⊢;exact again I7 q7
   | true =>
     rw [if_pos rfl] at q7 ⊢;have a8:=heY _ s7 σ6 H7 _ I7 q7;rw [hxe] at a8;refine thn a8 fun y s8 ⟨v,H8,I8,r8,ys,q8,hz8,n8⟩=>?_;have a9:=mt_append (X:=Y) _ s8 σ6 H8 (.ref s.heap.objs.size) [v] (.ref s.heap.objs.size) [y] (fun _ H'=>N' σ6 H') I8 rfl (.cons r8 .nil) ⟨_,ys,v,rfl,rfl,q8,hz8,n8⟩;rw [hxe] at a9;refine thn a9 fun _ s9 ⟨_,H9,I9,_,n9⟩=>?_;exact again I9 n9
 exact codeAny_compStart_list (loop _ rfl) (T.self _ 0 _ _ _ st1 (loop _ rfl))
theorem zhK {pins:List (Addr×Obj)} {σ:St} {H H':Hp} {s s':Shared} {h':Heap} {C:Addr} (I:Inv X pins σ H s) (hC:C=s.heap.objs.size+1) (I':Inv X pins σ H' s') (hn:H' C=none) (hs:Heap.SameBut C s'.heap h'):Inv X pins σ H' { s' with heap:=h' }:=by
 have hlt:∀ b:Addr,b < s.heap.objs.size→b≠C:=fun b hb=>by rw [hC];exact Nat.ne_of_lt (Nat.lt_succ_of_lt hb)
 refine I'.turned (it:=C) (t':=s'.toks) (fun b o hb e=>(hs.2 b hb).trans e) hn ?_ (.inr ?_) ?_ ?_
 ·exact (hlt _ I.lt).symm
 ·rw [hC];exact Nat.le_succ_of_le I.sz
 ·intro x c e;obtain ⟨v,q⟩:=I.cell x c e;exact hlt _ q.lt
 ·intro p hp;exact hlt _ (Heap.lt_size (I.pin p hp).1)
theorem zaN (S:zcI X scope N own js) (hc:X.calm=true) (hi:PI X tg iter wi)
  (hg:∀ cl C s H fp,PG (X.comp scope cl C N s H fp) tg g) (hts:∀ cl C s H fp,PTs (X.comp scope cl C N s H fp) ifs tc) (he:∀ cl C s H fp,PE (X.comp scope cl C N s H fp) elt te)
  (hs:∀ x,foldedSetIterable iter X.env x=pure x:=by intro _;rfl):PE X (.ListComp elt [⟨tg,iter,ifs,0⟩] scope pos) (zgD wi own js g tc te):=by
 intro pins s σ H Q I h;rw [eval_ListComp];refine wpAny_comprehension_free (use:=none) rfl hs (zdl fun x hx hk=>I.ok.has x.1 (S.free x hx hk)) S.kind S.nodup (thn (hi pins s σ H _ I h) fun v s1 h1=>thn h1 fun itv s2 h2=>?_);obtain ⟨it,fp,tn,J,H2,e,I2,T,st2,f2,q⟩:=h2;subst e;refine zfd (RR:=fun acc C=>compPost (model X.prog X.w) X.A X.xe none (EP X pins σ Q) acc C) S hc I2 T st2 f2 hg hts he q ?_;intro p C s' H' m hC hn I' hH' q';exact ⟨m,hn,fun h' hs'=>⟨.ref p,H',zhK I2 hC I' hH' hs',rfl,q'⟩⟩
theorem zbT {i:Nat} {y:Str} {py spos:Pos} (hN:X.N.Nodup) (hi':X.N[i]? = some y) (hx:Loc X.env.scope y) (hsw:swapsWith (.ListComp elt [⟨tg,iter,ifs,0⟩] scope pos) (some (.Name y py)) spos.line X.env=pure true)
  (S:zcI X scope N own js) (hc:X.calm=true) (hi:PI X tg iter wi)
  (hg:∀ cl C s H fp,PG (X.comp scope cl C N s H fp) tg g) (hts:∀ cl C s H fp,PTs (X.comp scope cl C N s H fp) ifs tc) (he:∀ cl C s H fp,PE (X.comp scope cl C N s H fp) elt te)
  (hs:∀ x,foldedSetIterable iter X.env x=pure x:=by intro _;rfl) (hf:X.fn y=true∨X.env.scope.names.lookup y=some .local:=by first | exact .inl rfl | exact .inr rfl | assumption) :
  PS X (.Assign [.Name y py] (.ListComp elt [⟨tg,iter,ifs,0⟩] scope pos) spos) (tAsg (zgD wi own js g tc te) (zcD i)):=by
 intro pins s σ H D I h;rw [exec_Assign_Name_used _ _ _ _ hsw];refine wpAny_bind (wpAny_standAt (wpAny_bind ?_));show wpAny _ X.A (do let _ ← comprehension (.ListComp elt [⟨tg,iter,ifs,0⟩] scope pos) scope X.env _ (newList []) false (eval iter X.env) (some (assign (.Name y py) X.env))) _ _ s;refine wpAny_bind (wpAny_mono (wpAny_comprehension_free (use:=some (assign (.Name y py) X.env)) (Q:=fun _ s'=>SP X pins D .next s') rfl hs (zdl fun x hx hk=>I.ok.has x.1 (S.free x hx hk)) S.kind S.nodup
  (thn (hi pins s σ H _ I h) fun v s1 h1=>thn h1 fun itv s2 h2=>?_)) (fun _ s' hq=>wpAny_pure (wpAny_pure hq)) fun _ _ e=>e)
 obtain ⟨it,fp,tn,J,H2,e,I2,T,st2,f2,q⟩:=h2;subst e;refine zfd (Q:=fun x H1=>zcD i x σ H1 D.nx) (RR:=fun acc C=>compPost (model X.prog X.w) X.A X.xe (some (assign (.Name y py) X.env)) (fun _ s'=>SP X pins D .next s') acc C) S hc I2 T st2 f2 hg hts he q ?_;intro p C s' H' m hC hn I' hH' q';show wpAny _ X.A (assign (.Name y py) X.env (.ref p)) _ _ _;refine wpAny_assign_Name (zfO (v:=.ref p) I' hN hi' hx rfl (fun s'' I'' hsb=>?_) hf);obtain ⟨a,hsb,ha⟩:=hsb;have hlt:∀ b:Addr,b < s2.heap.objs.size→b≠C:=fun b hb=>by rw [hC];exact Nat.ne_of_lt (Nat.lt_succ_of_lt hb)
 have hne:C≠a:=by
  rcases ha with rfl | ha
  ·exact (hlt _ I2.lt).symm
  ·obtain ⟨v,q⟩:=I2.cell y a ha;exact (hlt _ q.lt).symm
 refine ⟨m,hn.sameBut hsb hne,fun h' hs'=>⟨σ.set i (some (.ref p)),H',?_,q'⟩⟩;refine I''.turned (it:=C) (t':=s''.toks) (fun b o hb e=>(hs'.2 b hb).trans e) hH' ?_ (.inr ?_) ?_ ?_
 ·exact (hlt _ I2.lt).symm
 ·rw [hC];exact Nat.le_succ_of_le I2.sz
 ·intro x c e;obtain ⟨v,q⟩:=I2.cell x c e;exact hlt _ q.lt
 ·intro p hp;exact hlt _ (Heap.lt_size (I2.pin p hp).1)
end
end L2
namespace L2
open PySem PySem.Spec PyProof.Rows
theorem zgE {X:Cx}:zcG X (.builtin "isinstance") (fun xs H Q=>∃ x n t b,xs=[x,.ty n]∧TyOf X.K H x t∧PySem.W.kitOne X.K t (.type n)=some b∧Q (.bl b) H):=by
 intro pins s σ H xs us Q I r h;obtain ⟨x,n,t,b,rfl,ty,e,q⟩:=h;obtain ⟨u,v,rfl,r1,r2⟩:=Vals.two r;have e2:v=Value.type n:=r2;subst e2;exact ziz I r1 ty e fun tk=>⟨.bl b,H,I.tok _,rfl,q⟩
section
variable {X:Cx} {K:PySem.W.Frag}
theorem zaf (h:X.K=K):IxR X (rIxL K):=h▸ix_list
theorem zcV (h:X.K=K):SlR X (rSlL K):=h▸sl_list
theorem zmC (h:X.K=K):OpR X (compareOp .In) (rIn K false):=h▸op_in_seq
def cLen (K:PySem.W.Frag):List V→Hp→VK→Prop:=fun xs H Q=>∃ p ys,xs=[.ref p]∧(SqL K H p ys∨SqT K H p ys)∧Q (.int ys.length) H
theorem zak (h:X.K=K):zcG X (.builtin "len") (cLen K):=h▸call_len_seq
def cIsi (K:PySem.W.Frag):List V→Hp→VK→Prop:=fun xs H Q=>∃ x n t b,xs=[x,.ty n]∧TyOf K H x t∧PySem.W.kitOne K t (.type n)=some b∧Q (.bl b) H
theorem za2 (h:X.K=K):zcG X (.builtin "isinstance") (cIsi K):=h▸zgE
theorem zaB {tg l:Expr} {tl:TE} (h:X.K=K) (hl:PE X l tl):PI X tg l (zjW K tl):=h▸zlg hl
def zkW (K:PySem.W.Frag) (ta:TE):TT:=fun σ H Q=>ta σ H fun x H'=>∃ k,TruV K x H' k∧Q k H'
theorem zaF {a:Expr} {ta:TE} (h:X.K=K) (ha:PE X a ta) (he:∀ whole,isTrue a X.env whole=(do let v ← whole;standAt a.pos;holding [v] (truthy v))):PT X a (zkW K ta):=h▸zjY ha he
theorem zbr {o e:Expr} {es:List Expr} {to:TE} {t:TA} {name:Str} {apos cpos:Pos} {T id:String} {r:V→List V→Hp→VK→Prop} (h:X.K=K)
  (pa:PlainAttrs T) (slot:Slot T name id) (hty:typeOf (.builtin id)=pure (.type "method_descriptor")) (hm:MtR X id r) (ho:PE X o to) (ha:PA X (e::es) t)
  (hbase:attributeBase o name X.env (eval o X.env)=eval o X.env:=by rfl)
  (hfew:((backTo cpos (starEach (e::es) X.env)).all (fun x=>!x.1) && (backToKw cpos (keywordEach [] X.env)).all (fun x=>x.1.isSome)
   && decide ((e::es).length+([]:List Keyword).length+(if ([]:List Keyword).isEmpty then 0 else 1) < 30))=true:=by rfl)
  (hline:(apos.endLine == cpos.line)=true:=by rfl) (hs:starEach (e::es) X.env=(false,eval e X.env)::starEach es X.env:=by rfl) (hplain:(backTo cpos (starEach es X.env)).any (·.1)=false:=by rfl) :
  PE X (.Call (.Attribute o name apos) (e::es) [] cpos) (tBM K T r to t):=h▸znU pa slot hty hm ho ha hbase hfew hline hs hplain
def rAddS:R2:=fun x y H Q=>∃ i j,x=.str i∧y=.str j∧i.length+j.length≤sizeLine∧Q (.str (i++j)) H
def rAddG:R2:=fun x y H Q=>rI0 (fun i j=>.int (i+j)) x y H Q∨rCat x y H Q∨rAddS x y H Q
theorem op_addG:OpR X (binaryOp .Add) rAddG:=op_add.or (op_cat.or op_add_str)
def rNeG (K:PySem.W.Frag):R2:=fun x y H Q=>rNe x y H Q
theorem zmD (h:X.K=K):OpR X (compareOp .NotEq) (rNeG K):=op_ne
end
def zkX (scope:Scope) (xn:List (Str×NameKind)) (XN N:List Str) (own:Nat) (js:List Nat):Bool :=
 (scope.kind == .function) && scope.names.all (fun y=>y.2 != .cell) && scope.names.all (fun y=>y.2 != .local || scope.names.lookup y.1 == some .local) &&
 scope.names.all (fun y=>y.2 != .free || (xn.lookup y.1 == some .cell || xn.lookup y.1 == some .free)) && (N.length == own+js.length) &&
 (List.range js.length).all (fun i=>(N[own+i]? == XN[js.getD i 0]?) && match XN[js.getD i 0]? with
  | some x=>scope.names.lookup x == some .free && (xn.lookup x == some .cell || xn.lookup x == some .free)
  | none=>true)
theorem zah {X:Cx} {scope sc:Scope} {XN N:List Str} {own:Nat} {js:List Nat} (hs:X.env.scope=sc) (hN:X.N=XN) (h:zkX scope sc.names XN N own js=true):zcI X scope N own js:=by
 subst hs hN;unfold zkX at h;simp only [Bool.and_eq_true,List.all_eq_true,beq_iff_eq,bne_iff_ne,Bool.or_eq_true,List.mem_range] at h;obtain ⟨⟨⟨⟨⟨h1,h2⟩,h3⟩,h4⟩,h5⟩,h6⟩:=h;refine ⟨h1,h2,fun y hy hk=>?_,fun y hy hk=>?_,h5,fun i j hj=>?_⟩
 ·rcases h3 y hy with z | z
  ·exact absurd hk z
  ·exact z
 ·rcases h4 y hy with z | z
  ·exact absurd hk z
  ·exact z
 ·have hi:i < js.length:=(List.getElem?_eq_some_iff.mp hj).1;have e:js.getD i 0=j:=by rw [List.getD_eq_getElem?_getD,hj];rfl
  obtain ⟨a,b⟩:=h6 i hi;rw [e] at a b;refine ⟨a,fun x hx=>?_⟩;rw [hx] at b;simp only [Bool.and_eq_true,beq_iff_eq,Bool.or_eq_true] at b;obtain ⟨b1,b2⟩:=b;refine ⟨b1,?_,?_⟩
  ·rcases b2 with z | z
   ·exact .inr (.inl z)
   ·exact .inr (.inr z)
  ·intro z;have z':X.env.scope.names.lookup x=some .local:=z;rcases b2 with q | q <;> rw [z'] at q <;> cases q
section
variable {σ σ':St} {H:Hp} {Q:VK} {QT:Bool→Hp→Prop} {QA:List V→Hp→Prop} {i j:Int} {v x y:V} {te ta tb:TE} {tc tc':TT} {tl tr:TA} {t u:TS} {K:PySem.W.Frag} {p:Addr} {xs:List V}
 {nx bk ct:St→Hp→Prop} {rt:VK} {D:Ends} {r r':R2} {n:Nat}
theorem zhL {i:Nat} (h:σ[i]? = some (some v)) (q:Q v H):tVar i σ H Q:=⟨v,h,q⟩
theorem r_c (q:Q v H):tC v σ H Q:=q
theorem r_op (h:ta σ H fun x H1=>tb σ H1 fun y H2=>r x y H2 Q):tOp r ta tb σ H Q:=h
theorem r_I0 {g:Int→Int→V} (q:Q (g i j) H):rI0 g (.int i) (.int j) H Q:=⟨i,j,rfl,rfl,q⟩
theorem znX (q:Q (.bl (decide (i=j))) H):rEq (.int i) (.int j) H Q:=⟨rfl,by simpa using q⟩
theorem znY (q:Q (.bl (!decide (i=j))) H):rNe (.int i) (.int j) H Q:=⟨rfl,by simpa using q⟩
theorem zeo (h:SqL K H p xs) (e:atI xs i=some v) (q:Q v H):rIxL K (.ref p) (.int i) H Q:=⟨p,xs,i,v,rfl,rfl,h,e,q⟩
theorem r_cb {f:List V→Hp→VK→Prop} (h:tl σ H fun vs H1=>f vs H1 Q):tCB f tl σ H Q:=h
theorem zfu (q:QA [] H):tNil σ H QA:=q
theorem ziM (h:ta σ H fun x H1=>tl σ H1 fun xs H2=>QA (x::xs) H2):zgA ta tl σ H QA:=h
theorem zkY {sp:Sp} {E:XK} (h:tl σ H fun vs H1=>sp vs H1 Q E):zj1 sp [] E tl σ H Q:=by
 unfold zj1;simpa only [List.append_nil] using h
theorem zbL {c:Prop} {A B:Prop} [Decidable c] (h1:c→A) (h2:¬c→B):if decide c=true then A else B:=by
 by_cases h:c
 ·rw [if_pos (decide_eq_true h)];exact h1 h
 ·rw [if_neg (by simpa using h)];exact h2 h
theorem ziN {c:Prop} {A B:Prop} [Decidable c] (h1:¬c→A) (h2:c→B):if (!decide c)=true then A else B:=by
 by_cases h:c
 ·rw [if_neg (by simpa using h)];exact h2 h
 ·rw [if_pos (by simpa using h)];exact h1 h
theorem znZ {b:Bool} {A B:Prop} (h1:b=true→A) (h2:b=false→B):if b=true then A else B:=by
 cases b with
 | true=>exact h1 rfl
 | false=>exact h2 rfl
theorem zmE {b:Bool} {A B:Prop} (h1:b=false→A) (h2:b=true→B):if (!b)=true then A else B:=by
 cases b with
 | true=>exact h2 rfl
 | false=>exact h1 rfl
theorem zeb {ns:List Int} {k:Int} (h0:0≤k) (h1:k < ns.length):atI (ns.map V.int) k=some (.int (ns.getD k.toNat 0)):=by
 obtain ⟨n,rfl⟩:=Int.eq_ofNat_of_zero_le h0;have hn:n < ns.length:=by omega
 refine ziE ?_;rw [List.getElem?_map,List.getD_eq_getElem?_getD,Int.toNat_natCast,List.getElem?_eq_getElem hn];rfl
theorem zj9 {ps:List Addr} {k:Int} (h0:0≤k) (h1:k < ps.length):atI (ps.map V.ref) k=some (.ref (ps.getD k.toNat 0)):=by
 obtain ⟨n,rfl⟩:=Int.eq_ofNat_of_zero_le h0;have hn:n < ps.length:=by omega
 refine ziE ?_;rw [List.getElem?_map,List.getD_eq_getElem?_getD,Int.toNat_natCast,List.getElem?_eq_getElem hn];rfl
def ziO (xs:List V) (H:Hp) (Q:VK):Prop:=xs.length≤sizeLine∧∀ p,H p=none→Q (.ref p) (upd H p (.lst xs))
theorem zn0 (h:tl σ H fun xs H1=>ziO xs H1 Q):tLst tl σ H Q:=h
theorem r_bm {T:String} {f:V→List V→Hp→VK→Prop} (h:te σ H fun x H1=>tyV K T x H1∧tl σ H1 fun xs H2=>f x xs H2 Q):tBM K T f te tl σ H Q:=h
theorem zmF (h:ta σ H fun x H1=>∃ c,x=.bl c∧if c=true then tb σ H1 Q else Q (.bl false) H1):zmg ta tb σ H Q:=h
theorem zmG (h:ta σ H fun x H1=>∃ c,x=.bl c∧Q (.bl (!c)) H1):zmh ta σ H Q:=h
theorem zmH {b:Bool} {P:Bool→Prop} (h:P b):∃ c,V.bl b=.bl c∧P c:=⟨b,rfl,h⟩
theorem zmI (h:ta σ H fun x H'=>∃ k,x=.bl k∧QT k H'):zms ta σ H QT:=h
theorem r_tB (h:ta σ H fun x H'=>∃ k,x=.bl k∧QT k H'):tB ta σ H QT:=h
theorem zn1 (h:tc σ H fun c H1=>if c=true then tc' σ H1 QT else QT false H1):tAnd tc tc' σ H QT:=h
theorem r_or (h:tc σ H fun c H1=>if c=true then QT true H1 else tc' σ H1 QT):tOr tc tc' σ H QT:=h
theorem zn2 (h:tc σ H fun c H1=>QT (!c) H1):tNot tc σ H QT:=h
theorem r_if (h:tc σ H fun c H1=>if c=true then ta σ H1 Q else tb σ H1 Q):tIf tc ta tb σ H Q:=h
theorem r_tt (h:QT true H):tTT σ H QT:=h
theorem zmJ (h:t ⟨u ⟨nx,rt,bk,ct⟩,rt,bk,ct⟩ σ H):tSeq t u ⟨nx,rt,bk,ct⟩ σ H:=h
theorem zn3 (h:te σ H rt):tRet te ⟨nx,rt,bk,ct⟩ σ H:=h
theorem zmK (h:te σ H fun _ H1=>nx σ H1):zml te ⟨nx,rt,bk,ct⟩ σ H:=h
theorem zmL (h:nx σ H):tNext ⟨nx,rt,bk,ct⟩ σ H:=h
theorem zn4 {i:Nat} (h:te σ H fun x H1=>nx (σ.set i (some x)) H1):tAsg te (zcD i) ⟨nx,rt,bk,ct⟩ σ H:=h
theorem zn5 (h:tc σ H fun b H1=>if b=true then t D σ H1 else u D σ H1):tIfS tc t u D σ H:=h
theorem zlw {i:Nat} {N:St→Hp→Prop} (h:N (σ.set i (some v)) H):zcD i v σ H N:=h
def ForR (lo:Int) (n:Nat) (g:TG) (tb:TS) (D:Ends) (σ:St) (H:Hp):Prop :=
 ∃ W:Nat→Nat→St→Hp→Prop,(∃ m,W 0 m σ H)∧∀ i m σ H,W i m σ H →
  ((Itr lo n).stop i H∧D.nx σ H)∨((Itr lo n).go i H∧∃ N:St→Hp→Prop,(∀ σ' H',N σ' H'→∃ m',m' < m∧W (i+1) m' σ' H')∧∀ x H',(Itr lo n).yld i H x H'→g x σ H' fun σ2 H2=>tb { D with nx:=N,ct:=N,bk:=D.nx } σ2 H2)
theorem zmM {g:TG} {tb:TS} (h:tl σ H fun vs H1=>∃ j:Int,vs=[.int j]∧-(2 ^ 62)≤j∧j < 2 ^ 62∧ForR 0 j.toNat g tb D σ H1):tFor (zlh tl) g tb D σ H:=h
theorem zmN {g:TG} {tb:TS} (h:tl σ H fun vs H1=>∃ i j:Int,vs=[.int i,.int j]∧(-(2 ^ 62)≤i∧i < 2 ^ 62∧-(2 ^ 62)≤j∧j < 2 ^ 62)∧ForR i (j-i).toNat g tb D σ H1):tFor (zli tl) g tb D σ H:=h
theorem zci {P:Int→Prop} (b1 : -(2 ^ 62)≤i) (b2:i < 2 ^ 62) (h:P i):∃ j:Int,[V.int i]=[.int j]∧-(2 ^ 62)≤j∧j < 2 ^ 62∧P j:=⟨i,rfl,b1,b2,h⟩
theorem zcJ {P:Int→Int→Prop} (b : -(2 ^ 62)≤i∧i < 2 ^ 62∧-(2 ^ 62)≤j∧j < 2 ^ 62) (h:P i j):∃ i' j':Int,[V.int i,V.int j]=[.int i',.int j']∧(-(2 ^ 62)≤i'∧i' < 2 ^ 62∧-(2 ^ 62)≤j'∧j' < 2 ^ 62)∧P i' j':=⟨i,j,rfl,b,h⟩
theorem zn6 (h:SqL K H p xs) (q:Q (.int xs.length) H):cLen K [.ref p] H Q:=⟨p,xs,rfl,.inl h,q⟩
theorem zmO {ns:List Int} (h:SqL K H p (ns.map V.int)) (q:Q (.int ns.length) H):cLen K [.ref p] H Q:=⟨p,_,rfl,.inl h,by rw [List.length_map];exact q⟩
theorem zmP {ns:List Addr} (h:SqL K H p (ns.map V.ref)) (q:Q (.int ns.length) H):cLen K [.ref p] H Q:=⟨p,_,rfl,.inl h,by rw [List.length_map];exact q⟩
theorem zn7 {T:String} {ty:Value} {b:Bool} (h:TyOf K H x ty) (e:PySem.W.kitOne K ty (.type T)=some b) (q:Q (.bl b) H):cIsi K [x,.ty T] H Q:=⟨x,T,ty,b,rfl,h,e,q⟩
theorem zlx (h:ta σ H fun x H'=>∃ k,TruV K x H' k∧QT k H'):zkW K ta σ H QT:=h
theorem zly {b:Bool} {P:Bool→Prop} (h:P b):∃ k,TruV K (.bl b) H k∧P k:=⟨b,rfl,h⟩
theorem zmQ (q:Q (.int (i+j)) H):rAddG (.int i) (.int j) H Q:=.inl ⟨i,j,rfl,rfl,q⟩
theorem zkZ (q:Q (.bl (!decide (i=j))) H):rNeG K (.int i) (.int j) H Q:=znY q
theorem zbM {lo:Int} {g:TG} {tb:TS} (Pv:Nat→St→Hp→Prop) (h0:Pv 0 σ H)
  (hs:∀ i σ H,i < n→Pv i σ H→g (.int (lo+i)) σ H fun σ2 H2=>tb ⟨Pv (i+1),rt,nx,Pv (i+1)⟩ σ2 H2) (hd:∀ σ H,Pv n σ H→nx σ H):ForR lo n g tb ⟨nx,rt,bk,ct⟩ σ H :=
 zir (D:=⟨nx,rt,bk,ct⟩) Pv h0 hs hd
end
end L2
namespace L2
open PySem PySem.Spec PyProof.Rows
section
variable {H:Hp} {Q:VK} {K:PySem.W.Frag} {p:Addr} {xs:List V} {y:V}
theorem zaH {H:Hp} {p:Addr} {o:HO} (hp:H p=none):Same H (upd H p o):=fun b u e=>by
 rw [zaJ (zag e hp)];exact e
def But (p:Addr) (H H':Hp):Prop:=∀ b,b≠p→H' b=H b
theorem But.upd {H:Hp} {p:Addr} {o:HO}:But p H (upd H p o):=fun b h=>zaJ h
theorem Same.but {B H H':Hp} {p:Addr} (s:Same B H) (b:But p H H') (hp:B p=none):Same B H':=fun c o e=>by
 rw [b c (zag e hp)];exact s c o e
theorem zau (hz:xs.length≤1000) (h:∀ p H2,H p=none→Same H H2→H2 p=some (.lst xs)→Q (.ref p) H2):ziO xs H Q :=
 ⟨Nat.le_of_lt (zaK hz),fun p hp=>h p _ hp (zaH hp) zar⟩
theorem zaW (h:H p=some (.lst xs)) (hz:xs.length≤1000000) (q:∀ H2,But p H H2→H2 p=some (.lst (xs++[y]))→Q .non H2):rAppend (.ref p) [y] H Q:=⟨p,xs,y,rfl,rfl,h,by rw [sizeLine_eq];omega,q _ But.upd zar⟩
theorem zco {a b:Addr} {ys:List V} (h:H a=some (.lst xs)) (h':H b=some (.lst ys)) (hz:xs.length+ys.length≤1000) (q:∀ p H2,H p=none→Same H H2→H2 p=some (.lst (xs++ys))→Q (.ref p) H2):rAddG (.ref a) (.ref b) H Q :=
 .inr (.inl ⟨a,b,xs,ys,rfl,rfl,h,h',Nat.le_of_lt (zaK hz),fun p hp=>q p _ hp (zaH hp) zar⟩)
theorem ziP {c d:Bool} {tb:TT} {σ:St} {QT:Bool→Hp→Prop} (hb:c=true→∀ Q':Bool→Hp→Prop,Q' d H→tb σ H Q') (q:QT (c && d) H):if c=true then tb σ H QT else QT false H:=by
 cases c with
 | false=>exact q
 | true=>exact hb rfl QT q
theorem zn8 {f:Int→Int→V} {i j:Int} (c:0 < j) (q:Q (f i j) H):rI (fun _ j=>0 < j) f (.int i) (.int j) H Q:=⟨i,j,rfl,rfl,c,q⟩
theorem zn9 {P:Prop} (h:H p=some (.lst xs)) (q:P):tyV K "list" (.ref p) H∧P:=⟨.inl ⟨rfl,_,SqL.of h⟩,q⟩
end
end L2
namespace L2
open PySem PySem.Spec PyProof.Rows
section
variable {σ:St} {H:Hp} {Q:VK} {K:PySem.W.Frag} {js:List Nat} {te:TE} {tc:TT} {J:It} {n:Nat} {x:Nat→V}
structure Iter (J:It) (n:Nat) (x:Nat→V) (H:Hp):Prop where
 go:∀ i H',Same H H'→i < n→J.go i H'
 yld:∀ i H' v H2,Same H H'→i < n→J.yld i H' v H2→H2=H'∧v=x i
 stop:∀ H',Same H H'→J.stop n H'
theorem zbE (lo:Int) (n:Nat) (H:Hp):Iter (Itr lo n) n (fun i=>.int (lo+i)) H :=
 ⟨fun i H' _ h=>h,fun i H' v H2 _ _ h=>h,fun H' _=>Nat.le_refl n⟩
theorem zaU {a:Addr} {xs:List V} (h:SqL K H a xs):Iter (Itl K a) xs.length (fun i=>xs.getD i .non) H :=
 ⟨fun i H' s hi=>⟨xs,xs[i],s.seq h,List.getElem?_eq_getElem hi⟩,fun i H' v H2 s hi h'=>⟨h'.1,by
  have:=h'.2 xs (s.seq h);rw [List.getD_eq_getElem?_getD,this];rfl⟩,fun H' s=>⟨xs,s.seq h,Nat.le_refl _⟩⟩
def zeY (J:It) (js:List Nat) (tc:TT) (te:TE) (σ:St) (H:Hp) (Q:VK):Prop:=∀ p,H p=none →
 ∃ W:Nat→Nat→St→Hp→Prop,(∃ m,W 0 m (capS 1 js σ) (upd H p (.lst [])))∧∀ i m σc H,W i m σc H →
  (J.stop i H∧Q (.ref p) H)∨(J.go i H∧∃ N:St→Hp→Prop,(∀ σ' H',N σ' H'→∃ m',m' < m∧W (i+1) m' σ' H')∧∀ x H',J.yld i H x H' →
   zcD 0 x σc H' fun σ2 H2=>tc σ2 H2 fun b H3=>if b=true then te σ2 H3 fun v H4=>∃ ys,H4 p=some (.lst ys)∧ys.length < sizeLine∧N σ2 (upd H4 p (.lst (ys++[v]))) else N σ2 H3)
theorem zlz {tl:TA} (h:tl σ H fun vs H1=>∃ j:Int,vs=[.int j]∧-(2 ^ 62)≤j∧j < 2 ^ 62∧zeY (Itr 0 j.toNat) js tc te σ H1 Q):zgD (zlh tl) 1 js (zcD 0) tc te σ H Q:=h
theorem zlA {tl:TA} (h:tl σ H fun vs H1=>∃ i j:Int,vs=[.int i,.int j]∧(-(2 ^ 62)≤i∧i < 2 ^ 62∧-(2 ^ 62)≤j∧j < 2 ^ 62)∧zeY (Itr i (j-i).toNat) js tc te σ H1 Q):zgD (zli tl) 1 js (zcD 0) tc te σ H Q:=h
theorem zlB {tl:TE} (h:tl σ H fun x H1=>∃ a,x=.ref a∧(∃ xs,SqL K H1 a xs)∧zeY (Itl K a) js tc te σ H1 Q):zgD (zjW K tl) 1 js (zcD 0) tc te σ H Q:=h
def capV (js:List Nat) (σ:St):St:=js.map fun j=>(σ[j]?).getD none
theorem zfX (u:Option V) (v:V):(u::capV js σ).set 0 (some v)=some v::capV js σ:=rfl
theorem zec {H H':Hp} {p:Addr} {o:HO} (s:Same H H') (hp:H p=none):Same H (upd H' p o):=fun b u e=>by
 rw [zaJ (zag e hp)];exact s b u e
theorem zbe (it:Iter J n x H) (hz:n < sizeLine) (c:Nat→Bool) (f:Nat→V)
  (ht:∀ i H' Q',i < n→Same H H'→Q' (c i) H'→tc (some (x i)::capV js σ) H' Q')
  (he:∀ i H' Q',i < n→Same H H'→c i=true→Q' (f i) H'→te (some (x i)::capV js σ) H' Q')
  (hq:∀ p,H p=none→Q (.ref p) (upd H p (.lst (((List.range n).filter c).map f)))):zeY J js tc te σ H Q:=by
 intro p hp;refine ⟨fun i m σc H'=>m=n-i∧i≤n∧(∃ u,σc=u::capV js σ)∧H'=upd H p (.lst (((List.range i).filter c).map f)),⟨n,by simp,Nat.zero_le _,⟨none,rfl⟩,rfl⟩,?_⟩;rintro i m σc H' ⟨rfl,hi,⟨u,rfl⟩,rfl⟩;have s:∀ o,Same H (upd H p o):=fun o=>zaH hp;have hlen:(((List.range i).filter c).map f).length≤i:=by
  rw [List.length_map];exact Nat.le_trans (List.length_filter_le _ _) (by simp)
 by_cases hlt:i < n
 ·refine .inr ⟨it.go i _ (s _) hlt,fun σ' H'=>(∃ u,σ'=u::capV js σ)∧H'=upd H p (.lst (((List.range (i+1)).filter c).map f)),fun σ' H' ⟨h1,h2⟩=>⟨n-(i+1),by omega,rfl,hlt,h1,h2⟩,fun v H2 hy=>?_⟩;obtain ⟨rfl,rfl⟩:=it.yld i _ v H2 (s _) hlt hy;show tc ((u::capV js σ).set 0 (some (x i))) _ _;rw [zfX];have e:(List.range (i+1)).filter c=(List.range i).filter c++if c i=true then [i] else []:=by
   rw [List.range_succ,List.filter_append]
   cases hc:c i <;> simp [hc]
  refine ht i _ _ hlt (s _) ?_
  cases hc:c i with
  | false =>
    rw [if_neg Bool.false_ne_true];refine ⟨⟨_,rfl⟩,?_⟩;rw [e,hc];simp
  | true =>
    rw [if_pos rfl];refine he i _ _ hlt (s _) hc ⟨_,zar,by omega,⟨_,rfl⟩,?_⟩;rw [zld,e,hc];simp
 ·have e:i=n:=by omega
  subst e;exact .inl ⟨it.stop _ (s _),hq p hp⟩
theorem zhM (it:Iter J n x H) (hz:n < sizeLine) (f:Nat→List V)
  (he:∀ i H' Q',i < n→Same H H'→(∀ q,H' q=none→Q' (.ref q) (upd H' q (.lst (f i))))→te (some (x i)::capV js σ) H' Q')
  (hq:∀ p (ps:List Addr) H',H p=none→Same H H'→ps.length=n→H' p=some (.lst (ps.map V.ref))→(∀ i,i < n→H' (ps.getD i 0)=some (.lst (f i))∧H (ps.getD i 0)=none∧ps.getD i 0≠p)→ps.Nodup→Q (.ref p) H'):zeY J js tTT te σ H Q:=by
 intro p hp;refine ⟨fun i m σc H'=>m=n-i∧i≤n∧(∃ u,σc=u::capV js σ)∧∃ ps:List Addr,Same H H'∧ps.length=i∧H' p=some (.lst (ps.map V.ref))∧(∀ j,j < i→H' (ps.getD j 0)=some (.lst (f j))∧H (ps.getD j 0)=none∧ps.getD j 0≠p)∧ps.Nodup,⟨n,by simp,Nat.zero_le _,⟨none,rfl⟩,[],zaH hp,rfl,zar,fun j hj=>absurd hj (by omega),List.nodup_nil⟩,?_⟩;rintro i m σc H' ⟨rfl,hi,⟨u,rfl⟩,ps,s,hl,hpp,hall,nd⟩
 by_cases hlt:i < n
 ·refine .inr ⟨it.go i _ s hlt,fun σ' H'=>(∃ u,σ'=u::capV js σ)∧∃ ps:List Addr,Same H H'∧ps.length=i+1∧H' p=some (.lst (ps.map V.ref))∧(∀ j,j < i+1→H' (ps.getD j 0)=some (.lst (f j))∧H (ps.getD j 0)=none∧ps.getD j 0≠p)∧ps.Nodup,
   fun σ' H' ⟨h1,h2⟩=>⟨n-(i+1),by omega,rfl,hlt,h1,h2⟩,fun v H2 hy=>?_⟩
  obtain ⟨rfl,rfl⟩:=it.yld i _ v H2 s hlt hy;show te ((u::capV js σ).set 0 (some (x i))) _ _;rw [zfX];refine he i _ _ hlt s fun q hq0=>?_;have hqp:p≠q:=zag hpp hq0;have hHq:H q=none:=s.free hq0;refine ⟨ps.map V.ref,by rw [zaJ hqp];exact hpp,by rw [List.length_map];omega,⟨_,rfl⟩,ps++[q],?_,by rw [List.length_append,hl];rfl,by rw [zar,List.map_append];rfl,fun j hj=>?_,?_⟩
  ·exact zec (zec s hHq) hp
  ·by_cases hji:j < i
   ·obtain ⟨a1,a2,a3⟩:=hall j hji;have e:(ps++[q]).getD j 0=ps.getD j 0:=by
     rw [List.getD_eq_getElem?_getD,List.getD_eq_getElem?_getD,List.getElem?_append_left (by omega)]
    rw [e];refine ⟨?_,a2,a3⟩;rw [zaJ a3,zaJ (zag a1 hq0)];exact a1
   ·have e0:j=i:=by omega
    subst e0;have e:(ps++[q]).getD j 0=q:=by
     rw [List.getD_eq_getElem?_getD,List.getElem?_append_right (by omega)];simp [hl]
    rw [e];refine ⟨?_,hHq,hqp.symm⟩;rw [zaJ hqp.symm,zar]
  ·refine List.nodup_append.mpr ⟨nd,by simp,fun a ha b hb=>?_⟩;have hb':b=q:=by simpa using hb
   subst hb';obtain ⟨k,hk,e⟩:=List.getElem_of_mem ha;have e2:ps.getD k 0=a:=by rw [List.getD_eq_getElem?_getD,List.getElem?_eq_getElem hk,e];rfl
   have:=(hall k (by omega)).1;rw [e2] at this;exact zag this hq0
 ·have e:i=n:=by omega
  subst e;exact .inl ⟨it.stop _ s,hq p ps H' hp s hl hpp hall nd⟩
def ForI (J:It) (g:TG) (tb:TS) (D:Ends) (σ:St) (H:Hp):Prop :=
 ∃ W:Nat→Nat→St→Hp→Prop,(∃ m,W 0 m σ H)∧∀ i m σ H,W i m σ H →
  (J.stop i H∧D.nx σ H)∨(J.go i H∧∃ N:St→Hp→Prop,(∀ σ' H',N σ' H'→∃ m',m' < m∧W (i+1) m' σ' H')∧∀ x H',J.yld i H x H'→g x σ H' fun σ2 H2=>tb { D with nx:=N,ct:=N,bk:=D.nx } σ2 H2)
theorem zmR {tl:TE} {g:TG} {tb:TS} {D:Ends} (h:tl σ H fun x H1=>∃ a,x=.ref a∧(∃ xs,SqL K H1 a xs)∧ForI (Itl K a) g tb D σ H1):tFor (zjW K tl) g tb D σ H:=h
theorem zaO {a:Addr} {P:Addr→Prop} {xs:List V} (h:SqL K H a xs) (q:P a):∃ b,V.ref a=.ref b∧(∃ xs,SqL K H b xs)∧P b:=⟨a,rfl,⟨xs,h⟩,q⟩
theorem zdb {a:Addr} {xs:List V} {g:TG} {tb:TS} {nx bk ct:St→Hp→Prop} {rt:VK} (Pv:Nat→St→Hp→Prop) (h0:Pv 0 σ H) (hl:∀ i σ H,i≤xs.length→Pv i σ H→SqL K H a xs)
  (hs:∀ i x σ H,xs[i]? = some x→Pv i σ H→g x σ H fun σ2 H2=>tb ⟨Pv (i+1),rt,nx,Pv (i+1)⟩ σ2 H2) (hd:∀ σ H,Pv xs.length σ H→nx σ H):ForI (Itl K a) g tb ⟨nx,rt,bk,ct⟩ σ H :=
 zjX (D:=⟨nx,rt,bk,ct⟩) Pv h0 hl hs hd
theorem zfY (it:Iter J n x H) (hz:n≤1000) (f:Nat→Int)
  (he:∀ i H' Q',i < n→Same H H'→Q' (.int (f i)) H'→te (some (x i)::capV js σ) H' Q')
  (hq:∀ p H2,H p=none→Same H H2→H2 p=some (.lst (((List.range n).map f).map V.int))→Q (.ref p) H2):zeY J js tTT te σ H Q:=by
 refine zbe it (zaK hz) (fun _=>true) (fun i=>.int (f i)) (fun i H' Q' _ _ q=>q) (fun i H' Q' hi s _ q=>he i H' Q' hi s q) fun p hp=>hq p _ hp (zaH hp) ?_;rw [zar,List.filter_eq_self.mpr (fun _ _=>rfl),List.map_map];rfl
theorem zfZ (it:Iter J n x H) (hz:n≤1000) (c:Nat→Bool) (f:Nat→Int)
  (ht:∀ i H' Q',i < n→Same H H'→Q' (c i) H'→tc (some (x i)::capV js σ) H' Q')
  (he:∀ i H' Q',i < n→Same H H'→c i=true→Q' (.int (f i)) H'→te (some (x i)::capV js σ) H' Q')
  (hq:∀ p H2,H p=none→Same H H2→H2 p=some (.lst ((((List.range n).filter c).map f).map V.int))→Q (.ref p) H2):zeY J js tc te σ H Q:=by
 refine zbe it (zaK hz) c (fun i=>.int (f i)) ht (fun i H' Q' hi s hc q=>he i H' Q' hi s hc q) fun p hp=>hq p _ hp (zaH hp) ?_;rw [zar,List.map_map];rfl
end
end L2
namespace L2
open PySem PySem.Spec PyProof.Rows
def LL (K:PySem.W.Frag) (H:Hp) (a:Addr) (rs:List (List Int)):Prop :=
 ∃ ps:List Addr,SqL K H a (ps.map V.ref)∧ps.length=rs.length∧∀ i,i < rs.length→H (ps.getD i 0)=some (.lst ((rs.getD i []).map V.int))
theorem LL.same {K:PySem.W.Frag} {H H':Hp} {a:Addr} {rs:List (List Int)} (h:LL K H a rs) (s:Same H H'):LL K H' a rs:=by
 obtain ⟨ps,h1,h2,h3⟩:=h;exact ⟨ps,s.seq h1,h2,fun i hi=>s _ _ (h3 i hi)⟩
structure RowsAt (B:Hp) (p:Addr) (rs:List (List Int)) (H:Hp):Prop where
 same:Same B H
 new:B p=none
 rows:∃ ps:List Addr,H p=some (.lst (ps.map V.ref))∧ps.length=rs.length∧ps.Nodup∧∀ i,i < rs.length→H (ps.getD i 0)=some (.lst ((rs.getD i []).map V.int))∧B (ps.getD i 0)=none∧ps.getD i 0≠p
theorem RowsAt.start {B H:Hp} {p:Addr} (hp:B p=none) (s:Same B H) (e:H p=some (.lst [])):RowsAt B p [] H :=
 ⟨s,hp,[],e,rfl,List.nodup_nil,fun i hi=>absurd hi (by simp)⟩
theorem zas {α:Type} {xs ys:List α} {d:α} {i:Nat} (h:i < xs.length):(xs++ys).getD i d=xs.getD i d:=by
 rw [List.getD_eq_getElem?_getD,List.getD_eq_getElem?_getD,List.getElem?_append_left h]
theorem zax {α:Type} {xs:List α} {y d:α}:(xs++[y]).getD xs.length d=y:=by
 rw [List.getD_eq_getElem?_getD,List.getElem?_append_right (Nat.le_refl _)];simp
theorem mem_getD {α:Type} {xs:List α} {d a:α} (h:a∈xs):∃ i,i < xs.length∧xs.getD i d=a:=by
 obtain ⟨k,hk,e⟩:=List.getElem_of_mem h;exact ⟨k,hk,by rw [List.getD_eq_getElem?_getD,List.getElem?_eq_getElem hk,e];rfl⟩
theorem RowsAt.push {B H H2 H3:Hp} {p q:Addr} {rs:List (List Int)} {r:List Int} {zs:List V} (R:RowsAt B p rs H) (hq:H q=none) (s:Same H H2) (e:H2 q=some (.lst (r.map V.int))) (hz:H2 p=some (.lst zs)) (b:But p H2 H3) (e3:H3 p=some (.lst (zs++[.ref q]))):RowsAt B p (rs++[r]) H3:=by
 obtain ⟨sb,hp,ps,h1,h2,nd,h3⟩:=R;have ez:zs=ps.map V.ref:=by
  have:=s p _ h1;rw [hz] at this;exact (HO.lst.inj (Option.some.inj this))
 subst ez;have hBq:B q=none:=sb.free hq;have hqp:q≠p:=(zag h1 hq).symm;refine ⟨(sb.trans s).but b hp,hp,ps++[q],by rw [e3,List.map_append];rfl,by simp [h2],?_,fun i hi=>?_⟩
 ·refine List.nodup_append.mpr ⟨nd,by simp,fun a ha c hc=>?_⟩;have hc':c=q:=by simpa using hc
  subst hc';obtain ⟨k,hk,ek⟩:=mem_getD (d:=0) ha;have:=(h3 k (by omega)).1;rw [ek] at this;exact zag this hq
 ·rw [List.length_append,List.length_singleton] at hi
  by_cases hlt:i < rs.length
  ·obtain ⟨a1,a2,a3⟩:=h3 i hlt;rw [zas (by omega),zas hlt];refine ⟨?_,a2,a3⟩;rw [b _ a3];exact s _ _ a1
  ·have ei:i=rs.length:=by omega
   subst ei;rw [zax,← h2,zax];refine ⟨?_,hBq,hqp⟩;rw [b _ hqp];exact e
theorem RowsAt.ll {K:PySem.W.Frag} {B H:Hp} {p:Addr} {rs:List (List Int)} (R:RowsAt B p rs H):LL K H p rs:=by
 obtain ⟨sb,hp,ps,h1,h2,nd,h3⟩:=R;exact ⟨ps,SqL.of h1,h2,fun i hi=>(h3 i hi).1⟩
theorem RowsAt.lst {B H:Hp} {p:Addr} {rs:List (List Int)} (R:RowsAt B p rs H):∃ zs:List V,H p=some (.lst zs)∧zs.length=rs.length:=by
 obtain ⟨sb,hp,ps,h1,h2,nd,h3⟩:=R;exact ⟨_,h1,by rw [List.length_map,h2]⟩
theorem zaz {α:Type} {f:Nat→α} {n i:Nat} {d:α} (h:i < n):((List.range n).map f).getD i d=f i:=by
 rw [List.getD_eq_getElem?_getD,List.getElem?_map,List.getElem?_range h];rfl
theorem ziQ {xs ys:List (List Int)} (hl:xs.length=ys.length) (h:∀ j,j < xs.length→xs.getD j []=ys.getD j []):xs=ys:=by
 refine List.ext_getElem hl fun i h1 h2=>?_;have:=h i h1;rw [List.getD_eq_getElem?_getD,List.getD_eq_getElem?_getD,List.getElem?_eq_getElem h1,List.getElem?_eq_getElem h2] at this;exact this
end L2
namespace L2
open PySem PySem.Spec PyProof.Rows
section
variable {X:Cx} {tg:Expr}
end
section
variable {σ:St} {H:Hp} {i j:Int} {D:Ends} {nx bk ct:St→Hp→Prop} {rt:VK} {n:Nat} {Q:VK}
end
end L2
namespace L2
open PySem PySem.Spec PyProof.Rows
section
variable {X:Cx} {pins:List (Addr×Obj)} {σ:St} {H:Hp} {s:Shared} {h':Heap}
theorem Inv.turnedNew {ch:List Addr} {T:Addr} {o:HO} {t':Nat} (I:Inv X pins σ H s) (k:∀ b ob,b∉ch→s.heap.get? b=some ob→h'.get? b=some ob) (hf:∀ b∈ch,FpOk X pins H b∧∃ ob,h'.get? b=some ob) (hT:s.heap.objs.size≤T)
  (new:zbD X.prog X.w (upd H T o) h' T o):Inv X pins σ (upd H T o) { s with heap:=h',toks:=t' }:=by
 have hn:H T=none:=I.hok.fresh hT;have ne:∀ b ob,s.heap.get? b=some ob→b≠T:=fun b ob e=>Nat.ne_of_lt (Nat.lt_of_lt_of_le (Heap.lt_size e) hT);have nch:∀ b u,H b=some u→b∉ch:=fun b u e z=>by rw [(hf b z).1.1] at e;cases e
 refine I.step (g':=s.gens) (d':=s.drawn) (ch:=ch) (fun b hb=>?_) (fun b ob _ _ hc e _=>k b ob hc e) (fun b ob _ _ hc e _=>⟨ob.slots,k b ob hc e⟩) (fun b ob _ e n=>by rw [zaJ (ne b ob e)];exact n)
  (fun b ob hc e=>⟨ob,k b ob hc e⟩) (fun b xs e=>by rw [zaJ (zag e hn)];exact e) (fun b ob u e=>by rw [zaJ (zag e hn)];exact e) (fun b ps e=>⟨#[],by rw [zaJ (zag e hn),e];simp⟩) (fun m hm=>?_) (fun b u e=>?_) I.bare
 ·obtain ⟨⟨f0,f1,f2,f3,f4,f5⟩,_⟩:=hf b hb;exact ⟨f3,f1,f4,f5⟩
 ·obtain ⟨ob,es,ep,ho,r⟩:=hm;exact ⟨ob,es,ep,k _ ob (fun z=>(hf _ z).1.2.1 rfl) ho,r⟩
 ·by_cases hb:b=T
  ·subst hb;rw [zar] at e;cases e;exact new
  ·rw [zaJ hb] at e;refine (I.hok b u e).stay (fun c v hc q=>k c v ?_ q) (fun c q=>by rw [zaJ (zag q hn)];exact q) fun c xs q=>by rw [zaJ (zag q hn)];exact q
   rcases hc with z | z
   ·rw [z];exact nch b u e
   ·exact nch c _ z
theorem Inv.turnedL {ch:List Addr} {t':Nat} (I:Inv X pins σ H s) (k:∀ b ob,b∉ch→s.heap.get? b=some ob→h'.get? b=some ob) (hf:∀ b∈ch,FpOk X pins H b):Inv X pins σ H { s with heap:=h',toks:=t' }:=by
 have nch:∀ b u,H b=some u→b∉ch:=fun b u e z=>by rw [(hf b z).1] at e;cases e
 refine I.step (g':=s.gens) (d':=s.drawn) (ch:=ch) (fun b hb=>?_) (fun b ob _ _ hc e _=>k b ob hc e) (fun b ob _ _ hc e _=>⟨ob.slots,k b ob hc e⟩) (fun b ob _ e n=>n)
  (fun b ob hc e=>⟨ob,k b ob hc e⟩) (fun b xs e=>e) (fun b ob u e=>e) (fun b ps e=>⟨#[],by rw [e];simp⟩) (fun m hm=>?_) (fun b u e=>?_) I.bare
 ·obtain ⟨f0,f1,f2,f3,f4,f5⟩:=hf b hb;exact ⟨f3,f1,f4,f5⟩
 ·obtain ⟨ob,es,ep,ho,r⟩:=hm;exact ⟨ob,es,ep,k _ ob (fun z=>(hf _ z).2.1 rfl) ho,r⟩
 ·refine (I.hok b u e).stay (fun c v hc q=>k c v ?_ q) (fun c q=>q) fun c xs q=>q;rcases hc with z | z
  ·rw [z];exact nch b u e
  ·exact nch c _ z
end
def Itz (K:PySem.W.Frag) (a b:Addr):It :=
 ⟨fun i H=>∃ xs ys x y,SqL K H a xs∧SqL K H b ys∧xs[i]? = some x∧ys[i]? = some y,
  fun i H v H'=>∃ T,H T=none∧v=.ref T∧∀ xs ys,SqL K H a xs→SqL K H b ys→∃ x y,xs[i]? = some x∧ys[i]? = some y∧H'=upd H T (.tup [x,y]),
  fun i H=>∃ xs ys,SqL K H a xs∧SqL K H b ys∧(xs.length≤i∨ys.length≤i)⟩
theorem zka {P:Program} {w:World} {K:PySem.W.Frag} {elts:List Expr} {x1:Nat} {tpos:Pos} {l1 l2 z TI TO i1 i2:Addr} (D:ZipApart z TI TO i1 i2 l1 l2) :
  Turn P w K (.Tuple elts x1 tpos) (Itz K l1 l2) [z,TI,TO,i1,i2] z (fun i h=>IsZip h z TI TO .none∧IsPair h TI (.ref i1) (.ref i2)∧(∃ a b,IsPair h TO a b)∧h.IsListIter i1 l1 i∧h.IsListIter i2 l2 i) where
 mem:=by simp
 obj:=fun i h st b hb=>by
  obtain ⟨h1,h2,⟨_,_,h3⟩,⟨o4,h4,c4,d4⟩,⟨o5,h5,c5,d5⟩⟩:=st;simp only [List.mem_cons,List.not_mem_nil,or_false] at hb;rcases hb with rfl | rfl | rfl | rfl | rfl
  ·exact ⟨_,h1,fun v z=>by cases z⟩
  ·exact ⟨_,h2,fun v z=>by cases z⟩
  ·exact ⟨_,h3,fun v z=>by cases z⟩
  ·exact ⟨_,h4,fun v z=>by rw [d4] at z;cases z⟩
  ·exact ⟨_,h5,fun v z=>by rw [d5] at z;cases z⟩
 keep:=fun i h h' st k=>by
  obtain ⟨h1,h2,⟨a,b,h3⟩,h4,h5⟩:=st;exact ⟨k z (by simp) _ h1,k TI (by simp) _ h2,⟨a,b,k TO (by simp) _ h3⟩,h4.at fun o e=>k i1 (by simp) o e,h5.at fun o e=>k i2 (by simp) o e⟩
 item:=by
  intro X hP hw hK hc i pins s σ H E I hf st hg;subst hP hw hK;obtain ⟨xs,ys,x,y,hq1,hq2,hx,hy⟩:=hg;obtain ⟨its1,rv1,p1,hz1⟩:=I.list hq1;obtain ⟨its2,rv2,p2,hz2⟩:=I.list hq2;obtain ⟨u1,hu1,ru1⟩:=rv1.get hx;obtain ⟨u2,hu2,ru2⟩:=rv2.get hy;obtain ⟨g1,g2,⟨ta,tb,g3⟩,g4,g5⟩:=st;refine wpAny_pyNext_zip_item D g1 g2 g3 g4 g5 p1.isList p2.isList (x:=u1) (y:=u2) (by simpa using hu1) (by simpa using hu2) fun h' a1 a2 a3 a4 a5 a6 hk=>?_;refine ⟨_,rfl,?_⟩;refine wpAny_letOwnedTupleGo_zip a1 fun h2 b1 hs2=>?_;have hTn:H s.heap.objs.size=none:=I.hok.fresh (Nat.le_refl _);have ltz:∀ b∈[z,TI,TO,i1,i2],b≠s.heap.objs.size:=fun b hb=>by
   obtain ⟨⟨o,e⟩⟩:∃ o,s.heap.get? b=some o:=by
    obtain ⟨o4,e4,_⟩:=g4;obtain ⟨o5,e5,_⟩:=g5;simp only [List.mem_cons,List.not_mem_nil,or_false] at hb;rcases hb with rfl | rfl | rfl | rfl | rfl
    ·exact ⟨_,g1⟩
    ·exact ⟨_,g2⟩
    ·exact ⟨_,g3⟩
    ·exact ⟨_,e4⟩
    ·exact ⟨_,e5⟩
   exact Nat.ne_of_lt (Heap.lt_size ‹_›)
  have keep:∀ b ob,b∉[z,TO,i1,i2]→s.heap.get? b=some ob→h2.get? b=some ob:=fun b ob hb e=>by
   simp only [List.mem_cons,List.not_mem_nil,or_false,not_or] at hb;obtain ⟨n1,n2,n3,n4⟩:=hb;exact hs2.extBut b ob n1 (hk b ob n1 n2 n3 n4 e)
  have pT:IsPair h2 s.heap.objs.size u1 u2:=hs2.extBut _ _ (ltz z (by simp)).symm a5;have c4:h2.IsListIter i1 l1 (i+1):=a3.extBut hs2.extBut D.i1z;have c5:h2.IsListIter i2 l2 (i+1):=a4.extBut hs2.extBut D.i2z;have c3:IsPair h2 TO u1 u2:=hs2.extBut _ _ D.TOz a2;have c2:IsPair h2 TI (.ref i1) (.ref i2):=hs2.extBut _ _ D.TIz (hk _ _ D.TIz D.TITO D.TIi1 D.TIi2 g2);refine ⟨.ref s.heap.objs.size,upd H s.heap.objs.size (.tup [x,y]),?_,rfl,⟨_,hTn,rfl,fun xs' ys' q1' q2'=>?_⟩,⟨b1,c2,⟨_,_,c3⟩,c4,c5⟩,fun b hb=>?_⟩
  ·refine I.turnedNew (t':=s.toks) (ch:=[z,TO,i1,i2]) keep (fun b hb=>⟨hf b ?_,?_⟩) (Nat.le_refl _) ?_
   ·simp only [List.mem_cons,List.not_mem_nil,or_false] at hb ⊢;rcases hb with rfl | rfl | rfl | rfl <;> simp
   ·obtain ⟨o4,e4,_⟩:=c4;obtain ⟨o5,e5,_⟩:=c5;simp only [List.mem_cons,List.not_mem_nil,or_false] at hb;rcases hb with rfl | rfl | rfl | rfl
    ·exact ⟨_,b1⟩
    ·exact ⟨_,c3⟩
    ·exact ⟨_,e4⟩
    ·exact ⟨_,e5⟩
   ·exact ⟨by show 2≤sizeLine;rw [sizeLine_eq];decide,[u1,u2],.cons ru1 (.cons ru2 .nil),_,pT,rfl,_,rfl⟩
  ·rw [I.list_inj q1' hq1,I.list_inj q2' hq2];exact ⟨x,y,hx,hy,rfl⟩
  ·rw [zaJ (ltz b hb)];exact (hf b hb).1
 done:=by
  intro X hP hw hK hc i pins s σ H E I hf st hg;subst hP hw hK;obtain ⟨xs,ys,hq1,hq2,hx⟩:=hg;obtain ⟨its1,rv1,p1,hz1⟩:=I.list hq1;obtain ⟨its2,rv2,p2,hz2⟩:=I.list hq2;obtain ⟨g1,g2,⟨ta,tb,g3⟩,g4,g5⟩:=st;have hl1:=rv1.length;have hl2:=rv2.length;refine wpAny_pyNext_zip_end (I.ok.hd hc) D g1 g2 g3 g4 g5 p1.isList p2.isList ?_ fun h' hk=>⟨rfl,I.turnedL (t':=s.toks) (ch:=[z,TI,TO,i1,i2]) (fun b ob hb e=>?_) hf⟩
  ·rcases hx with hx | hx
   ·exact .inl (Array.getElem?_eq_none (by simp;omega))
   ·exact .inr (Array.getElem?_eq_none (by simp;omega))
  ·simp only [List.mem_cons,List.not_mem_nil,or_false,not_or] at hb;obtain ⟨n1,n2,n3,n4,n5⟩:=hb;exact hk b ob n1 n3 n4 n5 e
 self:=fun _ _ _ _ _ st h=>wpAny_pyIter_zip st.1 h
section
variable {X:Cx} {K:PySem.W.Frag}
def iZip (K:PySem.W.Frag) (ta:TA):TI:=fun σ H R=>ta σ H fun vs H1=>∃ a b xs ys,vs=[.ref a,.ref b]∧SqL K H1 a xs∧SqL K H1 b ys∧R (Itz K a b) H1
theorem ziR {a b:Expr} {ta:TA} {p pos tpos:Pos} {elts:List Expr} {x1:Nat} (hK:X.K=K) (hg:Gl X "zip") (hm:X.mg "zip" = none) (ha:PA X [a,b] ta) (hs:starEach [a,b] X.env=(false,eval a X.env)::starEach [b] X.env:=by rfl)
  (hs2:(backTo pos (starEach [b] X.env)).any (·.1)=false:=by rfl):PI X (.Tuple elts x1 tpos) (.Call (.Name "zip" p) [a,b] [] pos) (iZip K ta):=by
 subst hK;intro pins s σ H R I h;refine Call_ (zdi I hg hm boot_zip (PyProof.Rows.callWith_type1 (thn (ha pos pins s σ H _ I h) fun us s1 ⟨vs,H1,I1,r1,q1⟩=>?_) hs hs2));obtain ⟨l1,l2,xs,ys,e,q1,q2,q⟩:=q1;subst e;obtain ⟨v1,v2,rfl,r1,r2⟩:=Vals.two r1
 cases r1
 cases r2
 obtain ⟨its1,rv1,p1,hz1⟩:=I1.list q1;obtain ⟨its2,rv2,p2,hz2⟩:=I1.list q2;refine call_zip_2 p1.isList p2.isList fun h' hz hTI hTO hi1 hi2 hsz hk=>?_;refine wpAny_pyIter_zip hz ?_;obtain ⟨o1,e1,_⟩:=p1.isList;obtain ⟨o2,e2,_⟩:=p2.isList;have L1:=Heap.lt_size e1;have L2:=Heap.lt_size e2;have I2:Inv X pins σ H1 { s1 with heap:=h' }:=I1.kept (t':=s1.toks) hk;have nn:∀ k l:Nat,k≠l→s1.heap.objs.size+k≠s1.heap.objs.size+l:=fun k l hkl z=>hkl (Nat.add_left_cancel z);have n0:∀ k:Nat,0 < k→s1.heap.objs.size≠s1.heap.objs.size+k:=fun k hk=>by omega
 have D:ZipApart (s1.heap.objs.size+4) (s1.heap.objs.size+2) (s1.heap.objs.size+3) s1.heap.objs.size (s1.heap.objs.size+1) l1 l2:=by
  have m1:∀ k:Nat,l1≠s1.heap.objs.size+k:=fun k=>Nat.ne_of_lt (Nat.lt_of_lt_of_le L1 (Nat.le_add_right _ _));have m2:∀ k:Nat,l2≠s1.heap.objs.size+k:=fun k=>Nat.ne_of_lt (Nat.lt_of_lt_of_le L2 (Nat.le_add_right _ _));exact ⟨nn 2 4 (by decide),nn 3 4 (by decide),n0 4 (by decide),nn 1 4 (by decide),nn 2 3 (by decide),(n0 2 (by decide)).symm,nn 2 1 (by decide),(n0 3 (by decide)).symm,nn 3 1 (by decide),n0 1 (by decide),m1 4,m1 3,m1 0,m1 1,m2 4,m2 3,m2 0,m2 1⟩
 refine ⟨s1.heap.objs.size+4,_,_,Itz X.K l1 l2,H1,rfl,I2,zka D,⟨hz,hTI,⟨_,_,hTO⟩,hi1,hi2⟩,fun b hb=>?_,q⟩;have hge:s1.heap.objs.size≤b:=by
  simp only [List.mem_cons,List.not_mem_nil,or_false] at hb;rcases hb with rfl | rfl | rfl | rfl | rfl
  ·exact Nat.le_add_right _ _
  ·exact Nat.le_add_right _ _
  ·exact Nat.le_add_right _ _
  ·exact Nat.le_refl _
  ·exact Nat.le_add_right _ _
 exact I1.fpOk hge (I1.hok.fresh hge)
theorem zdI {es:List Expr} {k:Nat} {t:TGs} {n:Nat} {pos:Pos} (hK:X.K=K) (hc:X.calm=true) (h:PGs X es t)
  (hn:(assignEach es X.env).length=n:=by rfl) (hst:(assignEach es X.env).findIdx? (·.1)=none:=by rfl):PG X (.Tuple es k pos) (gTup K n t):=hK▸zmm hc h hn hst
end
section
variable {σ:St} {H:Hp} {D:Ends} {nx bk ct:St→Hp→Prop} {rt:VK} {K:PySem.W.Frag} {Q:VK}
theorem zlC {a b:Addr} {xs ys:List V} {P:Addr→Addr→Prop} (h1:SqL K H a xs) (h2:SqL K H b ys) (q:P a b):∃ a' b' xs ys,[V.ref a,V.ref b]=[.ref a',.ref b']∧SqL K H a' xs∧SqL K H b' ys∧P a' b':=⟨a,b,xs,ys,rfl,h1,h2,q⟩
end
theorem zmS {b:Bool} {t u:TS} {nx bk ct:St→Hp→Prop} {rt:VK} {σ:St} {H:Hp} (M:St→Hp→Prop) (h1:b=true→∀ nx':St→Hp→Prop,(∀ σ' H',M σ' H'→nx' σ' H')→t ⟨nx',rt,bk,ct⟩ σ H)
  (h2:b=false→∀ nx':St→Hp→Prop,(∀ σ' H',M σ' H'→nx' σ' H')→u ⟨nx',rt,bk,ct⟩ σ H) (rest:∀ σ' H',M σ' H'→nx σ' H'):if b=true then t ⟨nx,rt,bk,ct⟩ σ H else u ⟨nx,rt,bk,ct⟩ σ H:=by
 cases b with
 | true=>exact h1 rfl nx rest
 | false=>exact h2 rfl nx rest
theorem zlD {t u:TS} {nx bk ct:St→Hp→Prop} {rt:VK} {σ:St} {H:Hp} (M:St→Hp→Prop) (h1:∀ nx':St→Hp→Prop,(∀ σ' H',M σ' H'→nx' σ' H')→t ⟨nx',rt,bk,ct⟩ σ H)
  (h2:∀ σ' H',M σ' H'→u ⟨nx,rt,bk,ct⟩ σ' H'):tSeq t u ⟨nx,rt,bk,ct⟩ σ H:=h1 _ h2
section
variable {X:Cx} {K:PySem.W.Frag}
def eqVs:List V→List V→Bool
 | [],[]=>true
 | x::xs,y::ys=>eqV x y && eqVs xs ys
 | _,_=>false
theorem eqVs_len:∀ {xs ys:List V},xs.length≠ys.length→eqVs xs ys=false
 | [],[],h=>absurd rfl h
 | [],_::_,_=>rfl
 | _::_,[],_=>rfl
 | x::xs,y::ys,h=>by
   unfold eqVs;rw [eqVs_len (xs:=xs) (ys:=ys) (fun e=>h (by simp [e])),Bool.and_false]
theorem eqVs_all:∀ {xs ys:List V},xs.length=ys.length→(List.range xs.length).all (fun j=>eqV (xs.getD j .non) (ys.getD j .non))=eqVs xs ys
 | [],[],_=>rfl
 | x::xs,y::ys,h=>by
   have ih:=eqVs_all (xs:=xs) (ys:=ys) (by simpa using h);rw [List.length_cons,List.range_succ_eq_map,List.all_cons,List.all_map];unfold eqVs;rw [← ih];rfl
theorem eqVs_ints:∀ {xs ys:List Int},eqVs (xs.map V.int) (ys.map V.int)=decide (xs=ys)
 | [],[]=>rfl
 | [],_::_=>rfl
 | _::_,[]=>rfl
 | x::xs,y::ys=>by
   rw [List.map_cons,List.map_cons];unfold eqVs;rw [eqVs_ints]
   by_cases h:x=y
   ·subst h;simp [eqV]
   ·simp [eqV,h]
def rEqL (K:PySem.W.Frag):R2:=fun x y H Q=>∃ a b xs ys,x=.ref a∧y=.ref b∧SqL K H a xs∧SqL K H b ys∧xs.all flatV=true∧ys.all flatV=true∧Q (.bl (eqVs xs ys)) H
theorem zmT (hu:X.A.units < cLine):OpR X (compareOp .Eq) (rEqL X.K):=by
 intro pins s σ H x y v u Q I rx ry h;obtain ⟨a,b,xs,ys,rfl,rfl,h1,h2,f1,f2,q⟩:=h
 cases rx
 cases ry
 obtain ⟨its1,r1,p1,z1⟩:=I.list h1;obtain ⟨its2,r2,p2,z2⟩:=I.list h2;have l1:=r1.length;have l2:=r2.length
 by_cases hl:xs.length=ys.length
 ·refine SeqAt.eq_listAt (e:=fun j=>eqV (xs.getD j .non) (ys.getD j .non)) p1.isList p2.isList (by simp;omega) hu (fun j h1 h2=>?_) ⟨.bl _,H,I,rfl,?_⟩
  ·simp only [List.size_toArray] at h1 h2;have e1:xs[j]? = some (xs.getD j .non):=by rw [List.getD_eq_getElem?_getD,List.getElem?_eq_getElem (by omega)];rfl
   have e2:ys[j]? = some (ys.getD j .non):=by rw [List.getD_eq_getElem?_getD,List.getElem?_eq_getElem (by omega)];rfl
   obtain ⟨u1,a1,b1⟩:=r1.get e1;obtain ⟨u2,a2,b2⟩:=r2.get e2;have c1:its1.toArray[j]=u1:=by simpa [List.getElem?_eq_getElem h1] using a1
   have c2:its2.toArray[j]=u2:=by simpa [List.getElem?_eq_getElem h2] using a2
   rw [c1,c2];exact ziF b1 b2 (List.all_eq_true.mp f1 _ (List.mem_of_getElem? e1)) (List.all_eq_true.mp f2 _ (List.mem_of_getElem? e2))
  ·have e:its1.toArray.size=xs.length:=by simp;omega
   rw [e,eqVs_all hl];exact q
 ·refine SeqAt.eq_list_lengthsAt p1.isList p2.isList (by simp;omega) hu ⟨.bl false,H,I,rfl,?_⟩;rw [← eqVs_len hl];exact q
def zlE (K:PySem.W.Frag):R2:=fun x y H Q=>rEq x y H Q∨rEqL K x y H Q
theorem zlF (h:X.K=K) (hu:X.A.units < cLine):OpR X (compareOp .Eq) (zlE K):=op_eq.or (h▸zmT hu)
end
section
variable {H:Hp} {K:PySem.W.Frag} {Q:VK} {i j:Int}
theorem zlG (q:Q (.bl (decide (i=j))) H):zlE K (.int i) (.int j) H Q:=.inl (znX q)
theorem zlH {x:Int} {xs:List Int}:inV (.int x) (xs.map V.int)=decide (x∈xs):=by
 unfold inV;rw [Bool.eq_iff_iff,List.any_eq_true];simp only [List.mem_map,decide_eq_true_eq];constructor
 ·rintro ⟨v,⟨y,hy,rfl⟩,e⟩;have e':y=x:=by simpa [eqV] using e
  rw [← e'];exact hy
 ·intro h;exact ⟨_,⟨x,h,rfl⟩,by simp [eqV]⟩
theorem zoa {a:Addr} {xs:List Int} (h:SqL K H a (xs.map V.int)) (q:Q (.bl (decide (i∈xs))) H):rIn K false (.int i) (.ref a) H Q :=
 ⟨a,_,rfl,.inl h,rfl,by simp [flatV],by rw [zlH];exact q⟩
end
end L2
namespace L2
open PySem PySem.Spec PyProof.Rows
def zdT (a:Option Int) (x:Int):Option Int:=match a with
 | none=>some x
 | some m=>if x > m then some x else some m
theorem zep {m x:Int}:zdT (some m) x=if m < x then some x else some m:=rfl
def mxOf (a:Option Int) (ns:List Int):Option Int:=ns.foldl zdT a
def zmU (h:Heap) (S:Addr) (a:Option Int):Prop:=∃ (c:Nat),match a with
 | none=>h.get? S=some { cls:=.type "list",data:=.seq #[] c }
 | some m=>∃ t,h.get? S=some { cls:=.type "list",data:=.seq #[.int m t,.int m t] c }
section
variable {prog:Program} {w:World} {A:Around} {R:Result→Shared→Prop}
theorem zlI {I l S:Addr} {us:List Value} {ns:List Int} {d:Value} (hh:A.handled=none) (hlI:l≠I) (hSI:S≠I) (hSl:S≠l) (ru:Vals (ns.map V.int) us) :
  ∀ (k j:Nat) (a:Option Int) (s:Shared),j+k=ns.length→s.heap.IsListIter I l j→s.heap.IsList l us.toArray→zmU s.heap S a →
   (∀ v h' tk,(match mxOf a (ns.drop j) with | none=>v=d | some m=>∃ t,v=.int m t)→(∀ b o,b≠I→b≠S→s.heap.get? b=some o→h'.get? b=some o)→R (.ok (.ret v)) { s with heap:=h',toks:=tk }) →
   codeAny (model prog w) A (.builtin "max.loop" ⟨[.ref I,.none,.ref S],[(Str.ofString "default",d)]⟩) R s:=by
 have lus:us.length=ns.length:=by have:=ru.length;rw [List.length_map] at this;exact this.symm
 have W:=Walks.list (prog:=prog) (w:=w) (A:=A.in1) (show A.in1.handled=none from hh) I l hlI us.toArray;have hname:(toString "max"++toString ".loop" : String) = "max.loop":=by decide
 intro k
 induction k with
 | zero =>
   intro j a s hj hit hls hb hR;have ej:j=us.toArray.size:=by simp;omega
   refine codeAny_builtin (b:=Builtin.«max.loop») PySem.F.entry_max_loop ?_;rw [show A.under (.builtin "max.loop" _)=A.in1 from Around.under_plainId PySem.F.plain_max_loop _];have ed:mxOf a (ns.drop j)=a:=by rw [List.drop_eq_nil_of_le (by omega)];rfl
   rw [ed] at hR;obtain ⟨c,hb⟩:=hb
   cases a with
   | none =>
     show wpAny _ A.in1 ((seqItems? (.ref S)) >>= _) _ _ _;refine wpAny_bind (wpAny_seqItems (o:={ cls:=.type "list",data:=.seq #[] c }) hb rfl ?_);refine wpAny_bind (m:=tryCatch (pyNext (.ref I)) _) (wpAny_tryCatch (W.done s _ _ (ej▸⟨hit,hls⟩) fun h' tk kk=>?_));refine wpAny_bind (wpAny_rule (wpAny_pure ?_));exact hR d h' tk rfl fun b o h1 _ e=>kk b o (by simpa using h1) e
   | some m =>
     obtain ⟨t,hb⟩:=hb;show wpAny _ A.in1 ((seqItems? (.ref S)) >>= _) _ _ _;refine wpAny_bind (wpAny_seqItems (o:={ cls:=.type "list",data:=.seq #[.int m t,.int m t] c }) hb rfl ?_);refine wpAny_bind (m:=tryCatch (pyNext (.ref I)) _) (wpAny_tryCatch (W.done s _ _ (ej▸⟨hit,hls⟩) fun h' tk kk=>?_));have hb':=kk S _ (by simpa using hSI) hb;show wpAny _ A.in1 ((updateSeq S fun _=>#[]) >>= _) _ _ _;refine wpAny_bind (wpAny_updateSeq hb' rfl (wpAny_bind (wpAny_letGo (wpAny_pure ?_))));refine hR (.int m t) _ tk ⟨t,rfl⟩ fun b o h1 h2 e=>?_;exact (Heap.get?_update_other _ _ (Ne.symm h2)).trans (kk b o (by simpa using h1) e)
 | succ k ih =>
   intro j a s hj hit hls hb hR;have hjn:j < ns.length:=by omega
   have hlt:j < us.toArray.size:=by simp;omega
   have dj:ns.drop j=ns[j]::ns.drop (j+1):=List.drop_eq_getElem_cons hjn;obtain ⟨u,hu,ru'⟩:=ru.get (i:=j) (x:=.int ns[j]) (by rw [List.getElem?_map,List.getElem?_eq_getElem hjn];rfl);obtain ⟨tu,eu⟩:=ru';refine codeAny_builtin (b:=Builtin.«max.loop») PySem.F.entry_max_loop ?_;rw [show A.under (.builtin "max.loop" _)=A.in1 from Around.under_plainId PySem.F.plain_max_loop _];obtain ⟨c,hb⟩:=hb
   cases a with
   | none =>
     show wpAny _ A.in1 ((seqItems? (.ref S)) >>= _) _ _ _;refine wpAny_bind (wpAny_seqItems (o:={ cls:=.type "list",data:=.seq #[] c }) hb rfl ?_);refine wpAny_bind (m:=tryCatch (pyNext (.ref I)) _) (wpAny_tryCatch (W.item j s _ _ hlt ⟨hit,hls⟩ fun v h' tk hv st' kk=>?_));have ev:v=.int ns[j] tu:=by
      have hv':us.toArray[j]? = some v:=hv;rw [List.getElem?_toArray,hu] at hv';rw [← eu];exact (Option.some.inj hv').symm
     subst ev;have hb':=kk S _ (by simpa using hSI) hb;show wpAny _ A.in1 ((updateSeq S fun _=>#[Value.int ns[j] tu,Value.int ns[j] tu]) >>= _) _ _ _;refine wpAny_bind (wpAny_updateSeq hb' rfl ?_);rw [hname];have o1:∀ b o,b≠S→h'.get? b=some o→(h'.update S (Obj.mapSeq fun _=>#[Value.int ns[j] tu,Value.int ns[j] tu])).get? b=some o:=fun b o hbS e=>(Heap.get?_update_other _ _ (Ne.symm hbS)).trans e;refine wpAny_pure ⟨plainId_quiet PySem.F.plain_max_loop _,ih (j+1) (some ns[j]) _ (by omega) (st'.1.at fun o e=>o1 I o (Ne.symm hSI) e) (st'.2.at fun o e=>o1 l o (Ne.symm hSl) e) ⟨_,tu,Heap.get?_update_self _ hb' rfl⟩ fun v' h'' tk'' hv' k''=>?_⟩;refine hR v' h'' tk'' ?_ fun b o h1 h2 e=>k'' b o h1 h2 (o1 b o h2 (kk b o (by simpa using h1) e));rw [dj];exact hv'
   | some m =>
     obtain ⟨t,hb⟩:=hb;show wpAny _ A.in1 ((seqItems? (.ref S)) >>= _) _ _ _;refine wpAny_bind (wpAny_seqItems (o:={ cls:=.type "list",data:=.seq #[.int m t,.int m t] c }) hb rfl ?_);refine wpAny_bind (m:=tryCatch (pyNext (.ref I)) _) (wpAny_tryCatch (W.item j s _ _ hlt ⟨hit,hls⟩ fun v h' tk hv st' kk=>?_));have ev:v=.int ns[j] tu:=by
      have hv':us.toArray[j]? = some v:=hv;rw [List.getElem?_toArray,hu] at hv';rw [← eu];exact (Option.some.inj hv').symm
     subst ev;have hb':=kk S _ (by simpa using hSI) hb;refine wpAny_bind (m:=tryCatch (holding [Value.int ns[j] tu,Value.int ns[j] tu] (richCompare .Gt (Value.int ns[j] tu) (.int m t) >>= _)) _) (wpAny_tryCatch (wpAny_holding (wpAny_bind ?_)));refine (gt_int ?_:wpAny (model prog w) A.in1 (compareOp .Gt (.int ns[j] tu) (.int m t)) _ _ _);refine wpAny_bind (wpAny_holding (wpAny_truthy_bool (wpAny_bind (wpAny_letGo (wpAny_pure ?_)))));have o1:∀ b o,b≠S→h'.get? b=some o→(h'.update S (Obj.mapSeq fun _=>#[Value.int ns[j] tu,Value.int ns[j] tu])).get? b=some o:=fun b o hbS e=>(Heap.get?_update_other _ _ (Ne.symm hbS)).trans e
     by_cases hgt:m < ns[j]
     ·rw [show decide (m < ns[j])=true from decide_eq_true hgt];simp only [if_true];refine wpAny_bind (wpAny_updateSeq hb' rfl (wpAny_bind (wpAny_letGo ?_)));rw [hname];refine wpAny_pure ⟨plainId_quiet PySem.F.plain_max_loop _,ih (j+1) (some ns[j]) _ (by omega) (st'.1.at fun o e=>o1 I o (Ne.symm hSI) e) (st'.2.at fun o e=>o1 l o (Ne.symm hSl) e) ⟨_,tu,Heap.get?_update_self _ hb' rfl⟩ fun v' h'' tk'' hv' k''=>?_⟩;refine hR v' h'' tk'' ?_ fun b o h1 h2 e=>k'' b o h1 h2 (o1 b o h2 (kk b o (by simpa using h1) e));rw [dj];have e1:mxOf (some m) (ns[j]::ns.drop (j+1))=mxOf (some ns[j]) (ns.drop (j+1)):=by
       show mxOf (zdT (some m) ns[j]) _=_;rw [zep,if_pos hgt]
      rw [e1];exact hv'
     ·rw [show decide (m < ns[j])=false from decide_eq_false hgt];simp only [Bool.false_eq_true,if_false];refine wpAny_bind (wpAny_letGo ?_);rw [hname];refine wpAny_pure ⟨plainId_quiet PySem.F.plain_max_loop _,ih (j+1) (some m) _ (by omega) st'.1 st'.2 ⟨c,t,hb'⟩ fun v' h'' tk'' hv' k''=>?_⟩;refine hR v' h'' tk'' ?_ fun b o h1 h2 e=>k'' b o h1 h2 (kk b o (by simpa using h1) e);rw [dj];have e1:mxOf (some m) (ns[j]::ns.drop (j+1))=mxOf (some m) (ns.drop (j+1)):=by
       show mxOf (zdT (some m) ns[j]) _=_;rw [zep,if_neg hgt]
      rw [e1];exact hv'
end
theorem ziS (a d:Value):argsOk "max" ⟨[a],[(Str.ofString "default",d)]⟩:=by unfold argsOk;kernel_rfl
section
variable {X:Cx} {K:PySem.W.Frag}
def zeq (K:PySem.W.Frag) (x y:V) (H:Hp) (Q:VK):Prop:=∃ a ns d,x=.ref a∧y=.int d∧SqL K H a (ns.map V.int)∧Q (.int ((mxOf none ns).getD d)) H
def zkb (K:PySem.W.Frag) (vs zs:List V) (H:Hp) (Q:VK):Prop:=match vs,zs with
 | [x],[y]=>zeq K x y H Q
 | _,_=>False
def zmV (K:PySem.W.Frag) (ta td:TE):TE:=fun σ H Q=>ta σ H fun x H1=>td σ H1 fun y H2=>zeq K x y H2 Q
theorem zeZ {a d:Expr} {ta td:TE} {p pos kpos:Pos} (hK:X.K=K) (hc:X.calm=true) (hg:Gl X "max") (hm:X.mg "max" = none) (ha:PE X a ta) (hd:PE X d td)
  (hs:starEach [a] X.env=(false,eval a X.env)::starEach [] X.env:=by rfl) (hb:bootBuiltins "max" = some (.builtin "max"):=by rfl)
  (he:backTo pos (starEach [a] X.env)=(false,eval a X.env)::backTo pos (starEach [] X.env):=by rfl) (hpl:(backTo pos (starEach [a] X.env)).any (·.1)=false:=by rfl) :
  PE X (.Call (.Name "max" p) [a] [⟨some "default",d,kpos⟩] pos) (zmV K ta td):=by
 subst hK;intro pins s σ H Q I h;refine wpAny_Call_Name_kw (zdi I hg hm hb ?_ (by decide) (by decide));have h':zgA ta tNil σ H fun vs H1=>zgA td tNil σ H1 fun zs H2=>zkb X.K vs zs H2 Q:=h;refine callWith_kw (thn ((zaa ha pa_nil hs) pos pins s σ H _ I h') fun us s1 ⟨vs,H1,I1,r1,q1⟩=>thn ((ziB hd pk_nil) pos pins s1 σ H1 _ I1 q1) fun ws s2 ⟨zs,H2,I2,r2,q2⟩=>?_) he hpl rfl rfl;obtain ⟨x,y,rfl,rfl,l,ns,dd,rfl,rfl,hl,q⟩:∃ x y,vs=[x]∧zs=[y]∧zeq X.K x y H2 Q:=by
  match vs,zs,q2 with
  | [x],[y],q2=>exact ⟨x,y,rfl,rfl,q2⟩
 obtain ⟨u,rfl,ru⟩:=r1.one;obtain ⟨v,rfl,rv⟩:=r2.one
 cases ru
 obtain ⟨td',rfl⟩:=rv;obtain ⟨its,rvs,pl,hz⟩:=I2.list hl;refine kmk_tree PySem.F.kind_max PySem.F.plain_max PySem.F.entry_max (ziS _ _) ?_;have hname:(toString "max"++toString ".loop" : String) = "max.loop":=by decide
 refine wpAny_bind (m:=Builtin.Builtins.bindParams "max" ["key","default"] 0 ⟨[],[(Str.ofString "default",Value.int dd td')]⟩) (wpAny_of_eq (show _=pure [none,some (Value.int dd td')] from rfl) ?_);refine wpAny_bind (wpAny_pure (wpAny_bind (wpAny_pyIter_list pl.isList (wpAny_bind (wpAny_newObj_type ?_)))));rw [hname];have L:=pl.isList;obtain ⟨ol,el,_⟩:=id L;have Ll:=Heap.lt_size el;have hsz:(s2.heap.push { cls:=.type "list_iterator",data:=.fields #[.ref l,.int 0 0] }).objs.size=s2.heap.objs.size+1:=Heap.size_push ..;refine wpAny_pure ⟨plainId_quiet PySem.F.plain_max_loop _,zlI (I:=s2.heap.objs.size) (l:=l) (us:=its) (ns:=ns) (I2.ok.hd hc) (Nat.ne_of_lt Ll) (by rw [hsz];exact Nat.succ_ne_self _) (by rw [hsz];exact Nat.ne_of_gt (Nat.lt_succ_of_lt Ll)) rvs ns.length 0 none _ (by omega) ?_ ?_ ?_ ?_⟩
 ·exact ⟨_,Heap.get?_push_of_some _ (Heap.get?_push_size _ rfl),rfl,rfl⟩
 ·exact L.at fun o e=>Heap.get?_push_of_some _ (Heap.get?_push_of_some _ e)
 ·exact ⟨0,Heap.get?_push_size _ rfl⟩
 ·intro v h' tk hv kk;refine ⟨.int ((mxOf none ns).getD dd),H2,I2.kept (fun b o e=>kk b o (Nat.ne_of_lt (Heap.lt_size e)) (by rw [hsz];exact Nat.ne_of_lt (Nat.lt_succ_of_lt (Heap.lt_size e))) (Heap.get?_push_of_some _ (Heap.get?_push_of_some _ e))),?_,q⟩;rw [List.drop_zero] at hv
  cases em:mxOf none ns with
  | none=>rw [em] at hv;exact ⟨td',hv⟩
  | some m=>rw [em] at hv;exact hv
end
section
variable {σ:St} {H:Hp} {Q:VK} {K:PySem.W.Frag} {ta td:TE}
theorem zmW (h:ta σ H fun x H1=>td σ H1 fun y H2=>zeq K x y H2 Q):zmV K ta td σ H Q:=h
theorem zkc {a:Addr} {ns:List Int} {d:Int} (h:SqL K H a (ns.map V.int)) (q:Q (.int ((mxOf none ns).getD d)) H):zeq K (.ref a) (.int d) H Q:=⟨a,ns,d,rfl,rfl,h,q⟩
end
end L2
namespace Prf
open PySem PySem.Spec PyProof.Rows L2
def zbO (ns:List Int) (k:Int):Int:=if (ns.length:Int)=0 then 0 else ns.getD (k % ns.length).toNat 0+k / ns.length
def lexB:List Int→List Int→Bool
 | x::xs,y::ys=>if x=y then lexB xs ys else decide (x < y)
 | _,_=>false
def zcZ (xs ys:List Int):Bool:=if (xs.length:Int)=ys.length then lexB xs ys else decide ((xs.length:Int) < ys.length)
theorem map_ref_inj:∀ {ps qs:List Addr},ps.map V.ref=qs.map V.ref→ps=qs
 | [],[],_=>rfl
 | p::ps,q::qs,h=>by
   rw [List.map_cons,List.map_cons] at h;obtain ⟨h1,h2⟩:=List.cons.inj h;rw [V.ref.inj h1,map_ref_inj h2]
structure SetM (m:Int) (xs:List Int):Prop where
 up:xs.Pairwise (· < ·)
 rng:∀ x∈xs,1≤x∧x≤m
theorem SetM.len {m:Int}:∀ {xs:List Int} {l:Int},xs.Pairwise (· < ·)→(∀ x∈xs,l < x∧x≤m)→l≤m→(xs.length:Int)≤m-l
 | [],l,_,_,h=>by simp;omega
 | x::r,l,hp,hb,h=>by
   obtain ⟨h1,h2⟩:=List.pairwise_cons.mp hp;have hx:=hb x List.mem_cons_self;have:=SetM.len (l:=x) h2 (fun y hy=>⟨h1 y hy,(hb y (List.mem_cons_of_mem _ hy)).2⟩) hx.2;rw [List.length_cons];omega
theorem SetM.few {m:Int} {xs:List Int} (h:SetM m xs) (m0:0≤m):(xs.length:Int)≤m:=by
 have:=SetM.len (l:=0) h.up (fun x hx=>by have:=h.rng x hx;omega) m0;omega
def zb7 (hs:List Int) (r:List Int) (n:Int) (x:Int):Int:=if r.getD 0 0≠hs.getD (x-1).toNat 0∧n < r.getD 1 0 then n+1 else n
def zbB (hs:List Int) (r:List Int) (xs:List Int):Int:=xs.foldl (zb7 hs r) 0
def zc0 (hs:List Int) (rs:List (List Int)) (xs:List Int):Int:=(rs.map fun r=>zbB hs r xs).sum
theorem zer (hs:List Int) (rs:List (List Int)) (xs:List Int) (i:Nat) (h:i < rs.length):zc0 hs (rs.take (i+1)) xs=zc0 hs (rs.take i) xs+zbB hs (rs.getD i []) xs:=by
 unfold zc0;rw [List.take_add_one,List.getElem?_eq_getElem h,List.map_append,List.sum_append,List.getD_eq_getElem?_getD,List.getElem?_eq_getElem h];simp
theorem zfv {xs:List Int} {i:Nat} {x:V} (hx:(xs.map V.int)[i]? = some x):i < xs.length∧x=.int (xs.getD i 0):=by
 have hi:i < xs.length:=by
  have:=(List.getElem?_eq_some_iff.mp hx).1;simpa using this
 refine ⟨hi,?_⟩;rw [List.getElem?_map,List.getElem?_eq_getElem hi] at hx;rw [List.getD_eq_getElem?_getD,List.getElem?_eq_getElem hi];exact (Option.some.inj hx).symm
theorem ziT {xs:List Addr} {i:Nat} {x:V} (hx:(xs.map V.ref)[i]? = some x):i < xs.length∧x=.ref (xs.getD i 0):=by
 have hi:i < xs.length:=by
  have:=(List.getElem?_eq_some_iff.mp hx).1;simpa using this
 refine ⟨hi,?_⟩;rw [List.getElem?_map,List.getElem?_eq_getElem hi] at hx;rw [List.getD_eq_getElem?_getD,List.getElem?_eq_getElem hi];exact (Option.some.inj hx).symm
theorem getD_mem {α:Type} {xs:List α} {d:α} {i:Nat} (h:i < xs.length):xs.getD i d∈xs:=by
 rw [List.getD_eq_getElem?_getD,List.getElem?_eq_getElem h];exact List.getElem_mem h
end Prf
namespace L2
open PySem PySem.Spec PyProof.Rows
section
variable {X:Cx} {K:PySem.W.Frag}
def cMin2:List V→Hp→VK→Prop:=fun xs H Q=>∃ i j,xs=[.int i,.int j]∧Q (.int (if j < i then j else i)) H
def cMax2:List V→Hp→VK→Prop:=fun xs H Q=>∃ i j,xs=[.int i,.int j]∧Q (.int (if j > i then j else i)) H
theorem zcW (hc:X.calm=true):zcG X (.builtin "min") cMin2:=ziw hc
theorem zhN (hc:X.calm=true):zcG X (.builtin "max") cMax2:=ziv hc
def CBig (i j:Int):Prop:=0 < j∧j < 2 ^ 200
theorem op_fdivB:OpR X (binaryOp .FloorDiv) (rI CBig fun i j=>.int (i / j)):=opI fun i j _ _ _ _ _ hc q=>by
 obtain ⟨h1,h2⟩:=hc;have hl:j.natAbs.log2 < 9000:=by
  have h3:j.natAbs < 2 ^ 200:=by
   have e:(j.natAbs:Int)=j:=Int.natAbs_of_nonneg (by omega);have:(j.natAbs:Int) < ((2 ^ 200:Nat):Int):=by rw [e];exact h2
   exact Int.ofNat_lt.mp this
  have h4:j.natAbs.log2 < 200:=(Nat.log2_lt (by omega)).mpr h3;omega
 refine floordiv_int (by omega) ?_ (.inl (PyProof.noPylong_of_log2 hl));rw [Int.fdiv_eq_ediv_of_nonneg i (by omega)];exact q
end
section
variable {σ:St} {H:Hp} {Q:VK} {K:PySem.W.Frag} {i j:Int} {p:Addr} {xs:List V} {ta:TA} {te:TE} {tl th:TO}
theorem zmX (q:Q (.int (if j < i then j else i)) H):cMin2 [.int i,.int j] H Q:=⟨i,j,rfl,q⟩
theorem zmY (q:Q (.int (if j > i then j else i)) H):cMax2 [.int i,.int j] H Q:=⟨i,j,rfl,q⟩
theorem zmZ {f:Int→Int→V} (c1:0 < j) (c2:j < 2 ^ 200) (q:Q (f i j) H):rI CBig f (.int i) (.int j) H Q:=⟨i,j,rfl,rfl,⟨c1,c2⟩,q⟩
theorem r_sl {r:V→Option Int→Option Int→Hp→VK→Prop} (h:te σ H fun x H1=>tl σ H1 fun l H2=>th σ H2 fun u H3=>r x l u H3 Q):tSl r te tl th σ H Q:=h
theorem zlJ {QO:Option Int→Hp→Prop} (h:QO none H):tNoPart σ H QO:=h
theorem zm0 {QO:Option Int→Hp→Prop} (h:te σ H fun x H1=>∃ i,x=.int i∧QO (some i) H1):zmw te σ H QO:=h
theorem zlK {P:Int→Prop} (h:P i):∃ k,V.int i=.int k∧P k:=⟨i,rfl,h⟩
theorem zbU {lo hi:Option Int} (h:SqL K H p xs) (q:∀ l H2,H l=none→Same H H2→H2 l=some (.lst (cutV xs lo hi))→Q (.ref l) H2):rSlL K (.ref p) lo hi H Q:=⟨p,xs,rfl,h,fun l hl=>q l _ hl (zaH hl) zar⟩
theorem ziU (k:Nat):cutV xs none (some (k:Int))=xs.take k:=by
 unfold cutV;rw [HT.sIx_none,HT.sIx_nat,List.drop_zero,Nat.sub_zero]
 by_cases h:k≤xs.length
 ·rw [Nat.min_eq_left h]
 ·rw [Nat.min_eq_right (by omega),List.take_of_length_le (Nat.le_refl _),List.take_of_length_le (by omega)]
theorem zes (k:Nat):cutV xs (some (k:Int)) none=xs.drop k:=by
 unfold cutV;rw [HT.sIx_none,HT.sIx_nat]
 by_cases h:k≤xs.length
 ·rw [Nat.min_eq_left h,List.take_of_length_le (by rw [List.length_drop];omega)]
 ·rw [Nat.min_eq_right (by omega),List.drop_eq_nil_of_le (Nat.le_refl _),List.drop_eq_nil_of_le (by omega)];simp
theorem zkd {nx bk ct:St→Hp→Prop} {rt:VK} {to ti:TE} (h:te σ H fun x H1=>gSub to ti rSetL x σ H1 nx):tAsg te (gSub to ti rSetL) ⟨nx,rt,bk,ct⟩ σ H:=h
theorem zm1 {to ti:TE} {v:V} {N:St→Hp→Prop} (h:to σ H fun o H1=>ti σ H1 fun i H2=>rSetL o i v H2 fun H3=>N σ H3):gSub to ti rSetL v σ H N:=h
theorem zm2 {n:Nat} {k:Int} (h0:0≤k) (h1:k < n):ixN n k=some k.toNat:=by
 unfold ixN;rw [if_pos h0,if_pos h1]
theorem zhh {v:V} {N:Hp→Prop} (h:H p=some (.lst xs)) (h0:0≤i) (h1:i < xs.length) (q:∀ H2,But p H H2→H2 p=some (.lst (xs.set i.toNat v))→N H2):rSetL (.ref p) (.int i) v H N:=⟨p,xs,i,_,rfl,rfl,h,zm2 h0 h1,q _ But.upd zar⟩
end
end L2
namespace Prf
open PySem PySem.Spec PyProof.Rows L2
def cntB (rows:List (List Int)) (x:Int):Nat:=(rows.filter fun r=>decide (x∈r)).length
theorem zf0 (rows:List (List Int)) (x:Int):((List.range rows.length).filter fun i=>decide (x∈rows.getD i [])).length=cntB rows x:=by
 unfold cntB
 induction rows with
 | nil=>rfl
 | cons r rs ih =>
   rw [List.length_cons,List.range_succ_eq_map,List.filter_cons,List.filter_cons,List.filter_map,];have e:((fun i=>decide (x∈(r::rs).getD i []))∘Nat.succ)=fun i=>decide (x∈rs.getD i []):=by funext i;rfl
   rw [e]
   by_cases h:x∈r
   ·simp only [List.getD_cons_zero,h,decide_true,if_true,List.length_cons,List.length_map];rw [ih]
   ·simp only [List.getD_cons_zero,h,decide_false,Bool.false_eq_true,if_false,List.length_map];exact ih
theorem zed {K:PySem.W.Frag} {σ:L2.St} {H:Hp} {Q:VK} {js:List Nat} {tc:TT} {a:Addr} {ps:List Addr} {rows:List (List Int)} {x:Int} (h1:SqL K H a (ps.map V.ref)) (h2:ps.length=rows.length) (hz:rows.length≤1000)
  (ht:∀ i H' (Q':Bool→Hp→Prop),i < rows.length→Same H H'→Q' (decide (x∈rows.getD i [])) H'→tc (some (.ref (ps.getD i 0))::capV js σ) H' Q')
  (hq:∀ p H2 zs,H p=none→Same H H2→H2 p=some (.lst zs)→zs.length=cntB rows x→Q (.ref p) H2):zeY (Itl K a) js tc (tVar 0) σ H Q:=by
 have ex:∀ i,i < rows.length→(ps.map V.ref).getD i .non=.ref (ps.getD i 0):=fun i hi=>by
  rw [List.getD_eq_getElem?_getD,List.getElem?_map,List.getElem?_eq_getElem (by omega),List.getD_eq_getElem?_getD,List.getElem?_eq_getElem (by omega)];rfl
 have hl:(ps.map V.ref).length=rows.length:=by rw [List.length_map,h2]
 refine zbe (zaU h1) (by rw [hl];exact zaK hz) (fun i=>decide (x∈rows.getD i [])) (fun i=>.ref (ps.getD i 0)) (fun i H' Q' hi s q=>?_) (fun i H' Q' hi s _ q=>?_) fun p hp=>?_
 ·show tc (some ((ps.map V.ref).getD i .non)::capV js σ) H' Q';rw [hl] at hi;rw [ex i hi];exact ht i H' Q' hi s q
 ·show tVar 0 (some ((ps.map V.ref).getD i .non)::capV js σ) H' Q';rw [hl] at hi;rw [ex i hi];exact zhL (i:=0) rfl q
 ·refine hq p _ _ hp (zaH hp) zar ?_;rw [List.length_map,hl,zf0]
end Prf
namespace L2
open PySem PySem.Spec PyProof.Rows
section
variable {X:Cx} {K:PySem.W.Frag}
def rIsN:R2:=fun x y H Q=>y=.non∧Q (.bl (decide (x=.non))) H
theorem op_isNN:OpR X (compareOp .Is) rIsN:=op_isN
def zlL (i j:Int):Prop:=CMul i j∨((-(2 ^ 210) < i∧i < 2 ^ 210)∧-(2 ^ 210) < j∧j < 2 ^ 210)
theorem ziV {k:Int} (h1 : -(2 ^ 210) < k) (h2:k < 2 ^ 210):Builtin.Int.intBits k≤210:=by
 unfold Builtin.Int.intBits;split
 ·exact Nat.zero_le _
 ·have hn:k.natAbs < 2 ^ 210:=by omega
  have:k.natAbs.log2 < 210:=by
   rcases Nat.eq_zero_or_pos k.natAbs with h0 | hp
   ·rw [h0];decide
   ·exact (Nat.log2_lt (by omega)).mpr hn
  omega
theorem op_mulB:OpR X (binaryOp .Mult) (rI zlL fun i j=>.int (i * j)):=opI fun _ _ _ _ _ _ _ hc q=>mul_int q (by
 rcases hc with h | ⟨⟨h1,h2⟩,h3,h4⟩
 ·exact h.ok
 ·exact PySem.IntMulOk.of_le (ziV h1 h2) (ziV h3 h4) (by decide))
end
theorem zm3 {Q:VK} {H:Hp} {f:Int→Int→V} {i j:Int} (c:zlL i j) (q:Q (f i j) H):rI zlL f (.int i) (.int j) H Q:=⟨i,j,rfl,rfl,c,q⟩
section
variable {σ:St} {H:Hp} {Q:VK} {K:PySem.W.Frag} {x:V}
theorem zob (q:Q (.bl (decide (x=.non))) H):rIsN x .non H Q:=⟨rfl,q⟩
theorem zf1 (xs:List V) (c:V→Bool):((List.range xs.length).filter fun i=>c (xs.getD i .non)).map (fun i=>xs.getD i .non)=xs.filter c:=by
 induction xs with
 | nil=>rfl
 | cons y ys ih =>
   rw [List.length_cons,List.range_succ_eq_map,List.filter_cons,List.filter_map,List.filter_cons];have e:((fun i=>c ((y::ys).getD i .non))∘Nat.succ)=fun i=>c (ys.getD i .non):=by funext i;rfl
   have e2:∀ l:List Nat,(l.map Nat.succ).map (fun i=>(y::ys).getD i .non)=l.map fun i=>ys.getD i .non:=fun l=>by rw [List.map_map];rfl
   rw [e]
   cases h:c y with
   | true =>
     simp only [List.getD_cons_zero,h,if_true,List.map_cons];rw [e2,ih]
   | false =>
     simp only [List.getD_cons_zero,h,Bool.false_eq_true,if_false];rw [e2,ih]
theorem zf2 {js:List Nat} {tc:TT} {a:Addr} {xs:List V} (h:SqL K H a xs) (hz:xs.length≤1000) (c:V→Bool)
  (ht:∀ i H' (Q':Bool→Hp→Prop),i < xs.length→Same H H'→Q' (c (xs.getD i .non)) H'→tc (some (xs.getD i .non)::capV js σ) H' Q')
  (hq:∀ p H2,H p=none→Same H H2→H2 p=some (.lst (xs.filter c))→Q (.ref p) H2):zeY (Itl K a) js tc (tVar 0) σ H Q:=by
 refine zbe (zaU h) (zaK hz) (fun i=>c (xs.getD i .non)) (fun i=>xs.getD i .non) ht (fun i H' Q' _ _ _ q=>zhL (i:=0) rfl q) fun p hp=>hq p _ hp (zaH hp) ?_;rw [zar,zf1]
end
end L2
namespace Prf
open PySem PySem.Spec PyProof.Rows L2
def zcj (rs:List (List Int)) (h:Int) (row:List Int):Bool :=
 decide (row.length=2) && row.all (fun x=>decide (1≤x) && decide (x≤(rs.length:Int)) && !decide ((rs.getD (x-1).toNat []).getD 0 0=h)) && decide (row.getD 0 0 < row.getD 1 0)
def zaR (hs:List Int) (rs rows:List (List Int)):Bool :=
 decide (rows.length=hs.length) && (List.range hs.length).all (fun k=>zcj rs (hs.getD k 0) (rows.getD k [])) && (List.range rs.length).all (fun k=>decide ((cntB rows (0+(k:Int)+1):Int)≤(rs.getD k []).getD 1 0))
theorem zcK {n:Nat} {c:Nat→Bool} {k:Nat} (h:k < n) (hc:c k=false):(List.range n).all c=false:=by
 rw [Bool.eq_false_iff];intro z;have:=List.all_eq_true.mp z k (List.mem_range.mpr h);rw [hc] at this
 cases this
theorem zba {n:Nat} {c:Nat→Bool} (h:∀ k,k < n→c k=true):(List.range n).all c=true:=List.all_eq_true.mpr fun k hk=>h k (List.mem_range.mp hk)
theorem ziW {xs:List Int} {c:Int→Bool} {i:Nat} (h:i < xs.length) (hc:c (xs.getD i 0)=false):xs.all c=false:=by
 rw [Bool.eq_false_iff];intro z;have:=List.all_eq_true.mp z _ (getD_mem (d:=0) h);rw [hc] at this
 cases this
theorem zke {xs:List Int} {c:Int→Bool} (h:∀ i,i < xs.length→c (xs.getD i 0)=true):xs.all c=true:=List.all_eq_true.mpr fun x hx=>by
 obtain ⟨i,hi,e⟩:=mem_getD (d:=0) hx;rw [← e];exact h i hi
structure InB (hs:List Int) (rs:List (List Int)):Prop where
 lp:hs.length≤10
 lr:rs.length≤8
 hh:∀ i,i < hs.length→1≤hs.getD i 0∧hs.getD i 0≤6
 r2:∀ i,i < rs.length→(rs.getD i []).length=2
 rh:∀ i,i < rs.length→0≤(rs.getD i []).getD 0 0∧(rs.getD i []).getD 0 0≤6
 rl:∀ i,i < rs.length→0≤(rs.getD i []).getD 1 0∧(rs.getD i []).getD 1 0≤30
def fitB (a b:Int):List Int:=((List.range 6).filter fun i:Nat=>!decide (1+(i:Int)=a) && !decide (1+(i:Int)=b)).map fun i:Nat=>1+(i:Int)
theorem zkf {a b x:Int} (h:x∈fitB a b):1≤x∧x≤6∧x≠a∧x≠b:=by
 unfold fitB at h;obtain ⟨i,hi,rfl⟩:=List.mem_map.mp h;obtain ⟨h1,h2⟩:=List.mem_filter.mp hi;have:=List.mem_range.mp h1;simp only [Bool.and_eq_true,Bool.not_eq_true',decide_eq_false_iff_not] at h2;exact ⟨by omega,by omega,h2.1,h2.2⟩
theorem zhi (a b:Int):0 < (fitB a b).length:=by
 have key:∃ i:Nat,i < 6∧1+(i:Int)≠a∧1+(i:Int)≠b:=by
  by_cases h0:(1:Int)≠a∧(1:Int)≠b
  ·exact ⟨0,by omega,by omega,by omega⟩
  ·by_cases h1:(2:Int)≠a∧(2:Int)≠b
   ·exact ⟨1,by omega,by omega,by omega⟩
   ·exact ⟨2,by omega,by omega,by omega⟩
 obtain ⟨i,h1,h2,h3⟩:=key;have:1+(i:Int)∈fitB a b:=by
  unfold fitB;refine List.mem_map.mpr ⟨i,List.mem_filter.mpr ⟨List.mem_range.mpr h1,?_⟩,rfl⟩;rw [decide_eq_false h2,decide_eq_false h3];rfl
 exact List.length_pos_of_mem this
theorem zlM (a b:Int):(fitB a b).length≤6:=by
 unfold fitB;rw [List.length_map];exact Nat.le_trans (List.length_filter_le _ _) (by simp)
structure PRow (c:Nat) (hB:Nat→Int) (h:Int) (row:List Int):Prop where
 ex:∃ x y:Nat,x < y∧y < c∧row=[(x:Int)+1,(y:Int)+1]∧h≠hB x∧h≠hB y
 rng:1≤h∧h≤6
structure zgF (least:Int) (hs:List Int) (rs rows:List (List Int)):Prop where
 inb:InB hs rs
 two:2≤rs.length
 len:rows.length=hs.length
 low:least≤hs.length
 row2:∀ i,i < rows.length→(rows.getD i []).length=2
 right:zaR hs rs rows=true
theorem PRow.pair {c:Nat} {hB:Nat→Int} {h:Int} {row:List Int} {rs:List (List Int)} (P:PRow c hB h row) (hl:rs.length=c) (hh:∀ j,j < c→(rs.getD j []).getD 0 0=hB j):zcj rs h row=true:=by
 obtain ⟨⟨x,y,h1,h2,rfl,h3,h4⟩,_⟩:=P;unfold zcj;have ex:((x:Int)+1-1).toNat=x:=by omega
 have ey:((y:Int)+1-1).toNat=y:=by omega
 simp only [List.length_cons,List.length_nil,decide_true,Bool.true_and,List.all_cons,List.all_nil,Bool.and_true,ex,ey,hh x (by omega),hh y h2,List.getD_cons_zero,List.getD_cons_succ];rw [decide_eq_true (show 1≤(x:Int)+1 by omega),decide_eq_true (show (x:Int)+1≤(rs.length:Int) by omega),decide_eq_false (fun z=>h3 z.symm),decide_eq_true (show 1≤(y:Int)+1 by omega),decide_eq_true (show (y:Int)+1≤(rs.length:Int) by omega),decide_eq_false (fun z=>h4 z.symm),decide_eq_true (show (x:Int)+1 < (y:Int)+1 by omega)];rfl
theorem zlN (rows:List (List Int)) (x:Int):cntB rows x≤rows.length:=List.length_filter_le _ _
end Prf
namespace Hall
def sm:Nat→(Nat→Nat)→Nat
 | 0,_=>0
 | n+1,f=>sm n f+f n
theorem sm_congr {n:Nat} {f g:Nat→Nat} (h:∀ i,i < n→f i=g i):sm n f=sm n g:=by
 induction n with
 | zero=>rfl
 | succ n ih=>simp only [sm];rw [ih (fun i hi=>h i (by omega)),h n (by omega)]
theorem sm_add {n:Nat} {f g:Nat→Nat}:sm n (fun i=>f i+g i)=sm n f+sm n g:=by
 induction n with
 | zero=>rfl
 | succ n ih=>simp only [sm];rw [ih];omega
theorem sm_le {n:Nat} {f g:Nat→Nat} (h:∀ i,i < n→f i≤g i):sm n f≤sm n g:=by
 induction n with
 | zero=>exact Nat.le_refl _
 | succ n ih =>
   simp only [sm];have:=ih (fun i hi=>h i (by omega));have:=h n (by omega);omega
theorem sm_zero {n:Nat}:sm n (fun _=>0)=0:=by
 induction n with
 | zero=>rfl
 | succ n ih=>simp only [sm];omega
theorem sm_swap {n m:Nat} {f:Nat→Nat→Nat} :
  sm n (fun i=>sm m (fun j=>f i j))=sm m (fun j=>sm n (fun i=>f i j)):=by
 induction n with
 | zero=>simp only [sm];rw [sm_zero]
 | succ n ih=>simp only [sm];rw [ih,sm_add]
theorem zcL {n:Nat} {f g:Nat→Nat} (h:∀ i,i < n→f i≤g i) (e:sm n g≤sm n f) :
  ∀ i,i < n→f i=g i:=by
 induction n with
 | zero=>intro i hi;omega
 | succ n ih =>
   simp only [sm] at e;have h1:=sm_le (fun i hi=>h i (by omega):∀ i,i < n→f i≤g i);have h2:=h n (by omega);intro i hi
   by_cases hn:i=n
   ·subst hn;omega
   ·exact ih (fun i hi=>h i (by omega)) (by omega) i (by omega)
theorem zc1 {n p:Nat} {f:Nat→Nat} (hp:p < n) (h:∀ i,i < n→i≠p→f i=0):sm n f=f p:=by
 induction n with
 | zero=>omega
 | succ n ih =>
   simp only [sm]
   by_cases hn:p=n
   ·subst hn;have:sm p f=sm p (fun _=>0):=sm_congr (fun i hi=>h i (by omega) (by omega));rw [this,sm_zero];omega
   ·rw [ih (by omega) (fun i hi hne=>h i (by omega) hne),h n (by omega) (by omega)];omega
theorem zm4 {n:Nat} {f:Nat→Nat} (h:0 < sm n f):∃ i,i < n∧0 < f i:=by
 induction n with
 | zero=>simp [sm] at h
 | succ n ih =>
   simp only [sm] at h
   by_cases hn:0 < f n
   ·exact ⟨n,by omega,hn⟩
   ·obtain ⟨i,hi,hf⟩:=ih (by omega);exact ⟨i,by omega,hf⟩
theorem sm_lt {n p:Nat} {f g:Nat→Nat} (hp:p < n) (h:∀ i,i < n→f i≤g i) (hl:f p < g p) :
  sm n f < sm n g:=by
 have h1:=sm_le h;rcases Nat.lt_or_ge (sm n f) (sm n g) with h2 | h2
 ·exact h2
 ·have:=zcL h h2 p hp;omega
def b2 (b:Bool):Nat:=if b then 1 else 0
@[simp] theorem b2_t:b2 true=1:=rfl
@[simp] theorem b2_f:b2 false=0:=rfl
def deg (n:Nat) (A:Nat→Nat→Bool) (S:Nat→Bool) (r:Nat):Nat:=sm n fun p=>b2 (S p && A p r)
def room (n m:Nat) (L:Nat→Nat) (A:Nat→Nat→Bool) (S:Nat→Bool):Nat:=sm m fun r=>min (L r) (deg n A S r)
def need (n:Nat) (d:Nat→Nat) (S:Nat→Bool):Nat:=sm n fun p=>if S p then d p else 0
def Ok (n m:Nat) (L d:Nat→Nat) (A:Nat→Nat→Bool):Prop:=∀ S,need n d S≤room n m L A S
variable {n m:Nat} {L d:Nat→Nat} {A:Nat→Nat→Bool}
theorem zlO {S T:Nat→Bool} {r:Nat} :
  deg n A (fun p=>S p && T p) r+deg n A (fun p=>S p || T p) r=deg n A S r+deg n A T r:=by
 unfold deg;rw [← sm_add,← sm_add];apply sm_congr;intro i _;show b2 ((S i && T i) && A i r)+b2 ((S i || T i) && A i r)=b2 (S i && A i r)+b2 (T i && A i r)
 cases S i <;> cases T i <;> cases A i r <;> rfl
theorem zkg {S T:Nat→Bool} :
  need n d (fun p=>S p && T p)+need n d (fun p=>S p || T p)=need n d S+need n d T:=by
 unfold need;rw [← sm_add,← sm_add];apply sm_congr;intro i _;show (if S i && T i then d i else 0)+(if S i || T i then d i else 0)=(if S i then d i else 0)+(if T i then d i else 0)
 cases S i <;> cases T i <;> simp
theorem zee {S T:Nat→Bool} (h:∀ p,S p=true→T p=true) {r:Nat}:deg n A S r≤deg n A T r:=by
 apply sm_le;intro i _;have h':=h i;show b2 (S i && A i r)≤b2 (T i && A i r)
 revert h'
 cases S i <;> cases T i <;> cases A i r <;> simp
theorem zkh {S T:Nat→Bool} :
  room n m L A (fun p=>S p && T p)+room n m L A (fun p=>S p || T p)≤room n m L A S+room n m L A T:=by
 unfold room;rw [← sm_add,← sm_add];apply sm_le;intro r _;have h1:=zlO (n:=n) (A:=A) (S:=S) (T:=T) (r:=r);have h2:deg n A (fun p=>S p && T p) r≤deg n A S r:=zee (fun p h=>by simp at h;exact h.1);have h3:deg n A (fun p=>S p && T p) r≤deg n A T r:=zee (fun p h=>by simp at h;exact h.2);omega
theorem ziX (hA:Ok n m L d A) {S T:Nat→Bool} (hS:room n m L A S=need n d S)
  (hT:room n m L A T=need n d T) :
  room n m L A (fun p=>S p && T p)=need n d (fun p=>S p && T p):=by
 have h1:=zkh (n:=n) (m:=m) (L:=L) (A:=A) (S:=S) (T:=T);have h2:=zkg (n:=n) (d:=d) (S:=S) (T:=T);have h3:=hA (fun p=>S p && T p);have h4:=hA (fun p=>S p || T p);omega
def cut (A:Nat→Nat→Bool) (p r:Nat):Nat→Nat→Bool:=fun q s=>A q s && !(q == p && s == r)
theorem zlP {p r q s:Nat} (h:cut A p r q s=true):A q s=true:=by
 unfold cut at h;simp at h;exact h.1
theorem zfe {p r s:Nat} (h:s≠r) {S:Nat→Bool}:deg n (cut A p r) S s=deg n A S s:=by
 unfold deg cut;apply sm_congr;intro i _;have:(s == r)=false:=by simp [h]
 simp [this]
theorem zff {p r:Nat} (hp:p < n) {S:Nat→Bool} :
  deg n (cut A p r) S r+b2 (S p && A p r)=deg n A S r:=by
 unfold deg;have:b2 (S p && A p r)=sm n (fun q=>b2 (q == p && (S p && A p r))):=by
  rw [zc1 hp]
  ·simp
  ·intro i _ hi;have:(i == p)=false:=by simp [hi]
   simp [this]
 rw [this,← sm_add];apply sm_congr;intro i _;unfold cut
 by_cases hi:i=p
 ·subst hi
  cases S i <;> cases A i r <;> simp
 ·have:(i == p)=false:=by simp [hi]
  simp [this]
theorem zlQ {p r:Nat} (hp:p < n) {S:Nat→Bool} (hS:S p=true) :
  deg n A (fun q=>S q && !(q == p)) r+b2 (A p r)=deg n A S r:=by
 unfold deg;have:b2 (A p r)=sm n (fun q=>b2 (q == p && A p r)):=by
  rw [zc1 hp]
  ·simp
  ·intro i _ hi;have:(i == p)=false:=by simp [hi]
   simp [this]
 rw [this,← sm_add];apply sm_congr;intro i _
 by_cases hi:i=p
 ·subst hi;simp [hS]
 ·have:(i == p)=false:=by simp [hi]
  simp [this]
theorem zki {p:Nat} (hp:p < n) {S:Nat→Bool} (hS:S p=true) :
  need n d (fun q=>S q && !(q == p))+d p=need n d S:=by
 unfold need;have:d p=sm n (fun q=>if q == p then d p else 0):=by
  rw [zc1 hp]
  ·simp
  ·intro i _ hi;have:(i == p)=false:=by simp [hi]
   simp [this]
 rw [this,← sm_add];apply sm_congr;intro i _
 by_cases hi:i=p
 ·subst hi;simp [hS]
 ·have:(i == p)=false:=by simp [hi]
  simp [this]
theorem zhj (hA:Ok n m L d A) {p r:Nat} (hp:p < n) (hr:r < m) (ha:A p r=true)
  (hn:¬Ok n m L d (cut A p r)) :
  ∃ S,room n m L A S=need n d S∧S p=true∧deg n A S r≤L r:=by
 have hn':∃ S,¬need n d S≤room n m L (cut A p r) S:=by
  apply Classical.byContradiction;intro hc;exact hn (fun S=>Classical.byContradiction fun h=>hc ⟨S,h⟩)
 obtain ⟨S,hS⟩:=hn';have h1:=hA S;have hle:∀ s,s < m→min (L s) (deg n (cut A p r) S s)≤min (L s) (deg n A S s):=by
  intro s _
  by_cases h:s=r
  ·subst h;have:=zff (A:=A) (r:=s) hp (S:=S);omega
  ·rw [zfe h];exact Nat.le_refl _
 have hd:room n m L A S≤room n m L (cut A p r) S+(min (L r) (deg n A S r)-min (L r) (deg n (cut A p r) S r)):=by
  unfold room;have:min (L r) (deg n A S r)-min (L r) (deg n (cut A p r) S r)
    = sm m (fun s=>if s=r then min (L r) (deg n A S r)-min (L r) (deg n (cut A p r) S r) else 0):=by
   rw [zc1 hr]
   ·simp
   ·intro i _ hi;simp [hi]
  rw [this,← sm_add];apply sm_le;intro s hs
  by_cases h:s=r
  ·subst h;simp;omega
  ·simp [h,zfe h]
 have hc:=zff (A:=A) (r:=r) hp (S:=S);rw [ha] at hc;simp only [Bool.and_true] at hc;refine ⟨S,?_,?_,?_⟩
 ·cases hSp:S p
  ·rw [hSp,b2_f] at hc;omega
  ·rw [hSp,b2_t] at hc;omega
 ·cases hSp:S p
  ·rw [hSp,b2_f] at hc;omega
  ·rfl
 ·cases hSp:S p
  ·rw [hSp,b2_f] at hc;omega
  ·rw [hSp,b2_t] at hc;omega
theorem zkj (hA:Ok n m L d A) {p:Nat} (hp:p < n) (hd:d p < sm m (fun r=>b2 (A p r)))
  (hn:∀ r,r < m→A p r=true→¬Ok n m L d (cut A p r)):False:=by
 have h0:∃ r,r < m∧0 < b2 (A p r):=zm4 (by omega);obtain ⟨r0,hr0,hb0⟩:=h0;have ha0:A p r0=true:=by cases h:A p r0 <;> simp_all
 have key:∀ k,k≤m→∃ T,room n m L A T=need n d T∧T p=true∧∀ r,r < k→A p r=true→deg n A T r≤L r:=by
  intro k
  induction k with
  | zero =>
    intro _;obtain ⟨S,h1,h2,_⟩:=zhj hA hp hr0 ha0 (hn r0 hr0 ha0);exact ⟨S,h1,h2,fun r hr=>by omega⟩
  | succ k ih =>
    intro hk;obtain ⟨T,h1,h2,h3⟩:=ih (by omega)
    cases hak:A p k
    ·refine ⟨T,h1,h2,fun r hr ha=>?_⟩
     by_cases h:r=k
     ·subst h;rw [hak] at ha;simp at ha
     ·exact h3 r (by omega) ha
    ·obtain ⟨S,g1,g2,g3⟩:=zhj hA hp (by omega) hak (hn k (by omega) hak);refine ⟨fun q=>T q && S q,ziX hA h1 g1,by simp [h2,g2],fun r hr ha=>?_⟩;have m1:deg n A (fun q=>T q && S q) r≤deg n A T r:=zee (fun q h=>by simp at h;exact h.1);have m2:deg n A (fun q=>T q && S q) r≤deg n A S r:=zee (fun q h=>by simp at h;exact h.2)
     by_cases h:r=k
     ·subst h;omega
     ·have:=h3 r (by omega) ha;omega
 obtain ⟨T,h1,h2,h3⟩:=key m (Nat.le_refl _);have e1:room n m L A T=room n m L A (fun q=>T q && !(q == p))+sm m (fun r=>b2 (A p r)):=by
  unfold room;rw [← sm_add];apply sm_congr;intro r hr;have e:=zlQ (A:=A) (r:=r) hp h2
  cases ha:A p r
  ·rw [ha] at e;simp at e;simp;omega
  ·have:=h3 r hr ha;rw [ha] at e;simp at e;simp;omega
 have e2:=zki (d:=d) hp h2;have e3:=hA (fun q=>T q && !(q == p));omega
def ziY (n m:Nat) (A:Nat→Nat→Bool):Nat:=sm n fun p=>sm m fun r=>b2 (A p r)
theorem ziZ {p r:Nat} (hp:p < n) (hr:r < m) (ha:A p r=true) :
  ziY n m (cut A p r) < ziY n m A:=by
 have hle:∀ q s,b2 (cut A p r q s)≤b2 (A q s):=by
  intro q s;show b2 (A q s && !(q == p && s == r))≤b2 (A q s)
  cases A q s <;> cases (q == p) <;> cases (s == r) <;> simp
 apply sm_lt hp
 ·intro q _;exact sm_le (fun s _=>hle q s)
 ·apply sm_lt hr
  ·intro s _;exact hle p s
  ·unfold cut;simp [ha]
theorem hall:∀ k (A:Nat→Nat→Bool),ziY n m A≤k→Ok n m L d A →
  ∃ B:Nat→Nat→Bool,(∀ p r,B p r=true→A p r=true) ∧
   (∀ p,p < n→sm m (fun r=>b2 (B p r))=d p)∧(∀ r,r < m→sm n (fun p=>b2 (B p r))≤L r):=by
 intro k
 induction k with
 | zero =>
   intro A he hA;refine ⟨A,fun _ _ h=>h,?_,?_⟩
   ·intro p hp;have h0:sm m (fun r=>b2 (A p r))=0:=by
     have:=zcL (n:=n) (f:=fun _=>0) (g:=fun p=>sm m fun r=>b2 (A p r)) (fun _ _=>by omega)
      (by rw [sm_zero];exact he) p hp
     exact this.symm
    have h1:=hA (fun q=>q == p);have h2:need n d (fun q=>q == p)=d p:=by
     unfold need;rw [zc1 hp]
     ·simp
     ·intro i _ hi;simp [hi]
    have h3:room n m L A (fun q=>q == p)≤sm m (fun r=>b2 (A p r)):=by
     unfold room;apply sm_le;intro r _;have:deg n A (fun q=>q == p) r=b2 (A p r):=by
      unfold deg;rw [zc1 hp]
      ·simp
      ·intro i _ hi;have:(i == p)=false:=by simp [hi]
       simp [this]
     omega
    omega
   ·intro r hr;have h0:sm n (fun p=>b2 (A p r))=0:=by
     unfold ziY at he;rw [sm_swap] at he;have:=zcL (n:=m) (f:=fun _=>0) (g:=fun r=>sm n fun p=>b2 (A p r)) (fun _ _=>by omega)
      (by rw [sm_zero];exact he) r hr
     exact this.symm
    omega
 | succ k ih =>
   intro A he hA
   by_cases hall:∀ p,p < n→sm m (fun r=>b2 (A p r))=d p
   ·refine ⟨A,fun _ _ h=>h,hall,?_⟩;have h1:=hA (fun _=>true);have h2:need n d (fun _=>true)=sm n (fun p=>sm m (fun r=>b2 (A p r))):=by
     unfold need;apply sm_congr;intro i hi;rw [hall i hi];simp
    rw [h2,sm_swap] at h1;unfold room at h1;intro r hr;have h3:=zcL (n:=m) (f:=fun r=>min (L r) (deg n A (fun _=>true) r))
     (g:=fun r=>sm n (fun p=>b2 (A p r)))
     (fun r _=>by
      have:deg n A (fun _=>true) r=sm n (fun p=>b2 (A p r)):=by
       unfold deg;apply sm_congr;intro i _;simp
      show min _ _≤_;omega) h1 r hr
    omega
   ·have:∃ p,p < n∧sm m (fun r=>b2 (A p r))≠d p:=by
     apply Classical.byContradiction;intro hc;exact hall (fun p hp=>Classical.byContradiction fun h=>hc ⟨p,hp,h⟩)
    obtain ⟨p,hp,hne⟩:=this;have hge:d p≤sm m (fun r=>b2 (A p r)):=by
     have h1:=hA (fun q=>q == p);have h2:need n d (fun q=>q == p)=d p:=by
      unfold need;rw [zc1 hp]
      ·simp
      ·intro i _ hi;simp [hi]
     have h3:room n m L A (fun q=>q == p)≤sm m (fun r=>b2 (A p r)):=by
      unfold room;apply sm_le;intro r _;have:deg n A (fun q=>q == p) r=b2 (A p r):=by
       unfold deg;rw [zc1 hp]
       ·simp
       ·intro i _ hi;have:(i == p)=false:=by simp [hi]
        simp [this]
      omega
     omega
    by_cases hs:∃ r,r < m∧A p r=true∧Ok n m L d (cut A p r)
    ·obtain ⟨r,hr,ha,hok⟩:=hs;have hlt:=ziZ (n:=n) (m:=m) hp hr ha;obtain ⟨B,b1,b2',b3⟩:=ih (cut A p r) (by omega) hok;exact ⟨B,fun q s h=>zlP (b1 q s h),b2',b3⟩
    ·exact (zkj hA hp (by omega) (fun r hr ha hok=>hs ⟨r,hr,ha,hok⟩)).elim
end Hall
namespace Hall
variable {n m:Nat} {L d:Nat→Nat} {A:Nat→Nat→Bool}
theorem room_of {B:Nat→Nat→Bool} (hs:∀ p r,B p r=true→A p r=true)
  (hd:∀ p,p < n→sm m (fun r=>b2 (B p r))=d p) (hL:∀ r,r < m→sm n (fun p=>b2 (B p r))≤L r) :
  Ok n m L d A:=by
 intro S;have h1:need n d S=sm m (fun r=>deg n B S r):=by
  unfold need deg;rw [sm_swap];apply sm_congr;intro p hp
  cases hS:S p
  ·simp only [Bool.false_and,b2_f];rw [sm_zero];rfl
  ·simp only [Bool.true_and];rw [hd p hp];rfl
 rw [h1];apply sm_le;intro r hr;have h2:deg n B S r≤deg n A S r:=by
  apply sm_le;intro p _;have:=hs p r
  revert this
  cases S p <;> cases B p r <;> cases A p r <;> simp
 have h3:deg n B S r≤sm n (fun p=>b2 (B p r)):=by
  apply sm_le;intro p _
  cases S p <;> cases B p r <;> simp
 have:=hL r hr;show _≤min (L r) (deg n A S r);omega
theorem zm5 {f:Nat→Bool} (h:sm m (fun r=>b2 (f r))=1) :
  ∃ a,a < m∧f a=true∧∀ r,r < m→f r=true→r=a:=by
 induction m with
 | zero=>simp [sm] at h
 | succ m ih =>
   simp only [sm] at h
   cases hf:f m
   ·rw [hf,b2_f] at h;obtain ⟨a,h1,h2,h3⟩:=ih (by omega);refine ⟨a,by omega,h2,fun r hr hfr=>?_⟩
    by_cases e:r=m
    ·subst e;rw [hf] at hfr;simp at hfr
    ·exact h3 r (by omega) hfr
   ·rw [hf,b2_t] at h;refine ⟨m,by omega,hf,fun r hr hfr=>?_⟩
    by_cases e:r=m
    ·exact e
    ·have:=zcL (n:=m) (f:=fun _=>0) (g:=fun r=>b2 (f r)) (fun _ _=>by omega) (by rw [sm_zero];omega) r (by omega);rw [hfr] at this;simp at this
theorem two_of {f:Nat→Bool} (h:sm m (fun r=>b2 (f r))=2) :
  ∃ a b,a < b∧b < m∧f a=true∧f b=true∧∀ r,r < m→f r=true→r=a∨r=b:=by
 induction m with
 | zero=>simp [sm] at h
 | succ m ih =>
   simp only [sm] at h
   cases hf:f m
   ·rw [hf,b2_f] at h;obtain ⟨a,b,h1,h2,h3,h4,h5⟩:=ih (by omega);refine ⟨a,b,h1,by omega,h3,h4,fun r hr hfr=>?_⟩
    by_cases e:r=m
    ·subst e;rw [hf] at hfr;simp at hfr
    ·exact h5 r (by omega) hfr
   ·rw [hf,b2_t] at h;obtain ⟨a,h1,h2,h3⟩:=zm5 (m:=m) (f:=f) (by omega);refine ⟨a,m,h1,by omega,h2,hf,fun r hr hfr=>?_⟩
    by_cases e:r=m
    ·exact Or.inr e
    ·exact Or.inl (h3 r (by omega) hfr)
structure Deal (n m:Nat) (L:Nat→Nat) (A:Nat→Nat→Bool) (D:Nat→Nat×Nat):Prop where
 lt:∀ p,p < n→(D p).1 < (D p).2
 hi:∀ p,p < n→(D p).2 < m
 a:∀ p,p < n→A p (D p).1=true
 b:∀ p,p < n→A p (D p).2=true
 lim:∀ r,r < m→sm n (fun p=>b2 (r == (D p).1 || r == (D p).2))≤L r
theorem two_eq {a b:Nat} (h:a < b) (hb:b < m):sm m (fun r=>b2 (r == a || r == b))=2:=by
 have:sm m (fun r=>b2 (r == a || r == b))=sm m (fun r=>b2 (r == a)+b2 (r == b)):=by
  apply sm_congr;intro r _
  by_cases h1:r=a
  ·subst h1;have:(r == b)=false:=by simp;omega
   simp [this]
  ·have:(r == a)=false:=by simp [h1]
   simp [this]
 rw [this,sm_add,zc1 (p:=a) (by omega),zc1 (p:=b) hb]
 ·simp
 ·intro i _ hi;have:(i == b)=false:=by simp [hi]
  simp [this]
 ·intro i _ hi;have:(i == a)=false:=by simp [hi]
  simp [this]
theorem deal_iff:(∃ D,Deal n m L A D)↔Ok n m L (fun _=>2) A:=by
 constructor
 ·rintro ⟨D,h⟩ S;have:=room_of (n:=n) (m:=m) (L:=L) (d:=fun _=>2) (A:=A)
   (B:=fun p r=>decide (p < n) && (r == (D p).1 || r == (D p).2))
   (fun p r hb=>by
    simp at hb;obtain ⟨hp,hb⟩:=hb;rcases hb with e | e
    ·rw [e];exact h.a p hp
    ·rw [e];exact h.b p hp)
   (fun p hp=>by
    have:decide (p < n)=true:=by simp [hp]
    simp only [this,Bool.true_and];exact two_eq (h.lt p hp) (h.hi p hp))
   (fun r hr=>by
    have:=h.lim r hr;refine Nat.le_trans (sm_le fun p _=>?_) this;show b2 (decide (p < n) && (r == (D p).1 || r == (D p).2))≤b2 (r == (D p).1 || r == (D p).2)
    cases decide (p < n) <;> simp)
  exact this S
 ·intro h;obtain ⟨B,b1,h2,h3⟩:=hall (n:=n) (m:=m) (L:=L) (d:=fun _=>2) (ziY n m A) A (Nat.le_refl _) h;have hx:∀ p,∃ ab:Nat×Nat,p < n→ab.1 < ab.2∧ab.2 < m∧B p ab.1=true∧B p ab.2=true ∧
    ∀ r,r < m→B p r=true→r=ab.1∨r=ab.2:=by
   intro p
   by_cases hp:p < n
   ·obtain ⟨a,b,g1,g2,g3,g4,g5⟩:=two_of (h2 p hp);exact ⟨(a,b),fun _=>⟨g1,g2,g3,g4,g5⟩⟩
   ·exact ⟨(0,0),fun h=>absurd h hp⟩
  have hD:∃ D:Nat→Nat×Nat,∀ p,p < n→(D p).1 < (D p).2∧(D p).2 < m∧B p (D p).1=true∧B p (D p).2=true ∧
    ∀ r,r < m→B p r=true→r=(D p).1∨r=(D p).2 :=
   ⟨fun p=>Classical.choose (hx p),fun p=>Classical.choose_spec (hx p)⟩
  obtain ⟨D,hD⟩:=hD;refine ⟨D,fun p hp=>(hD p hp).1,fun p hp=>(hD p hp).2.1,fun p hp=>b1 _ _ (hD p hp).2.2.1,
   fun p hp=>b1 _ _ (hD p hp).2.2.2.1,fun r hr=>?_⟩
  refine Nat.le_trans (sm_le fun p hp=>?_) (h3 r hr);show b2 (r == (D p).1 || r == (D p).2)≤b2 (B p r);have h4:=(hD p hp).2.2.1;have h5:=(hD p hp).2.2.2.1
  by_cases e1:r=(D p).1
  ·rw [e1,h4];simp
  ·by_cases e2:r=(D p).2
   ·rw [e2,h5];simp
   ·have t1:(r == (D p).1)=false:=by simp [e1]
    have t2:(r == (D p).2)=false:=by simp [e2]
    simp [t1,t2]
end Hall
namespace Prf
open PySem PySem.Spec PyProof.Rows L2
def agB (hs:List Int) (rs:List (List Int)) (xs:List Int):Bool:=decide (zc0 hs rs xs < 2 * (xs.length:Int))
def zbf (hs:List Int) (rs:List (List Int)) (p r:Nat):Bool:=!decide ((rs.getD r []).getD 0 0=hs.getD p 0)
def limN (rs:List (List Int)) (r:Nat):Nat:=((rs.getD r []).getD 1 0).toNat
theorem zcM (c:Nat→Bool):∀ n,Hall.sm n (fun i=>Hall.b2 (c i))=((List.range n).filter c).length
 | 0=>rfl
 | n+1=>by
   simp only [Hall.sm];rw [zcM c n,List.range_succ,List.filter_append,List.length_append]
   cases h:c n <;> simp [h]
theorem zdm (hs r:List Int):∀ (xs:List Int) (n0:Int),n0≤r.getD 1 0 →
  xs.foldl (zb7 hs r) n0=min (r.getD 1 0) (n0+((xs.filter fun x=>!decide (r.getD 0 0=hs.getD (x-1).toNat 0)).length:Int))
 | [],n0,h=>by
   show n0=min (r.getD 1 0) (n0+0);omega
 | x::xs,n0,h=>by
   rw [List.foldl_cons,List.filter_cons]
   by_cases e:r.getD 0 0=hs.getD (x-1).toNat 0
   ·have e1:zb7 hs r n0 x=n0:=by unfold zb7;rw [if_neg (fun z=>z.1 e)]
    rw [e1,zdm hs r xs n0 h,decide_eq_true e];simp
   ·rw [decide_eq_false e]
    by_cases hl:n0 < r.getD 1 0
    ·have e1:zb7 hs r n0 x=n0+1:=by unfold zb7;rw [if_pos ⟨e,hl⟩]
     rw [e1,zdm hs r xs (n0+1) (by omega)];simp only [Bool.not_false,if_true,List.length_cons];omega
    ·have e1:zb7 hs r n0 x=n0:=by unfold zb7;rw [if_neg (fun z=>hl z.2)]
     rw [e1,zdm hs r xs n0 h];simp only [Bool.not_false,if_true,List.length_cons];omega
def zdJ (n:Nat) (S:Nat→Bool):List Int:=((List.range n).filter S).map fun i:Nat=>1+(i:Int)
theorem zi0 (n:Nat) (S:Nat→Bool):SetM n (zdJ n S):=by
 unfold zdJ;refine ⟨?_,fun x hx=>?_⟩
 ·rw [List.pairwise_map];refine List.Pairwise.filter _ (List.Pairwise.imp (fun h=>?_) List.pairwise_lt_range);omega
 ·obtain ⟨i,hi,rfl⟩:=List.mem_map.mp hx;have:=List.mem_range.mp (List.mem_filter.mp hi).1;omega
theorem up_ext:∀ {xs ys:List Int},xs.Pairwise (· < ·)→ys.Pairwise (· < ·)→(∀ m,m∈xs↔m∈ys)→xs=ys
 | [],[],_,_,_=>rfl
 | [],y::ys,_,_,h=>absurd ((h y).mpr List.mem_cons_self) (by simp)
 | x::xs,[],_,_,h=>absurd ((h x).mp List.mem_cons_self) (by simp)
 | x::xs,y::ys,hx,hy,h=>by
   obtain ⟨x1,x2⟩:=List.pairwise_cons.mp hx;obtain ⟨y1,y2⟩:=List.pairwise_cons.mp hy;have e:x=y:=by
    rcases List.mem_cons.mp ((h x).mp List.mem_cons_self) with z | z
    ·exact z
    ·rcases List.mem_cons.mp ((h y).mpr List.mem_cons_self) with z' | z'
     ·exact z'.symm
     ·have:=y1 x z;have:=x1 y z';omega
   subst e;have nx:x∉xs:=fun z=>absurd (x1 x z) (Int.lt_irrefl _);have ny:x∉ys:=fun z=>absurd (y1 x z) (Int.lt_irrefl _);rw [up_ext x2 y2 fun m=>?_]
   by_cases hm:m=x
   ·subst hm;exact ⟨fun z=>absurd z nx,fun z=>absurd z ny⟩
   ·have:=h m;simpa [hm] using this
theorem zhO {n:Nat} {xs:List Int} (h:SetM n xs):zdJ n (fun i=>decide (1+(i:Int)∈xs))=xs:=by
 refine up_ext (zi0 n _).up h.up fun m=>⟨fun z=>?_,fun z=>?_⟩
 ·unfold zdJ at z;obtain ⟨i,hi,rfl⟩:=List.mem_map.mp z;simpa using (List.mem_filter.mp hi).2
 ·have hr:=h.rng m z;unfold zdJ;refine List.mem_map.mpr ⟨(m-1).toNat,List.mem_filter.mpr ⟨List.mem_range.mpr (by omega),?_⟩,by omega⟩;have e:1+((m-1).toNat:Int)=m:=by omega
  rw [e];simpa using z
theorem zi1 (n:Nat) (S:Nat→Bool):(zdJ n S).length=Hall.sm n (fun p=>Hall.b2 (S p)):=by
 unfold zdJ;rw [List.length_map,zcM]
theorem zi2 {hs:List Int} {rs:List (List Int)} {r:Nat} (h0:0≤(rs.getD r []).getD 1 0) (n:Nat) (S:Nat→Bool) :
  zbB hs (rs.getD r []) (zdJ n S)=((min (limN rs r) (Hall.deg n (zbf hs rs) S r):Nat):Int):=by
 unfold zbB;rw [zdm hs _ _ 0 h0];have e:((zdJ n S).filter fun x=>!decide ((rs.getD r []).getD 0 0=hs.getD (x-1).toNat 0)).length=Hall.deg n (zbf hs rs) S r:=by
  unfold Hall.deg zdJ;rw [zcM,List.filter_map,List.length_map,List.filter_filter]
  congr 1
  apply List.filter_congr;intro i _;show (_ && _)=_;have e1:(1+(i:Int)-1).toNat=i:=by omega
  simp only [Function.comp,e1];unfold zbf;exact Bool.and_comm _ _
 rw [e];unfold limN;omega
theorem zfg {hs:List Int} {rs:List (List Int)} (h0:∀ i,i < rs.length→0≤(rs.getD i []).getD 1 0) (n:Nat) (S:Nat→Bool) :
  zc0 hs rs (zdJ n S)=((Hall.room n rs.length (limN rs) (zbf hs rs) S:Nat):Int):=by
 have key:∀ i,i≤rs.length→zc0 hs (rs.take i) (zdJ n S)=((Hall.room n i (limN rs) (zbf hs rs) S:Nat):Int):=by
  intro i
  induction i with
  | zero=>intro _;rfl
  | succ i ih =>
    intro hi;rw [zer _ _ _ _ (by omega),ih (by omega),zi2 (h0 i (by omega))];unfold Hall.room;simp only [Hall.sm];omega
 have:=key rs.length (Nat.le_refl _)
 rwa [List.take_length] at this
theorem zhk (n:Nat) (S:Nat→Bool):Hall.need n (fun _=>2) S=2 * (zdJ n S).length:=by
 rw [zi1];unfold Hall.need;have:Hall.sm n (fun p=>if S p=true then 2 else 0)=Hall.sm n (fun p=>Hall.b2 (S p)+Hall.b2 (S p)):=by
  apply Hall.sm_congr;intro i _
  cases S i <;> rfl
 rw [this,Hall.sm_add];omega
theorem zi3 {hs:List Int} {rs:List (List Int)} (h0:∀ i,i < rs.length→0≤(rs.getD i []).getD 1 0) :
  Hall.Ok hs.length rs.length (limN rs) (fun _=>2) (zbf hs rs)↔∀ xs,SetM hs.length xs→agB hs rs xs=false:=by
 constructor
 ·intro h xs hx;have e:=zhO hx;have h1:=h (fun i=>decide (1+(i:Int)∈xs));have h2:=zfg (hs:=hs) h0 hs.length (fun i=>decide (1+(i:Int)∈xs));rw [zhk,e] at h1;rw [e] at h2;unfold agB;rw [decide_eq_false];omega
 ·intro h S;have h1:=h _ (zi0 hs.length S);unfold agB at h1;have h2:=of_decide_eq_false h1;rw [zfg h0] at h2;rw [zhk];omega
theorem len2 {l:List Int} (h:l.length=2):l=[l.getD 0 0,l.getD 1 0]:=by
 match l,h with
 | [a,b],_=>rfl
theorem zfw (rows:List (List Int)) (x:Int):cntB rows x=Hall.sm rows.length (fun p=>Hall.b2 (decide (x∈rows.getD p []))):=by
 rw [zcM,zf0]
structure zi4 (hs:List Int) (rs rows:List (List Int)):Prop where
 len:rows.length=hs.length
 two:∀ k,k < hs.length→(rows.getD k []).length=2
 lo:∀ k,k < hs.length→1≤(rows.getD k []).getD 0 0
 lt:∀ k,k < hs.length→(rows.getD k []).getD 0 0 < (rows.getD k []).getD 1 0
 hi:∀ k,k < hs.length→(rows.getD k []).getD 1 0≤(rs.length:Int)
 a:∀ k,k < hs.length→(rs.getD ((rows.getD k []).getD 0 0-1).toNat []).getD 0 0≠hs.getD k 0
 b:∀ k,k < hs.length→(rs.getD ((rows.getD k []).getD 1 0-1).toNat []).getD 0 0≠hs.getD k 0
 lim:∀ k,k < rs.length→(cntB rows ((k:Int)+1):Int)≤(rs.getD k []).getD 1 0
theorem zbW {rs:List (List Int)} {h:Int} {row:List Int}:zcj rs h row=true ↔
  row.length=2∧1≤row.getD 0 0∧row.getD 0 0 < row.getD 1 0∧row.getD 1 0≤(rs.length:Int)∧(rs.getD (row.getD 0 0-1).toNat []).getD 0 0≠h∧(rs.getD (row.getD 1 0-1).toNat []).getD 0 0≠h:=by
 unfold zcj;constructor
 ·intro z;simp only [Bool.and_eq_true,decide_eq_true_eq] at z;obtain ⟨⟨z1,z2⟩,z3⟩:=z;rw [len2 z1] at z2;simp only [List.all_cons,List.all_nil,Bool.and_eq_true,decide_eq_true_eq,Bool.not_eq_true',decide_eq_false_iff_not] at z2;obtain ⟨⟨⟨a1,a2⟩,a3⟩,⟨⟨b1,b2⟩,b3⟩,_⟩:=z2;exact ⟨z1,a1,z3,b2,a3,b3⟩
 ·rintro ⟨z1,a1,z3,b2,a3,b3⟩;have e:=len2 z1;generalize row.getD 0 0=x at *;generalize row.getD 1 0=y at *;subst e;simp only [List.all_cons,List.all_nil,Bool.and_eq_true,decide_eq_true_eq,Bool.not_eq_true',decide_eq_false_iff_not];refine ⟨⟨rfl,⟨⟨⟨by omega,by omega⟩,a3⟩,⟨⟨by omega,by omega⟩,b3⟩,trivial⟩⟩,z3⟩
theorem zby {hs:List Int} {rs rows:List (List Int)}:zaR hs rs rows=true↔zi4 hs rs rows:=by
 unfold zaR;constructor
 ·intro z;simp only [Bool.and_eq_true,decide_eq_true_eq] at z;obtain ⟨⟨z1,z2⟩,z3⟩:=z;have h2:∀ k,k < hs.length→_:=fun k hk=>zbW.mp (List.all_eq_true.mp z2 k (List.mem_range.mpr hk));refine ⟨z1,fun k hk=>(h2 k hk).1,fun k hk=>(h2 k hk).2.1,fun k hk=>(h2 k hk).2.2.1,fun k hk=>(h2 k hk).2.2.2.1,fun k hk=>(h2 k hk).2.2.2.2.1,fun k hk=>(h2 k hk).2.2.2.2.2,fun k hk=>?_⟩;have:=List.all_eq_true.mp z3 k (List.mem_range.mpr hk);have e:(0:Int)+(k:Int)+1=(k:Int)+1:=by omega
  rw [e] at this;exact of_decide_eq_true this
 ·intro h;simp only [Bool.and_eq_true,decide_eq_true_eq];refine ⟨⟨h.len,zba fun k hk=>zbW.mpr ⟨h.two k hk,h.lo k hk,h.lt k hk,h.hi k hk,h.a k hk,h.b k hk⟩⟩,zba fun k hk=>?_⟩;have e:(0:Int)+(k:Int)+1=(k:Int)+1:=by omega
  rw [e];exact decide_eq_true (h.lim k hk)
theorem zhP {hs:List Int} {rs rows:List (List Int)} (h:zi4 hs rs rows) :
  Hall.Deal hs.length rs.length (limN rs) (zbf hs rs) (fun p=>(((rows.getD p []).getD 0 0-1).toNat,((rows.getD p []).getD 1 0-1).toNat)):=by
 refine ⟨fun p hp=>?_,fun p hp=>?_,fun p hp=>?_,fun p hp=>?_,fun r hr=>?_⟩
 ·have:=h.lo p hp;have:=h.lt p hp;show ((rows.getD p []).getD 0 0-1).toNat < ((rows.getD p []).getD 1 0-1).toNat;omega
 ·have:=h.lo p hp;have:=h.lt p hp;have:=h.hi p hp;show ((rows.getD p []).getD 1 0-1).toNat < rs.length;omega
 ·show zbf hs rs p _=true;unfold zbf;rw [decide_eq_false (h.a p hp)];rfl
 ·show zbf hs rs p _=true;unfold zbf;rw [decide_eq_false (h.b p hp)];rfl
 ·have h1:=h.lim r hr;rw [zfw,h.len] at h1;have h2:Hall.sm hs.length (fun p=>Hall.b2 (r == ((rows.getD p []).getD 0 0-1).toNat || r == ((rows.getD p []).getD 1 0-1).toNat))=Hall.sm hs.length (fun p=>Hall.b2 (decide ((r:Int)+1∈rows.getD p []))):=by
   apply Hall.sm_congr;intro p hp
   congr 1
   have e:=len2 (h.two p hp);have l1:=h.lo p hp;have l2:=h.lt p hp;generalize (rows.getD p []).getD 0 0=x at *;generalize (rows.getD p []).getD 1 0=y at *;rw [e]
   by_cases e1:(r:Int)+1=x
   ·have:(r == (x-1).toNat)=true:=by simp;omega
    rw [this];simp [e1]
   ·by_cases e2:(r:Int)+1=y
    ·have:(r == (y-1).toNat)=true:=by simp;omega
     rw [this];simp [e2]
    ·have t1:(r == (x-1).toNat)=false:=by simp;omega
     have t2:(r == (y-1).toNat)=false:=by simp;omega
     rw [t1,t2];simp [e1,e2]
  show Hall.sm hs.length (fun p=>Hall.b2 (r == ((rows.getD p []).getD 0 0-1).toNat || r == ((rows.getD p []).getD 1 0-1).toNat))≤_;rw [h2];unfold limN;omega
theorem zhQ {hs:List Int} {rs:List (List Int)} {D:Nat→Nat×Nat} (h0:∀ i,i < rs.length→0≤(rs.getD i []).getD 1 0)
  (h:Hall.Deal hs.length rs.length (limN rs) (zbf hs rs) D):zi4 hs rs ((List.range hs.length).map fun p=>[((D p).1:Int)+1,((D p).2:Int)+1]):=by
 have g:∀ k,k < hs.length→((List.range hs.length).map fun p=>[((D p).1:Int)+1,((D p).2:Int)+1]).getD k []=[((D k).1:Int)+1,((D k).2:Int)+1]:=fun k hk=>zaz hk;refine ⟨by simp,fun k hk=>?_,fun k hk=>?_,fun k hk=>?_,fun k hk=>?_,fun k hk=>?_,fun k hk=>?_,fun k hk=>?_⟩
 ·rw [g k hk];rfl
 ·rw [g k hk];show 1≤((D k).1:Int)+1;omega
 ·rw [g k hk];have:=h.lt k hk;show ((D k).1:Int)+1 < ((D k).2:Int)+1;omega
 ·rw [g k hk];have:=h.hi k hk;show ((D k).2:Int)+1≤_;omega
 ·rw [g k hk];have:=h.a k hk;unfold zbf at this;have e:(((D k).1:Int)+1-1).toNat=(D k).1:=by omega
  show (rs.getD (((D k).1:Int)+1-1).toNat []).getD 0 0≠_;rw [e];simpa using this
 ·rw [g k hk];have:=h.b k hk;unfold zbf at this;have e:(((D k).2:Int)+1-1).toNat=(D k).2:=by omega
  show (rs.getD (((D k).2:Int)+1-1).toNat []).getD 0 0≠_;rw [e];simpa using this
 ·have h1:=h.lim k hk;rw [zfw,List.length_map,List.length_range];have h2:Hall.sm hs.length (fun p=>Hall.b2 (decide ((k:Int)+1∈((List.range hs.length).map fun p=>[((D p).1:Int)+1,((D p).2:Int)+1]).getD p [])))=Hall.sm hs.length (fun p=>Hall.b2 (k == (D p).1 || k == (D p).2)):=by
   apply Hall.sm_congr;intro p hp
   congr 1
   rw [g p hp]
   by_cases e1:k=(D p).1
   ·have:(k == (D p).1)=true:=by simp [e1]
    rw [this];simp [← e1]
   ·by_cases e2:k=(D p).2
    ·have:(k == (D p).2)=true:=by simp [e2]
     rw [this];simp [← e2]
    ·have t1:(k == (D p).1)=false:=by simp [e1]
     have t2:(k == (D p).2)=false:=by simp [e2]
     rw [t1,t2];have n1:¬((k:Int)=((D p).1:Int)):=by omega
     have n2:¬((k:Int)=((D p).2:Int)):=by omega
     simp [n1,n2]
  rw [h2];have:=h0 k hk;unfold limN at h1;omega
def nbB:List (List Int)→List (List Int)→Bool
 | t::ts,r::rs=>if t.getD 0 0=r.getD 0 0 then (if t.getD 1 0=r.getD 1 0 then nbB ts rs else decide (t.getD 1 0 < r.getD 1 0)) else decide (t.getD 0 0 < r.getD 0 0)
 | _,_=>true
theorem zhl {ts rs:List (List Int)}:∀ (k:Nat),(∀ j,j < k→(ts.getD j []).getD 0 0=(rs.getD j []).getD 0 0∧(ts.getD j []).getD 1 0=(rs.getD j []).getD 1 0)→k≤ts.length→k≤rs.length→nbB ts rs=nbB (ts.drop k) (rs.drop k):=by
 intro k
 induction k generalizing ts rs with
 | zero=>intro _ _ _;rfl
 | succ k ih =>
   intro h h1 h2
   cases ts with
   | nil=>simp at h1
   | cons x xs =>
     cases rs with
     | nil=>simp at h2
     | cons y ys =>
       obtain ⟨h3,h4⟩:=h 0 (by omega);rw [List.drop_succ_cons,List.drop_succ_cons,← ih (fun j hj=>h (j+1) (by omega)) (by simpa using h1) (by simpa using h2)];have h3':x.getD 0 0=y.getD 0 0:=h3;have h4':x.getD 1 0=y.getD 1 0:=h4;show (if x.getD 0 0=y.getD 0 0 then _ else _)=_;rw [if_pos h3',if_pos h4']
theorem zdc {hs:List Int} {rs:List (List Int)} (h0:∀ i,i < rs.length→0≤(rs.getD i []).getD 1 0) :
  (∃ rows,zaR hs rs rows=true)↔∀ xs,SetM hs.length xs→agB hs rs xs=false:=by
 rw [← zi3 h0,← Hall.deal_iff];constructor
 ·rintro ⟨rows,h⟩;exact ⟨_,zhP (zby.mp h)⟩
 ·rintro ⟨D,h⟩;exact ⟨_,zby.mpr (zhQ h0 h)⟩
def zbg (hs:List Int) (rs:List (List Int)):Option (List Int)→Prop
 | none=>∀ ys,SetM hs.length ys→agB hs rs ys=false
 | some xs=>SetM hs.length xs∧agB hs rs xs=true∧∀ ys,SetM hs.length ys→agB hs rs ys=true→zcZ ys xs=false
def zaZ (hs:List Int) (rs:List (List Int)):Option (List (List Int))→Prop
 | none=>∀ rows,zaR hs rs rows=false
 | some t=>zaR hs rs t=true∧∀ rows,zaR hs rs rows=true→nbB t rows=true
theorem zi5 {α:Type} {xs:List α} {d:α} {i k:Nat} (h:i < k):(xs.take k).getD i d=xs.getD i d:=by
 rw [List.getD_eq_getElem?_getD,List.getD_eq_getElem?_getD,List.getElem?_take,if_pos h]
theorem LL.push {K:PySem.W.Frag} {H:Hp} {p q:Addr} {rs:List (List Int)} {r:List Int} {ps:List Addr} (e:H p=some (.lst (ps.map V.ref++[.ref q]))) (hl:ps.length=rs.length) (hq:H q=some (.lst (r.map V.int)))
  (hall:∀ i,i < rs.length→H (ps.getD i 0)=some (.lst ((rs.getD i []).map V.int))):LL K H p (rs++[r]):=by
 have e':ps.map V.ref++[.ref q]=(ps++[q]).map V.ref:=by simp
 rw [e'] at e;refine ⟨ps++[q],SqL.of e,by simp [hl],fun i hi=>?_⟩
 by_cases h:i < rs.length
 ·rw [zas (by omega),zas h];exact hall i h
 ·have h2:i=rs.length:=by simp only [List.length_append,List.length_cons,List.length_nil] at hi;omega
  subst h2;rw [zax,← hl,zax];exact hq
theorem lexB_trans:∀ {xs ys zs:List Int},xs.length=ys.length→ys.length=zs.length→lexB xs ys=true→lexB ys zs=true→lexB xs zs=true
 | x::xs,y::ys,z::zs,l1,l2,h1,h2=>by
   unfold lexB at *
   by_cases e1:x=y
   ·rw [if_pos e1] at h1
    by_cases e2:y=z
    ·rw [if_pos e2] at h2;rw [if_pos (e1.trans e2)];exact lexB_trans (by simpa using l1) (by simpa using l2) h1 h2
    ·rw [if_neg e2] at h2;have:=of_decide_eq_true h2;rw [if_neg (by omega)];exact decide_eq_true (by omega)
   ·rw [if_neg e1] at h1;have h1':=of_decide_eq_true h1
    by_cases e2:y=z
    ·rw [if_neg (by omega)];exact decide_eq_true (by omega)
    ·rw [if_neg e2] at h2;have:=of_decide_eq_true h2;rw [if_neg (by omega)];exact decide_eq_true (by omega)
 | [],_,_,_,_,h1,_=>by unfold lexB at h1;cases h1
 | _::_,[],_,_,_,h1,_=>by unfold lexB at h1;cases h1
 | _::_,_::_,[],_,_,_,h2=>by unfold lexB at h2;cases h2
theorem zdU {xs ys zs:List Int} (h1:zcZ xs ys=true) (h2:zcZ ys zs=true):zcZ xs zs=true:=by
 unfold zcZ at *
 by_cases e1:(xs.length:Int)=ys.length
 ·rw [if_pos e1] at h1
  by_cases e2:(ys.length:Int)=zs.length
  ·rw [if_pos e2] at h2;rw [if_pos (e1.trans e2)];exact lexB_trans (by omega) (by omega) h1 h2
  ·rw [if_neg e2] at h2;have:=of_decide_eq_true h2;rw [if_neg (by omega)];exact decide_eq_true (by omega)
 ·rw [if_neg e1] at h1;have h1':=of_decide_eq_true h1
  by_cases e2:(ys.length:Int)=zs.length
  ·rw [if_neg (by omega)];exact decide_eq_true (by omega)
  ·rw [if_neg e2] at h2;have:=of_decide_eq_true h2;rw [if_neg (by omega)];exact decide_eq_true (by omega)
theorem lexB_self:∀ (xs:List Int),lexB xs xs=false
 | []=>rfl
 | x::xs=>by unfold lexB;rw [if_pos rfl];exact lexB_self xs
theorem zet (xs:List Int):zcZ xs xs=false:=by
 unfold zcZ;rw [if_pos rfl];exact lexB_self xs
def zf3 (m:Int):Int→List Int→Bool
 | _,[]=>true
 | l,x::r=>decide (l < x) && decide (x≤m) && zf3 m x r
theorem zdK {m:Int}:∀ {l:Int} {xs:List Int},zf3 m l xs=true→xs.Pairwise (· < ·)∧∀ x∈xs,l < x∧x≤m
 | l,[],_=>⟨List.Pairwise.nil,by simp⟩
 | l,x::r,h=>by
   unfold zf3 at h;simp only [Bool.and_eq_true,decide_eq_true_eq] at h;obtain ⟨⟨h1,h2⟩,h3⟩:=h;obtain ⟨p,b⟩:=zdK h3;refine ⟨List.pairwise_cons.mpr ⟨fun y hy=>(b y hy).1,p⟩,fun y hy=>?_⟩;rcases List.mem_cons.mp hy with rfl | hy
   ·exact ⟨h1,h2⟩
   ·have:=b y hy;omega
def zm6 (x y s:Int):Bool:=decide (x-y≤s∧y-x≤s)
def min2 (x y:Int):Int:=if y < x then y else x
def max2 (x y:Int):Int:=if y > x then y else x
def zoc (x y s:Int):List Int:=if zm6 x y s then (if (x+y) % 2=1 then [x+y,2] else [(x+y) / 2,1]) else [min2 x y,1]
def mid3 (x y z:Int):Int:=x+y+z-max2 (max2 x y) z-min2 (min2 x y) z
def zbc (rs rows:List (List Int)):List Int:=(List.range rs.length).map fun k=>(rs.getD k []).getD 1 0-(cntB rows ((k:Int)+1):Int)
def leV (m:Int):V→Bool
 | .int i=>decide (i≤m)
 | _=>false
def neV (hs:List Int) (h:Int):V→Bool
 | .int x=>!decide (hs.getD (x-1).toNat 0=h)
 | _=>false
theorem zlR (hs:List Int) (h:Int) (xs:List Int):((xs.map V.int).filter (neV hs h)).length=(xs.filter fun x=>!decide (h=hs.getD (x-1).toNat 0)).length:=by
 rw [List.filter_map,List.length_map]
 congr 1
 apply List.filter_congr;intro x _;show (!decide _)=(!decide _)
 congr 1
 exact decide_eq_decide.mpr ⟨Eq.symm,Eq.symm⟩
theorem zf4 (hs:List Int) (h l:Int) (xs:List Int) (h0:0≤l):zbB hs [h,l] xs=min l (((xs.map V.int).filter (neV hs h)).length:Int):=by
 unfold zbB;rw [zdm hs [h,l] xs 0 h0,zlR];show min l (0+_)=_;rw [Int.zero_add];rfl
end Prf
namespace Prf
open PySem PySem.Spec PyProof.Rows L2
end Prf
namespace L2
open PySem PySem.Spec PyProof.Rows
theorem sum_rng:∀ (ns:List Int) (B:Int),0≤B→(∀ x∈ns,0≤x∧x≤B)→0≤ns.sum∧ns.sum≤B * ns.length
 | [],B,hB,_=>by simp
 | n::ns,B,hB,h=>by
   have h1:=h n List.mem_cons_self;have h2:=sum_rng ns B hB fun x hx=>h x (List.mem_cons_of_mem _ hx);rw [List.sum_cons,List.length_cons];have e:B * ((ns.length+1:Nat):Int)=B * ns.length+B:=by
    rw [Int.natCast_add,Int.mul_add];simp
   omega
section
variable {X:Cx} {K:PySem.W.Frag}
def cSum (K:PySem.W.Frag):List V→Hp→VK→Prop:=fun xs H Q=>∃ (a:Addr) (ns:List Int),xs=[.ref a]∧SqL K H a (ns.map V.int)∧(∀ x∈ns,0≤x∧x≤1000000)∧ns.length≤1000∧Q (.int ns.sum) H
theorem zi6 (hK:X.K=K) (hc:X.calm=true):zcG X (.builtin "sum") (cSum K):=by
 subst hK;intro pins s σ H xs us Q I r h;obtain ⟨a,ns,rfl,hl,hb,hz,q⟩:=h;obtain ⟨u,rfl,ru⟩:=r.one
 cases ru
 obtain ⟨its,rv,pl,_⟩:=I.list hl;have hi:=intsAre_of rv;have ha:AllInts its.toArray:=hi.allInts;obtain ⟨zs,ez⟩:=ha.items;have en:zs.toList.map (·.1)=ns:=by
  have h1:=nums_intItems zs;rw [← ez] at h1;rw [← h1];exact hi.numsOf
 refine sum_intList (xs:=zs) (I.ok.hd hc) (by rw [← ez];exact pl.isList) (fun j hj=>?_) fun h' tk t' k=>⟨.int ns.sum,H,I.kept k,⟨t',?_⟩,q⟩
 ·rw [numAt_eq,preSum_eq,en];have hjn:j < ns.length:=by rw [← en];simpa using hj
  have h0:=hb (ns.getD j 0) (by rw [List.getD_eq_getElem?_getD,List.getElem?_eq_getElem hjn];exact List.getElem_mem hjn);have h1:=sum_rng (ns.take (j+1)) 1000000 (by decide) fun x hx=>hb x (List.mem_of_mem_take hx);have h2:((ns.take (j+1)).length:Int)≤1000:=by rw [List.length_take];omega
  exact ⟨⟨by omega,by omega⟩,⟨by omega,by omega⟩⟩
 ·rw [preSum_eq,en,List.take_of_length_le (by rw [← en];simp)]
def cAll (K:PySem.W.Frag):List V→Hp→VK→Prop:=fun xs H Q=>∃ (a:Addr) (bs:List Bool),xs=[.ref a]∧SqL K H a (bs.map V.bl)∧Q (.bl (bs.all id)) H
theorem all_range (bs:List Bool) (f:Nat→Bool) (h:∀ i,i < bs.length→f i=bs.getD i true):(List.range bs.length).all f=bs.all id:=by
 rw [Bool.eq_iff_iff,List.all_eq_true,List.all_eq_true];constructor
 ·intro g x hx;obtain ⟨i,hi,rfl⟩:=List.getElem_of_mem hx;have:=g i (List.mem_range.mpr hi);rw [h i hi,List.getD_eq_getElem?_getD,List.getElem?_eq_getElem hi] at this;exact this
 ·intro g i hi;have hi':=List.mem_range.mp hi;rw [h i hi',List.getD_eq_getElem?_getD,List.getElem?_eq_getElem hi'];exact g _ (List.getElem_mem hi')
theorem zi7 (hK:X.K=K) (hc:X.calm=true):zcG X (.builtin "all") (cAll K):=by
 subst hK;intro pins s σ H xs us Q I r h;obtain ⟨a,bs,rfl,hl,q⟩:=h;obtain ⟨u,rfl,ru⟩:=r.one
 cases ru
 obtain ⟨its,rv,pl,_⟩:=I.list hl;have Ls:=pl.isList;obtain ⟨ol,el,_⟩:=id Ls;have Ll:=Heap.lt_size el;have lb:bs.length=its.length:=by have:=rv.length;rw [List.length_map] at this;exact this
 refine call_all_walk (wpAny_pyIter_list Ls ⟨_,_,_,_,_,_,fun i=>bs.getD i true,rfl,Walks.list (A:=X.A.in1) (I.ok.hd hc) s.heap.objs.size a (Nat.ne_of_lt Ll) its.toArray,⟨?_,?_⟩,?_,?_⟩)
 ·exact ⟨_,Heap.get?_push_size _ rfl,rfl,rfl⟩
 ·exact Ls.at fun o x=>Heap.get?_push_of_some _ x
 ·intro i v s' Q' E' hv hq;rw [List.getElem?_toArray] at hv;have hi:i < its.length:=(List.getElem?_eq_some_iff.mp hv).1;obtain ⟨u',hu,ru⟩:=rv.get (i:=i) (x:=.bl (bs.getD i true)) (by rw [List.getElem?_map,List.getElem?_eq_getElem (by omega),List.getD_eq_getElem?_getD,List.getElem?_eq_getElem (by omega)];rfl);have e:v=.bool (bs.getD i true):=by
   rw [hu] at hv;rw [← Option.some.inj hv];exact ru
  subst e;exact wpAny_truthy_bool hq
 ·intro h' tk k;have e:(List.range its.toArray.size).all (fun i=>bs.getD i true)=bs.all id:=by
   rw [List.size_toArray,← lb];exact all_range bs _ fun i _=>rfl
  rw [e];exact ⟨.bl _,H,I.kept fun b o x=>k b o (by have:=Nat.ne_of_lt (Heap.lt_size x);simpa using this) (Heap.get?_push_of_some _ x),rfl,q⟩
end
section
variable {σ:St} {H:Hp} {Q:VK} {K:PySem.W.Frag} {a:Addr} {ns:List Int} {bs:List Bool}
theorem zkk (h:SqL K H a (ns.map V.int)) (hb:∀ x∈ns,0≤x∧x≤1000000) (hz:ns.length≤1000) (q:Q (.int ns.sum) H):cSum K [.ref a] H Q:=⟨a,ns,rfl,h,hb,hz,q⟩
theorem zkl (h:SqL K H a (bs.map V.bl)) (q:Q (.bl (bs.all id)) H):cAll K [.ref a] H Q:=⟨a,bs,rfl,h,q⟩
end
end L2
namespace L2
open PySem PySem.Spec PyProof.Rows
section
variable {σ:St} {H:Hp} {Q:VK} {K:PySem.W.Frag} {js:List Nat} {te:TE} {tc:TT} {J:It} {n k:Nat} {x y:Nat→V} {g:TG} {w:Nat→St}
def zf5 (J:It) (k:Nat) (js:List Nat) (g:TG) (tc:TT) (te:TE) (σ:St) (H:Hp) (Q:VK):Prop:=∀ p,H p=none →
 ∃ W:Nat→Nat→St→Hp→Prop,(∃ m,W 0 m (capS k js σ) (upd H p (.lst [])))∧∀ i m σc H,W i m σc H →
  (J.stop i H∧Q (.ref p) H)∨(J.go i H∧∃ N:St→Hp→Prop,(∀ σ' H',N σ' H'→∃ m',m' < m∧W (i+1) m' σ' H')∧∀ x H',J.yld i H x H' →
   g x σc H' fun σ2 H2=>tc σ2 H2 fun b H3=>if b=true then te σ2 H3 fun v H4=>∃ ys,H4 p=some (.lst ys)∧ys.length < sizeLine∧N σ2 (upd H4 p (.lst (ys++[v]))) else N σ2 H3)
theorem zbH (h:zf5 J 1 js (zcD 0) tc te σ H Q):zeY J js tc te σ H Q:=h
structure zbP (J:It) (n k:Nat) (js:List Nat) (σ:St) (g:TG) (w:Nat→St) (H:Hp):Prop where
 len:∀ i,(w i).length=k
 go:∀ i H',Same H H'→i < n→J.go i H'
 stop:∀ H',Same H H'→J.stop n H'
 yld:∀ i H' v H2 (u:St) (N:St→Hp→Prop),Same H H'→i < n→u.length=k→J.yld i H' v H2→(∀ H3,Same H' H3→N (w i++capV js σ) H3)→g v (u++capV js σ) H2 N
theorem zbP.one (it:Iter J n x H):zbP J n 1 js σ (zcD 0) (fun i=>[some (x i)]) H where
 len:=fun _=>rfl
 go:=it.go
 stop:=it.stop
 yld:=fun i H' v H2 u N s hi hu hy q=>by
  obtain ⟨rfl,rfl⟩:=it.yld i H' v H2 s hi hy
  match u,hu with
  | [a],_=>exact q _ (Same.refl _)
theorem zbX (T:zbP J n k js σ g w H) (hz:n≤1000) (c:Nat→Bool) (f:Nat→V)
  (ht:∀ i H' Q',i < n→Same H H'→(∀ H2,Same H' H2→Q' (c i) H2)→tc (w i++capV js σ) H' Q')
  (he:∀ i H' Q',i < n→Same H H'→c i=true→(∀ H2,Same H' H2→Q' (f i) H2)→te (w i++capV js σ) H' Q')
  (hq:∀ p H2,H p=none→Same H H2→H2 p=some (.lst (((List.range n).filter c).map f))→Q (.ref p) H2):zf5 J k js g tc te σ H Q:=by
 intro p hp;refine ⟨fun i m σc H'=>m=n-i∧i≤n∧(∃ u:St,u.length=k∧σc=u++capV js σ)∧Same H H'∧H' p=some (.lst (((List.range i).filter c).map f)),⟨n,by simp,Nat.zero_le _,⟨List.replicate k none,List.length_replicate,rfl⟩,zaH hp,zar⟩,?_⟩;rintro i m σc H' ⟨rfl,hi,⟨u,hu,rfl⟩,s,hpp⟩;have hlen:(((List.range i).filter c).map f).length≤i:=by
  rw [List.length_map];exact Nat.le_trans (List.length_filter_le _ _) (by simp)
 have hsl:n < sizeLine:=zaK hz
 by_cases hlt:i < n
 ·refine .inr ⟨T.go i _ s hlt,fun σ' H'=>(∃ u:St,u.length=k∧σ'=u++capV js σ)∧Same H H'∧H' p=some (.lst (((List.range (i+1)).filter c).map f)),fun σ' H' ⟨h1,h2,h3⟩=>⟨n-(i+1),by omega,rfl,hlt,h1,h2,h3⟩,fun v H2 hy=>?_⟩;have e:(List.range (i+1)).filter c=(List.range i).filter c++if c i=true then [i] else []:=by
   rw [List.range_succ,List.filter_append]
   cases hc:c i <;> simp [hc]
  refine T.yld i H' v H2 u _ s hlt hu hy fun H3 s3=>?_;refine ht i _ _ hlt (s.trans s3) fun H4 s4=>?_;have s34:=s3.trans s4
  cases hc:c i with
  | false =>
    rw [if_neg Bool.false_ne_true];refine ⟨⟨w i,T.len i,rfl⟩,s.trans s34,?_⟩;rw [e,hc];simpa using s34 _ _ hpp
  | true =>
    rw [if_pos rfl];refine he i _ _ hlt (s.trans s34) hc fun H5 s5=>?_;refine ⟨_,s5 _ _ (s34 _ _ hpp),by omega,⟨w i,T.len i,rfl⟩,zec ((s.trans s34).trans s5) hp,?_⟩;rw [zar,e,hc];simp
 ·have e:i=n:=by omega
  subst e;exact .inl ⟨T.stop _ s,hq p _ hp s hpp⟩
theorem zcN (T:zbP J n k js σ g w H) (hz:n≤1000) (f:Nat→List Int)
  (he:∀ i H' Q',i < n→Same H H'→(∀ q H2,H' q=none→Same H' H2→H2 q=some (.lst ((f i).map V.int))→Q' (.ref q) H2)→te (w i++capV js σ) H' Q')
  (hq:∀ p H2,RowsAt H p ((List.range n).map f) H2→Q (.ref p) H2):zf5 J k js g tTT te σ H Q:=by
 intro p hp;refine ⟨fun i m σc H'=>m=n-i∧i≤n∧(∃ u:St,u.length=k∧σc=u++capV js σ)∧RowsAt H p ((List.range i).map f) H',⟨n,by simp,Nat.zero_le _,⟨List.replicate k none,List.length_replicate,rfl⟩,RowsAt.start hp (zaH hp) zar⟩,?_⟩;rintro i m σc H' ⟨rfl,hi,⟨u,hu,rfl⟩,R⟩;have s:=R.same;have hsl:n < sizeLine:=zaK hz
 by_cases hlt:i < n
 ·refine .inr ⟨T.go i _ s hlt,fun σ' H'=>(∃ u:St,u.length=k∧σ'=u++capV js σ)∧RowsAt H p ((List.range (i+1)).map f) H',fun σ' H' ⟨h1,h2⟩=>⟨n-(i+1),by omega,rfl,hlt,h1,h2⟩,fun v H2 hy=>?_⟩;refine T.yld i H' v H2 u _ s hlt hu hy fun H3 s3=>?_;refine r_tt ?_;rw [if_pos rfl];refine he i _ _ hlt (s.trans s3) fun q H4 f4 s4 e4=>?_;obtain ⟨zs,hzs,hzl⟩:=R.lst;have hzn:zs.length=i:=by rw [hzl];simp
  have hp4:=s4 _ _ (s3 _ _ hzs);refine ⟨zs,hp4,by omega,⟨w i,T.len i,rfl⟩,?_⟩;rw [List.range_succ,List.map_append];exact R.push (s3.free f4) (s3.trans s4) e4 hp4 But.upd zar
 ·have e:i=n:=by omega
  subst e;exact .inl ⟨T.stop _ s,hq p _ R⟩
end
end L2
namespace L2
open PySem PySem.Spec PyProof.Rows
section
variable {prog:Program} {w:World} {A:Around} {E:Value→Shared→Prop} {s:Shared}
abbrev kwS (v:Value):List (Str×Value):=[(Str.ofString "start",v)]
theorem zhR (a v:Value):checkTypeCall "enumerate" ⟨[a],kwS v⟩=pure ():=by kernel_rfl
theorem zi8 (a v:Value):checkBuiltinCall "enumerate.__new__" ⟨[.type "enumerate",a],kwS v⟩=pure ():=by kernel_rfl
theorem zhS (a b v:Value):argsOk "object.__init__" ⟨[a,b],kwS v⟩:=by unfold argsOk;kernel_rfl
theorem zgG (l:Addr) (items:Array Value) (n:Nat) (dct:Option Addr) (sl:Array (Option Value)) (t:Tok) :
  Meets (Builtin.«enumerate.__new__» ⟨[.type "enumerate",.ref l],kwS (.int 1 t)⟩) (fun _ R s=>s.heap.get? l=some { cls:=.type "list",dict:=dct,data:=.seq items n,slots:=sl } ∧
   R (.ok (.ret (.ref (s.heap.push { cls:=.type "list_iterator",data:=.fields #[.ref l,.int 0 0] }).objs.size)))
    { s with heap:=(s.heap.push { cls:=.type "list_iterator",data:=.fields #[.ref l,.int 0 0] }).push { cls:=.type "enumerate",data:=.fields #[.none,.bool false,.ref s.heap.objs.size,rawInt 1,.none,.none] } }) :=
 .of_wp fun prog w A R s ⟨hl,h⟩=>by
  obtain ⟨hp,g,d,tk,os⟩:=s;have hsub:=sub_enumerate;have hL:Heap.IsList (Shared.heap ⟨hp,g,d,tk,os⟩) l items:=⟨_,hl,rfl,n,rfl⟩
  wp_walk using AutoSeq1.wpAny_loadPart' hl
  refine wpAny_stack_any fun st=>wpAny_pure ?_;split
  ·rename_i c _ _ _ _ _
   cases hcc:(c == Value.type "enumerate")
   ·wp_walk using AutoSeq1.wpAny_loadPart' hl,wpAny_pyIter_list hL
    exact ⟨_,rfl,h⟩
   ·wp_walk using AutoSeq1.wpAny_loadPart' hl,wpAny_pyIter_list hL
    exact ⟨_,rfl,h⟩
  ·wp_walk using AutoSeq1.wpAny_loadPart' hl,wpAny_pyIter_list hL
   exact ⟨_,rfl,h⟩
theorem zgH (self a v:Value):Meets (Builtin.«object.__init__» ⟨[self,a],kwS v⟩) (fun _ R s=>s.TypeIs self "enumerate"∧R (.ok (.ret .none)) s):=by
 refine Meets.of_wp fun prog w A R s hs=>?_;obtain ⟨hT,hq⟩:=hs;have hl:=F.called_enumerate.init.lookup;have hm:=F.called_enumerate.made;have hne:(some "enumerate.__new__" != some "object.__new__")=true:=by decide
 repeat (any_goals (first | (assumption) | wp_step))
 exact ⟨_,rfl,hq⟩
theorem zhT {l:Addr} {items:Array Value} {t:Tok} {Q:Value→Shared→Prop} (hL:s.heap.IsList l items)
  (h:∀ h',IsEnum h' (s.heap.objs.size+1) s.heap.objs.size 1 .none→h'.IsListIter s.heap.objs.size l 0→(∀ b o,s.heap.get? b=some o→h'.get? b=some o)→Q (.ref (s.heap.objs.size+1)) { s with heap:=h' }) :
  wpAny (model prog w) A (call (.type "enumerate") [.ref l] (kwS (.int 1 t))) Q E s:=by
 obtain ⟨⟨c,dct,dt,sl⟩,hl,hc,n,hd⟩:=hL;obtain rfl:c=.type "list":=hc;obtain rfl:dt=.seq items n:=hd;have ft:=F.called_enumerate;obtain ⟨c0,tl,hmro⟩:=ft.mro;have hmade:=ft.made;have hsub:=ft.sub;have hct:=zhR (.ref l) (.int 1 t);refine wpAny_call (codeAny_of_tree ?_);show wpAny _ _ (callAny (.type "enumerate") _) _ _ _;refine wpAny_pure ⟨Code.quiet_builtin _ (by decide +kernel),codeAny_builtin F.entry_type_call ?_⟩;rw [Around.under_plain (weight_type_call_type "enumerate" [.ref l] (kwS (.int 1 t))) (units_type_call_type "enumerate" [.ref l] (kwS (.int 1 t)))];have n1:=ft.notType;have n2:=ft.canCreate
 repeat (any_goals (first | (assumption) | wp_step))
 have hz:(s.heap.push { cls:=.type "list_iterator",data:=.fields #[.ref l,.int 0 0] }).objs.size=s.heap.objs.size+1:=Heap.size_push ..
 let R0:Result→Shared→Prop:=fun r s'=>r=.ok (.ret (.ref (s.heap.objs.size+1)))∧∃ h',s'={ s with heap:=h' }∧IsEnum h' (s.heap.objs.size+1) s.heap.objs.size 1 .none∧h'.IsListIter s.heap.objs.size l 0∧(∀ b o,s.heap.get? b=some o→h'.get? b=some o)
 have key:codeAny (model prog w) A.in1 (Code.call (.builtin "enumerate.__new__") ⟨[.type "enumerate",.ref l],kwS (.int 1 t)⟩) R0 s:=by
  refine codeAny_call_builtin ft.plain F.entry_enumerate_new (wpAny_of_eq (zi8 _ _) (zgG l items n dct sl t prog w A.in1 R0 s ⟨hl,?_⟩));rw [hz];refine ⟨rfl,_,rfl,?_,⟨_,Heap.get?_push_of_some _ (Heap.get?_push_size _ rfl),rfl,rfl⟩,fun b o x=>Heap.get?_push_of_some _ (Heap.get?_push_of_some _ x)⟩;have e:=Heap.get?_push_size (s.heap.push { cls:=.type "list_iterator",data:=.fields #[.ref l,.int 0 0] }) (o:={ cls:=.type "enumerate",data:=.fields #[.none,.bool false,.ref s.heap.objs.size,rawInt 1,.none,.none] }) rfl;rw [hz] at e;exact e
 refine codeAny_mono key fun r s1 hr=>?_;obtain ⟨rfl,h',rfl,a1,a2,a3⟩:=hr;have hT:Shared.TypeIs { s with heap:=h' } (.ref (s.heap.objs.size+1)) "enumerate":=⟨_,a1,rfl⟩
 have hli:=ft.init.lookup;have hbi:=ft.init.bind (.ref (s.heap.objs.size+1))
 repeat (any_goals (first | (assumption) | wp_step))
 let R1:Result→Shared→Prop:=fun r s'=>r=.ok (.ret .none)∧s'={ s with heap:=h' }
 have key2:codeAny (model prog w) A.in1 (Code.call (.builtin "object.__init__") ⟨[.ref (s.heap.objs.size+1),.ref l],kwS (.int 1 t)⟩) R1 { s with heap:=h' } :=
  codeAny_call_builtin ft.init.plain F.entry_object_init (ft.init.check _ _ _ _ _ _ _ _ hT (zhS _ _ _) (zgH _ _ _ prog w A.in1 R1 _ ⟨hT,rfl,rfl⟩))
 refine codeAny_mono key2 fun r s2 hr=>?_;obtain ⟨rfl,rfl⟩:=hr
 repeat (any_goals (first | (assumption) | wp_step))
 exact h _ a1 a2 a3
theorem zhU {e it l:Addr} {i:Nat} {c:Int} {xs:Array Value} {x old:Value} {Q:Value→Shared→Prop} (he:IsEnum s.heap e it c old) (hit:s.heap.IsListIter it l i) (hl:s.heap.IsList l xs) (hx:xs[i]? = some x) (ne:e≠it)
  (q:∀ k,IsEnumOut k e it (c+1) x s.heap.objs.size→k.IsListIter it l (i+1)→k.get? s.heap.objs.size=some { cls:=.type "tuple",data:=.seq #[.int c s.toks,x] } →
   (∀ b o,b≠e→b≠it→s.heap.get? b=some o→k.get? b=some o)→Q (.ref s.heap.objs.size) { s with heap:=k,toks:=s.toks+1 }) :
  wpAny (model prog w) A (Builtin.«enumerate.__next__» ⟨[.ref e],[]⟩) (fun fin s'=>∃ v,fin=.done (.ret v)∧Q v s') E s:=by
 obtain ⟨g0,ge,dr,tk,os⟩:=s;have elt:e < g0.objs.size:=Heap.lt_size he;show wpAny _ _ (field (.ref e) 2 >>= _) _ _ _;refine wpAny_bind (wpAny_field he rfl (x:=.ref it) rfl (wpAny_bind (wpAny_nextOf_list_item hit hl hx fun g1 i1 b1=>?_)));replace b1:Heap.SameBut it g0 g1:=b1;have e1:IsEnum g1 e it c old:=(b1.2 e ne).trans he;show wpAny _ _ (field (.ref e) 3 >>= _) _ _ ⟨g1,ge,dr,tk,os⟩;refine wpAny_bind (wpAny_field e1 rfl (x:=rawInt c) rfl ?_);show wpAny _ _ (field (.ref e) 4 >>= _) _ _ ⟨g1,ge,dr,tk,os⟩;refine wpAny_bind (wpAny_field e1 rfl (x:=.none) rfl ?_);show wpAny _ _ (mkInt c >>= _) _ _ ⟨g1,ge,dr,tk,os⟩;refine wpAny_bind (wpAny_mkInt ?_);show wpAny _ _ (setField (.ref e) 3 (rawInt (c+1)) >>= _) _ _ ⟨g1,ge,dr,tk+1,os⟩;refine wpAny_bind (wpAny_setField_rec e1 (by simp) fun g2 e2 b2=>?_);replace b2:Heap.SameBut e g1 g2:=b2;replace e2:IsEnum g2 e it (c+1) old:=e2;show wpAny _ _ (setField (.ref e) 4 .none >>= _) _ _ ⟨g2,ge,dr,tk+1,os⟩;refine wpAny_bind (wpAny_setField_rec e2 (by simp) fun g3 e3 b3=>?_);replace b3:Heap.SameBut e g2 g3:=b3;replace e3:IsEnum g3 e it (c+1) old:=e3;show wpAny _ _ (newTuple [.int c tk,x] >>= _) _ _ ⟨g3,ge,dr,tk+1,os⟩;refine wpAny_bind (wpAny_newTuple ?_);have z3:g3.objs.size=g0.objs.size:=by rw [b3.1,b2.1,b1.1]
 have keep3:∀ b o,b≠e→b≠it→g0.get? b=some o→g3.get? b=some o:=fun b o n1 n2 y=>b3.extBut b o n1 (b2.extBut b o n1 (b1.extBut b o n2 y));have i3:g3.IsListIter it l (i+1):=(i1.extBut b2.extBut ne.symm).extBut b3.extBut ne.symm;have e4:IsEnum (g3.push { cls:=.type "tuple",data:=.seq #[.int c tk,x] }) e it (c+1) old:=Heap.get?_push_of_some _ e3;have t4:(g3.push { cls:=.type "tuple",data:=.seq #[.int c tk,x] }).get? g0.objs.size=some { cls:=.type "tuple",data:=.seq #[.int c tk,x] }:=by rw [← z3];exact Heap.get?_push_size _ rfl
 have keep4:∀ b o,b≠e→b≠it→g0.get? b=some o→(g3.push { cls:=.type "tuple",data:=.seq #[.int c tk,x] }).get? b=some o:=fun b o n1 n2 y=>Heap.get?_push_of_some _ (keep3 b o n1 n2 y);have i4:(g3.push { cls:=.type "tuple",data:=.seq #[.int c tk,x] }).IsListIter it l (i+1):=i3.at fun o y=>Heap.get?_push_of_some _ y;rw [z3];generalize g3.push { cls:=.type "tuple",data:=.seq #[.int c tk,x] }=g4 at e4 t4 keep4 i4;show wpAny _ _ (Builtin.SmallTypes.ownedTupleIsFree (.ref e) >>= _) _ _ ⟨g4,ge,dr,tk+1,os⟩;refine wpAny_bind ?_;unfold Builtin.SmallTypes.ownedTupleIsFree;refine wpAny_bind (wpAny_field e4 rfl (x:=.none) rfl (wpAny_pure ?_));simp only [if_true];refine wpAny_bind (wpAny_rule (wpAny_bind (wpAny_field e4 rfl (x:=old) rfl (wpAny_bind (wpAny_setField_rec e4 (by simp) fun g5 e5 b5=>?_)))));replace b5:Heap.SameBut e g4 g5:=b5;replace e5:IsEnum g5 e it (c+1) x:=e5;show wpAny _ _ (Builtin.SmallTypes.ownedTupleHandOut (.ref e) (.ref g0.objs.size) >>= _) _ _ ⟨g5,ge,dr,tk+1,os⟩;refine wpAny_bind ?_;unfold Builtin.SmallTypes.ownedTupleHandOut;refine wpAny_bind (wpAny_setField_rec e5 (by simp) fun g6 e6 b6=>?_);replace b6:Heap.SameBut e g5 g6:=b6;replace e6:IsEnumOut g6 e it (c+1) x g0.objs.size:=e6;refine wpAny_setField_rec e6 (by simp) fun g7 e7 b7=>?_;replace b7:Heap.SameBut e g6 g7:=b7;have far:∀ b o,b≠e→g4.get? b=some o→g7.get? b=some o:=fun b o n1 y=>b7.extBut b o n1 (b6.extBut b o n1 (b5.extBut b o n1 y));exact wpAny_bind (wpAny_letGo (wpAny_pure ⟨_,rfl,q g7 e7 (i4.at fun o y=>far it o ne.symm y) (far _ _ (Nat.ne_of_gt elt) t4) fun b o n1 n2 y=>far b o n1 (keep4 b o n1 n2 y)⟩))
theorem zhV {e it l:Addr} {i:Nat} {c:Int} {xs:Array Value} {x old:Value} {Q:Option Value→Shared→Prop} (he:IsEnum s.heap e it c old) (hit:s.heap.IsListIter it l i) (hl:s.heap.IsList l xs) (hx:xs[i]? = some x) (ne:e≠it)
  (q:∀ k,IsEnumOut k e it (c+1) x s.heap.objs.size→k.IsListIter it l (i+1)→k.get? s.heap.objs.size=some { cls:=.type "tuple",data:=.seq #[.int c s.toks,x] } →
   (∀ b o,b≠e→b≠it→s.heap.get? b=some o→k.get? b=some o)→Q (some (.ref s.heap.objs.size)) { s with heap:=k,toks:=s.toks+1 }) :
  wpAny (model prog w) A (pyNext (.ref e)) Q E s:=by
 have hT:s.TypeIs (.ref e) "enumerate":=⟨_,he,rfl⟩
 unfold pyNext;refine wpAny_bind (wpAny_attempt (wpAny_callSpecial?_slot (name:=Str.ofString "__next__") hT F.slot_enumerate_next (wpAny_call_entry F.slot_enumerate_next hT F.entry_enumerate_next ?_ (F.args_enumerate_next_1 _))));exact zhU he hit hl hx ne fun k a b d f=>wpAny_pure (q k a b d f)
theorem zi9 {e it l:Addr} {i:Nat} {c:Int} {xs:Array Value} {old:Value} {Q:Option Value→Shared→Prop} (hh:A.handled=none) (he:IsEnum s.heap e it c old) (hit:s.heap.IsListIter it l i) (hl:s.heap.IsList l xs) (hx:xs[i]? = none)
  (q:∀ k,Heap.ExtBut it s.heap k→Q none { s with heap:=k }):wpAny (model prog w) A (pyNext (.ref e)) Q E s:=by
 have hT:s.TypeIs (.ref e) "enumerate":=⟨_,he,rfl⟩
 unfold pyNext;refine wpAny_bind (wpAny_attempt (wpAny_callSpecial?_slot (name:=Str.ofString "__next__") hT F.slot_enumerate_next (wpAny_call_entry F.slot_enumerate_next hT F.entry_enumerate_next ?_ (F.args_enumerate_next_1 _))));show wpAny _ _ (field (.ref e) 2 >>= _) _ _ _;refine wpAny_bind (wpAny_field he rfl (x:=.ref it) rfl (wpAny_bind (wpAny_nextOf_list_end hh hit hl hx fun k y hk hy=>?_)));obtain ⟨o,ho,hc⟩:=hy;exact wpAny_bind (wpAny_isInstance (T:="StopIteration") (b:=true) ⟨o,ho,hc⟩ isSubtype_stop (wpAny_pure (q _ hk)))
theorem zfx {M:Model} {env:Env} {pos:Pos} {T:String} {e:Expr} {rest:List Expr} {kws:List Keyword} {Q:Value→Shared→Prop}
  (h:wpAny M A (spliced (backTo pos (starEach (e::rest) env))) (fun vs s1=>wpAny M A (evalAll ((backToKw pos (keywordEach kws env)).map (·.2)))
   (fun ks s2=>wpAny M A (call (.type T) vs (((backToKw pos (keywordEach kws env)).filterMap (·.1)).zip ks)) Q E s2) E s1) E s)
  (he:backTo pos (starEach (e::rest) env)=(false,eval e env)::backTo pos (starEach rest env)) (hp:(backTo pos (starEach (e::rest) env)).any (·.1)=false)
  (ha:(backToKw pos (keywordEach kws env)).all (·.1.isSome)=true) (hk:(backToKw pos (keywordEach kws env)).any (·.1.isNone)=false) :
  wpAny M A (callWith pos (.type T) [] (backTo pos (starEach (e::rest) env)) (backToKw pos (keywordEach kws env))) Q E s:=by
 have h2:wpAny M A (evalArgs (.type T) true (backTo pos (starEach (e::rest) env)) (backToKw pos (keywordEach kws env))) (fun a s1=>wpAny M A (call (.type T) ([]++a.pos) a.kw) Q E s1) E s:=by
  rw [he] at h ⊢;exact evalArgs_kwB ha h
 unfold callWith;refine wpAny_bind (wpAny_holding (wpAny_mono h2 (fun a s1 h1=>wpAny_bind (wpAny_standAt ?_)) fun _ _ z=>z));simp only [hp,hk,Bool.or_false];exact wpAny_bind (wpAny_pure (wpAny_bind (wpAny_mono h1 (fun r s2 hr=>wpAny_bind (wpAny_holding (wpAny_point (wpAny_pure hr)))) fun _ _ z=>z)))
end
def Ite (K:PySem.W.Frag) (a:Addr) (c:Int):It :=
 ⟨fun i H=>∃ xs x,SqL K H a xs∧xs[i]? = some x,
  fun i H v H'=>∃ T,H T=none∧v=.ref T∧∀ xs,SqL K H a xs→∃ x,xs[i]? = some x∧H'=upd H T (.tup [.int (c+i),x]),
  fun i H=>∃ xs,SqL K H a xs∧xs.length≤i⟩
theorem zf6 {P:Program} {w:World} {K:PySem.W.Frag} {elts:List Expr} {x1:Nat} {tpos:Pos} {l z I:Addr} {c:Int} (hzI:z≠I) (hlz:l≠z) (hlI:l≠I) :
  Turn P w K (.Tuple elts x1 tpos) (Ite K l c) [z,I] z (fun i h=>(∃ old,IsEnum h z I (c+i) old)∧h.IsListIter I l i) where
 mem:=by simp
 obj:=fun i h st b hb=>by
  obtain ⟨⟨old,h1⟩,o2,h2,c2,d2⟩:=st;simp only [List.mem_cons,List.not_mem_nil,or_false] at hb;rcases hb with rfl | rfl
  ·exact ⟨_,h1,fun v y=>by cases y⟩
  ·exact ⟨_,h2,fun v y=>by rw [d2] at y;cases y⟩
 keep:=fun i h h' st k=>by
  obtain ⟨⟨old,h1⟩,h2⟩:=st;exact ⟨⟨old,k z (by simp) _ h1⟩,h2.at fun o e=>k I (by simp) o e⟩
 item:=by
  intro X hP hw hK hc i pins s σ H E Iv hf st hg;subst hP hw hK;obtain ⟨xs,x,hq,hx⟩:=hg;obtain ⟨its,rv,p1,_⟩:=Iv.list hq;obtain ⟨u,hu,ru⟩:=rv.get hx;obtain ⟨⟨old,g1⟩,g2⟩:=st;have hI:I < s.heap.objs.size:=by obtain ⟨_,y,_⟩:=g2;exact Heap.lt_size y
  have hz:z < s.heap.objs.size:=Heap.lt_size g1;refine zhV g1 g2 p1.isList (x:=u) (by simpa using hu) hzI fun k a1 a2 a3 a4=>⟨_,rfl,?_⟩
  refine wpAny_letOwnedTupleGo_enum a1 fun k2 b1 b2=>?_;replace b2:Heap.SameBut z k k2:=b2;have hTn:H s.heap.objs.size=none:=Iv.hok.fresh (Nat.le_refl _);have keep:∀ b ob,b∉[z,I]→s.heap.get? b=some ob→k2.get? b=some ob:=fun b ob hb e=>by
   simp only [List.mem_cons,List.not_mem_nil,or_false,not_or] at hb;exact b2.extBut b ob hb.1 (a4 b ob hb.1 hb.2 e)
  have ei:c+(i:Int)+1=c+((i+1:Nat):Int):=by rw [Int.natCast_add];omega
  have c2:k2.IsListIter I l (i+1):=a2.extBut b2.extBut hzI.symm;refine ⟨.ref s.heap.objs.size,upd H s.heap.objs.size (.tup [.int (c+i),x]),?_,rfl,⟨_,hTn,rfl,fun xs' q'=>?_⟩,⟨⟨_,by rw [← ei];exact b1⟩,c2⟩,fun b hb=>?_⟩
  ·refine Iv.turnedNew (t':=s.toks+1) (ch:=[z,I]) keep (fun b hb=>⟨hf b hb,?_⟩) (Nat.le_refl _) ?_
   ·simp only [List.mem_cons,List.not_mem_nil,or_false] at hb;rcases hb with rfl | rfl
    ·exact ⟨_,b1⟩
    ·obtain ⟨o,e,_⟩:=c2;exact ⟨_,e⟩
   ·exact ⟨by show 2≤sizeLine;rw [sizeLine_eq];decide,[.int (c+i) s.toks,u],.cons ⟨_,rfl⟩ (.cons ru .nil),_,b2.extBut _ _ (Nat.ne_of_gt hz) a3,rfl,_,rfl⟩
  ·rw [Iv.list_inj q' hq];exact ⟨x,hx,rfl⟩
  ·have:b≠s.heap.objs.size:=by
    simp only [List.mem_cons,List.not_mem_nil,or_false] at hb;rcases hb with rfl | rfl
    ·exact Nat.ne_of_lt hz
    ·exact Nat.ne_of_lt hI
   rw [zaJ this];exact (hf b hb).1
 done:=by
  intro X hP hw hK hc i pins s σ H E Iv hf st hg;subst hP hw hK;obtain ⟨xs,hq,hx⟩:=hg;obtain ⟨its,rv,p1,_⟩:=Iv.list hq;obtain ⟨⟨old,g1⟩,g2⟩:=st;have hl1:=rv.length;refine zi9 (Iv.ok.hd hc) g1 g2 p1.isList (Array.getElem?_eq_none (by simp;omega)) fun k hk=>⟨rfl,Iv.turnedL (t':=s.toks) (ch:=[z,I]) (fun b ob hb e=>?_) hf⟩
  simp only [List.mem_cons,List.not_mem_nil,or_false,not_or] at hb;exact hk b ob hb.2 e
 self:=fun _ _ _ _ _ ⟨⟨_,st⟩,_⟩ h=>wpAny_pyIter_enum st h
section
variable {X:Cx} {K:PySem.W.Frag}
def zkm (K:PySem.W.Frag) (c:Int) (ta:TA):TI:=fun σ H R=>ta σ H fun vs H1=>∃ a xs,vs=[.ref a]∧SqL K H1 a xs∧R (Ite K a c) H1
theorem zja {pins:List (Addr×Obj)} {σ:St} {H:Hp} {s:Shared} {h':Heap} (I:Inv X pins σ H s) (b:Addr) (hb:b∈[s.heap.objs.size+1,s.heap.objs.size]):FpOk X pins H b:=by
 have hge:s.heap.objs.size≤b:=by
  simp only [List.mem_cons,List.not_mem_nil,or_false] at hb;rcases hb with rfl | rfl
  ·exact Nat.le_succ _
  ·exact Nat.le_refl _
 exact I.fpOk hge (I.hok.fresh hge)
theorem zkn {a:Expr} {ta:TA} {p pos tpos:Pos} {elts:List Expr} {x1:Nat} (hK:X.K=K) (hg:Gl X "enumerate") (hm:X.mg "enumerate" = none) (ha:PA X [a] ta) (hs:starEach [a] X.env=(false,eval a X.env)::starEach [] X.env:=by rfl)
  (hs2:(backTo pos (starEach [] X.env)).any (·.1)=false:=by rfl):PI X (.Tuple elts x1 tpos) (.Call (.Name "enumerate" p) [a] [] pos) (zkm K 0 ta):=by
 subst hK;intro pins s σ H R I h;refine Call_ (zdi I hg hm boot_enumerate (PyProof.Rows.callWith_type1 (thn (ha pos pins s σ H _ I h) fun us s1 ⟨vs,H1,I1,r1,q1⟩=>?_) hs hs2));obtain ⟨l,xs,e,q1,q⟩:=q1;subst e;obtain ⟨v1,rfl,ru⟩:=r1.one
 cases ru
 obtain ⟨its,rv,p1,_⟩:=I1.list q1;obtain ⟨o1,e1,_⟩:=p1.isList;have L1:=Heap.lt_size e1;refine call_enumerate_list p1.isList fun k a1 a2 _ a4=>?_;refine wpAny_pyIter_enum a1 ?_;have I2:Inv X pins σ H1 { s1 with heap:=k }:=I1.kept (t':=s1.toks) a4;exact ⟨s1.heap.objs.size+1,_,_,Ite X.K l 0,H1,rfl,I2,zf6 (Nat.succ_ne_self _) (Nat.ne_of_lt (Nat.lt_succ_of_lt L1)) (Nat.ne_of_lt L1),⟨⟨_,a1⟩,a2⟩,zja (h':=k) I1,q⟩
theorem zfy {a:Expr} {ta:TA} {p pos tpos kpos cpos:Pos} {ci:Nat} {elts:List Expr} {x1:Nat} (hK:X.K=K) (hg:Gl X "enumerate") (hm:X.mg "enumerate" = none) (ha:PA X [a] ta)
  (hb:bootBuiltins "enumerate" = some (.type "enumerate"):=by rfl)
  (he:backTo pos (starEach [a] X.env)=(false,eval a X.env)::backTo pos (starEach [] X.env):=by rfl) (hpl:(backTo pos (starEach [a] X.env)).any (·.1)=false:=by rfl) :
  PI X (.Tuple elts x1 tpos) (.Call (.Name "enumerate" p) [a] [⟨some "start",.Constant (.int 1) ci cpos,kpos⟩] pos) (zkm K 1 ta):=by
 subst hK;intro pins s σ H R I h;refine wpAny_Call_Name_kw (zdi I hg hm hb ?_ (by decide) (by decide));refine zfx (thn (ha pos pins s σ H _ I h) fun us s1 ⟨vs,H1,I1,r1,q1⟩=>thn ((ziB zae pk_nil) pos pins s1 σ H1 (fun zs H2=>zs=[.int 1]∧H2=H1) I1 ⟨rfl,rfl⟩) fun ws s2 ⟨zs,H2,I2,r2,q2⟩=>?_) he hpl rfl rfl;obtain ⟨rfl,rfl⟩:=q2;obtain ⟨l,xs,e,q1,q⟩:=q1;subst e;obtain ⟨v1,rfl,ru⟩:=r1.one
 cases ru
 obtain ⟨v2,rfl,tt,rfl⟩:=r2.one;obtain ⟨its,rv,p1,_⟩:=I2.list q1;obtain ⟨o1,e1,_⟩:=p1.isList;have L1:=Heap.lt_size e1;refine zhT p1.isList fun k a1 a2 a4=>?_;refine wpAny_pyIter_enum a1 ?_;have I3:Inv X pins σ H2 { s2 with heap:=k }:=I2.kept (t':=s2.toks) a4;exact ⟨s2.heap.objs.size+1,_,_,Ite X.K l 1,H2,rfl,I3,zf6 (Nat.succ_ne_self _) (Nat.ne_of_lt (Nat.lt_succ_of_lt L1)) (Nat.ne_of_lt L1),⟨⟨_,a1⟩,a2⟩,zja (h':=k) I2,q⟩
end
section
variable {σ:St} {H:Hp} {D:Ends} {nx bk ct:St→Hp→Prop} {rt:VK} {K:PySem.W.Frag} {Q:VK} {js:List Nat} {te:TE} {tc:TT} {c:Int} {a b:Addr} {xs ys:List V}
theorem zm7 {tl:TA} {g:TG} {tb:TS} (h:tl σ H fun vs H1=>∃ a xs,vs=[.ref a]∧SqL K H1 a xs∧ForI (Ite K a c) g tb D σ H1):tFor (zkm K c tl) g tb D σ H:=h
theorem zlS {tl:TA} {k:Nat} {g:TG} (h:tl σ H fun vs H1=>∃ a xs,vs=[.ref a]∧SqL K H1 a xs∧zf5 (Ite K a c) k js g tc te σ H1 Q):zgD (zkm K c tl) k js g tc te σ H Q:=h
theorem zlT {tl:TA} {k:Nat} {g:TG} (h:tl σ H fun vs H1=>∃ a b xs ys,vs=[.ref a,.ref b]∧SqL K H1 a xs∧SqL K H1 b ys∧zf5 (Itz K a b) k js g tc te σ H1 Q):zgD (iZip K tl) k js g tc te σ H Q:=h
theorem zef {P:Addr→Prop} (h:SqL K H a xs) (q:P a):∃ b xs,[V.ref a]=[.ref b]∧SqL K H b xs∧P b:=⟨a,xs,rfl,h,q⟩
theorem zlU {i j:Nat} {tb:TS} (Pv:Nat→St→Hp→Prop) (h0:Pv 0 σ H) (hl:∀ i σ H,i≤xs.length→Pv i σ H→SqL K H a xs)
  (hs:∀ k x σ H H' ,xs[k]? = some x→Pv k σ H→Same H H'→tb ⟨Pv (k+1),rt,nx,Pv (k+1)⟩ ((σ.set i (some (.int (c+k)))).set j (some x)) H') (hd:∀ σ H,Pv xs.length σ H→nx σ H) :
  ForI (Ite K a c) (gTup K 2 (zgz (zcD i) (zgz (zcD j) gNil))) tb ⟨nx,rt,bk,ct⟩ σ H:=by
 refine ⟨fun i m σ H=>m=xs.length-i∧i≤xs.length∧Pv i σ H,⟨xs.length,by simp,Nat.zero_le _,h0⟩,?_⟩;rintro k m σ H ⟨rfl,hi,p⟩;have q1:=hl k σ H hi p
 by_cases hlt:k < xs.length
 ·refine .inr ⟨⟨xs,xs[k],q1,by simp [hlt]⟩,Pv (k+1),fun σ' H' p'=>⟨xs.length-(k+1),by omega,rfl,hlt,p'⟩,fun v H' yy=>?_⟩;obtain ⟨T,hT,rfl,yy⟩:=yy;obtain ⟨x,hx,rfl⟩:=yy xs q1;exact ⟨T,[.int (c+k),x],rfl,SqT.of zar,rfl,.int (c+k),[x],rfl,x,[],rfl,rfl,hs k x σ H _ hx p (zaH hT)⟩
 ·have e:k=xs.length:=by omega
  subst e;exact .inl ⟨⟨xs,q1,Nat.le_refl _⟩,hd σ H p⟩
theorem zbP.enum (h:SqL K H a xs):zbP (Ite K a c) xs.length 2 js σ (gTup K 2 (zgz (zcD 0) (zgz (zcD 1) gNil))) (fun i=>[some (.int (c+i)),some (xs.getD i .non)]) H where
 len:=fun _=>rfl
 go:=fun i H' s hi=>⟨xs,xs[i],s.seq h,by simp [hi]⟩
 stop:=fun H' s=>⟨xs,s.seq h,Nat.le_refl _⟩
 yld:=fun i H' v H2 u N s hi hu hy q=>by
  obtain ⟨T,hT,rfl,yy⟩:=hy;obtain ⟨x,hx,rfl⟩:=yy xs (s.seq h);have ex:xs.getD i .non=x:=by rw [List.getD_eq_getElem?_getD,hx];rfl
  match u,hu with
  | [u1,u2],_ =>
    refine ⟨T,[.int (c+i),x],rfl,SqT.of zar,rfl,.int (c+i),[x],rfl,x,[],rfl,rfl,?_⟩;have:=q _ (zaH (o:=.tup [.int (c+i),x]) hT);rw [ex] at this;exact this
theorem zbP.zip (h:SqL K H a xs) (h2:SqL K H b ys) (hl:xs.length=ys.length):zbP (Itz K a b) xs.length 2 js σ (gTup K 2 (zgz (zcD 0) (zgz (zcD 1) gNil))) (fun i=>[some (xs.getD i .non),some (ys.getD i .non)]) H where
 len:=fun _=>rfl
 go:=fun i H' s hi=>⟨xs,ys,xs[i],ys[i],s.seq h,s.seq h2,by simp [hi],by simp [hl▸hi]⟩
 stop:=fun H' s=>⟨xs,ys,s.seq h,s.seq h2,.inl (Nat.le_refl _)⟩
 yld:=fun i H' v H2 u N s hi hu hy q=>by
  obtain ⟨T,hT,rfl,yy⟩:=hy;obtain ⟨x,y,hx,hy,rfl⟩:=yy xs ys (s.seq h) (s.seq h2);have ex:xs.getD i .non=x:=by rw [List.getD_eq_getElem?_getD,hx];rfl
  have ey:ys.getD i .non=y:=by rw [List.getD_eq_getElem?_getD,hy];rfl
  match u,hu with
  | [u1,u2],_ =>
    refine ⟨T,[x,y],rfl,SqT.of zar,rfl,x,[y],rfl,y,[],rfl,rfl,?_⟩;have:=q _ (zaH (o:=.tup [x,y]) hT);rw [ex,ey] at this;exact this
end
end L2
namespace Prf
open PySem PySem.Spec PyProof.Rows L2
def b1 (b:Bool):Nat:=if b then 1 else 0
theorem cnt_cons (r:List Int) (rows:List (List Int)) (x:Int):cntB (r::rows) x=b1 (decide (x∈r))+cntB rows x:=by
 unfold cntB b1;rw [List.filter_cons]
 cases decide (x∈r) <;> simp <;> omega
theorem zgI (x:Int) (row:List Int):∀ (gv:List (List Int)) (p:Nat),p < gv.length→cntB (gv.set p row) x+b1 (decide (x∈gv.getD p []))=cntB gv x+b1 (decide (x∈row))
 | g::gv,0,_=>by
   rw [List.set_cons_zero,cnt_cons,cnt_cons];show _+b1 (decide (x∈g))=_;omega
 | g::gv,p+1,h=>by
   rw [List.set_cons_succ,cnt_cons,cnt_cons];have:=zgI x row gv p (by simpa using h);show _+b1 (decide (x∈gv.getD p []))=_;omega
theorem zbn {α:Type} {xs:List α} {d v:α} {i j:Nat} (h:i < xs.length):(xs.set i v).getD j d=if j=i then v else xs.getD j d:=by
 rw [List.getD_eq_getElem?_getD,List.getElem?_set,List.getD_eq_getElem?_getD]
 by_cases e:j=i
 ·subst e;simp [h]
 ·simp [e,Ne.symm e]
structure Vld (al gv:List (List Int)) (lim sp:List Int) (o:Int):Prop where
 lg:gv.length=al.length
 ls:sp.length=lim.length
 nd:∀ q,q < gv.length→(gv.getD q []).Nodup
 sub:∀ q,q < gv.length→∀ r∈gv.getD q [],r∈al.getD q []
 ar:∀ q,q < al.length→∀ r∈al.getD q [],1≤r∧r≤lim.length
 s0:∀ r:Nat,r < lim.length→0≤sp.getD r 0
 eq:∀ r:Nat,r < lim.length→sp.getD r 0+(cntB gv ((r:Int)+1):Int)+(if (r:Int)+1=o then 1 else 0)=lim.getD r 0
theorem Vld.take {al gv:List (List Int)} {lim sp:List Int} {r:Int} (V:Vld al gv lim sp 0) (r1:1≤r) (r2:r≤lim.length) (h:0 < sp.getD (r-1).toNat 0):Vld al gv lim (sp.set (r-1).toNat (sp.getD (r-1).toNat 0-1)) r:=by
 have hi:(r-1).toNat < sp.length:=by have:=V.ls;omega
 refine ⟨V.lg,by rw [List.length_set];exact V.ls,V.nd,V.sub,V.ar,fun k hk=>?_,fun k hk=>?_⟩
 ·rw [zbn hi];split
  ·omega
  ·exact V.s0 k hk
 ·have e:=V.eq k hk;rw [if_neg (by omega)] at e;rw [zbn hi]
  by_cases ek:k=(r-1).toNat
  ·rw [if_pos ek,if_pos (by omega)];subst ek;omega
  ·rw [if_neg ek,if_neg (by omega)];exact e
theorem Vld.push {al gv:List (List Int)} {lim sp:List Int} {r:Int} {p:Nat} (V:Vld al gv lim sp r) (hp:p < gv.length) (hr:r∈al.getD p []) (hn:r∉gv.getD p []):Vld al (gv.set p (gv.getD p []++[r])) lim sp 0:=by
 refine ⟨by rw [List.length_set];exact V.lg,V.ls,fun q hq=>?_,fun q hq=>?_,V.ar,V.s0,fun k hk=>?_⟩
 ·rw [List.length_set] at hq;rw [zbn hp];split
  ·refine List.nodup_append.mpr ⟨V.nd p hp,by simp,fun a ha b hb=>?_⟩;have:b=r:=by simpa using hb
   subst this;intro e;subst e;exact hn ha
  ·exact V.nd q hq
 ·rw [List.length_set] at hq;rw [zbn hp];split
  ·rename_i e
   subst e;intro x hx;rcases List.mem_append.mp hx with h | h
   ·exact V.sub q hp x h
   ·have:x=r:=by simpa using h
    subst this;exact hr
  ·exact V.sub q hq
 ·have e:=V.eq k hk;have c:=zgI ((k:Int)+1) (gv.getD p []++[r]) gv p hp;have l:=V.lg;have hrr:=V.ar p (by omega) r hr;rw [if_neg (show ¬(k:Int)+1=0 by omega)]
  by_cases ek:(k:Int)+1=r
  ·rw [if_pos ek] at e;rw [ek] at c e ⊢;have d1:decide (r∈gv.getD p [])=false:=decide_eq_false hn;have d2:decide (r∈gv.getD p []++[r])=true:=decide_eq_true (by simp);rw [d1,d2] at c;have c2:cntB (gv.set p (gv.getD p []++[r])) r+0=cntB gv r+1:=c;omega
  ·rw [if_neg ek] at e;have d:decide ((k:Int)+1∈gv.getD p []++[r])=decide ((k:Int)+1∈gv.getD p []):=by
    rw [decide_eq_decide];simp [ek]
   rw [d] at c;omega
theorem Vld.drop {al gv:List (List Int)} {lim sp:List Int} {r:Int} {p:Nat} (V:Vld al gv lim sp 0) (hp:p < gv.length) (hr:r∈gv.getD p []):Vld al (gv.set p ((gv.getD p []).erase r)) lim sp r:=by
 have ndp:=V.nd p hp;refine ⟨by rw [List.length_set];exact V.lg,V.ls,fun q hq=>?_,fun q hq=>?_,V.ar,V.s0,fun k hk=>?_⟩
 ·rw [List.length_set] at hq;rw [zbn hp];split
  ·exact ndp.erase r
  ·exact V.nd q hq
 ·rw [List.length_set] at hq;rw [zbn hp];split
  ·rename_i e
   subst e;intro x hx;exact V.sub q hp x (List.mem_of_mem_erase hx)
  ·exact V.sub q hq
 ·have e:=V.eq k hk;have c:=zgI ((k:Int)+1) ((gv.getD p []).erase r) gv p hp;rw [if_neg (show ¬(k:Int)+1=0 by omega)] at e
  by_cases ek:(k:Int)+1=r
  ·rw [if_pos ek];rw [ek] at c e ⊢;have d1:decide (r∈gv.getD p [])=true:=decide_eq_true hr;have d2:decide (r∈(gv.getD p []).erase r)=false:=decide_eq_false (by rw [ndp.mem_erase_iff];simp);rw [d1,d2] at c;have c2:cntB (gv.set p ((gv.getD p []).erase r)) r+1=cntB gv r+0:=c;omega
  ·rw [if_neg ek];have d:decide ((k:Int)+1∈(gv.getD p []).erase r)=decide ((k:Int)+1∈gv.getD p []):=by
    rw [decide_eq_decide,ndp.mem_erase_iff];simp [ek]
   rw [d] at c;omega
def Cov (al gv:List (List Int)) (ks:List Int) (q:Nat):Prop:=∀ r∈al.getD q [],r∈ks∨r∈gv.getD q []
theorem Cov.mono {al gv:List (List Int)} {ks ls:List Int} {q:Nat} (h:Cov al gv ks q) (s:∀ r∈ks,r∈ls):Cov al gv ls q:=fun r hr=>(h r hr).elim (fun z=>.inl (s r z)) .inr
def Cls2 (al gv:List (List Int)) (sp ks ls:List Int):Prop:=(∀ r∈ks,r∈ls)∧∀ r∈ls,r∉ks→sp.getD (r-1).toNat 0=0∧∀ q,q < gv.length→r∈gv.getD q []→Cov al gv ls q
theorem Cls2.refl {al gv:List (List Int)} {sp ks:List Int}:Cls2 al gv sp ks ks:=⟨fun _ h=>h,fun r h n=>absurd h n⟩
theorem Cls2.trans {al gv:List (List Int)} {sp ks ls ms:List Int} (a:Cls2 al gv sp ks ls) (b:Cls2 al gv sp ls ms):Cls2 al gv sp ks ms:=by
 refine ⟨fun r h=>b.1 r (a.1 r h),fun r h n=>?_⟩
 by_cases hl:r∈ls
 ·obtain ⟨h1,h2⟩:=a.2 r hl n;exact ⟨h1,fun q hq hr=>(h2 q hq hr).mono b.1⟩
 ·exact b.2 r h hl
theorem Cls2.one {al gv:List (List Int)} {sp ks ls:List Int} {x:Int} (b:Cls2 al gv sp (ks++[x]) ls) (h0:sp.getD (x-1).toNat 0=0) (h1:∀ q,q < gv.length→x∈gv.getD q []→Cov al gv ls q):Cls2 al gv sp ks ls:=by
 refine ⟨fun r h=>b.1 r (by simp [h]),fun r h n=>?_⟩
 by_cases e:r=x
 ·subst e;exact ⟨h0,h1⟩
 ·exact b.2 r h (by simp [n,e])
structure Fnd (al gv gv':List (List Int)) (lim sp' ks:List Int) (p:Nat):Prop where
 v:Vld al gv' lim sp' 0
 lg:gv'.length=gv.length
 len:∀ q,q < gv.length→(gv'.getD q []).length=(gv.getD q []).length+if q=p then 1 else 0
 old:∀ r∈ks,∀ q,q < gv.length→(r∈gv'.getD q []↔r∈gv.getD q [])
structure Fre (al gv gv':List (List Int)) (lim sp' ks:List Int) (x:Int):Prop where
 v:Vld al gv' lim sp' x
 lg:gv'.length=gv.length
 len:∀ q,q < gv.length→(gv'.getD q []).length=(gv.getD q []).length
 old:∀ r∈ks,r≠x→∀ q,q < gv.length→(r∈gv'.getD q []↔r∈gv.getD q [])
 own:∀ q,q < gv.length→x∈gv'.getD q []→x∈gv.getD q []
theorem Fre.found {al gv gv':List (List Int)} {lim sp' ks:List Int} {x:Int} {p:Nat} (F:Fre al gv gv' lim sp' (ks++[x]) x) (hp:p < gv.length) (hx:x∈al.getD p []) (hn:x∉gv.getD p []) (hk:x∉ks) :
  Fnd al gv (gv'.set p (gv'.getD p []++[x])) lim sp' ks p:=by
 have l:=F.lg;have hp':p < gv'.length:=by omega
 refine ⟨F.v.push hp' hx (fun z=>hn (F.own p hp z)),by rw [List.length_set];exact l,fun q hq=>?_,fun r hr q hq=>?_⟩
 ·have:=F.len q hq;rw [zbn hp']
  by_cases e:q=p
  ·subst e;rw [if_pos rfl,if_pos rfl,List.length_append,List.length_singleton];omega
  ·rw [if_neg e,if_neg e];omega
 ·have hne:r≠x:=fun e=>hk (e▸hr);have:=F.old r (by simp [hr]) hne q hq;rw [zbn hp']
  by_cases e:q=p
  ·subst e;rw [if_pos rfl,List.mem_append,this];simp [hne]
  ·rw [if_neg e];exact this
theorem Fnd.freed {al gv gv':List (List Int)} {lim sp' ks:List Int} {x:Int} {p:Nat} (F:Fnd al gv gv' lim sp' ks p) (hp:p < gv.length) (hx:x∈gv.getD p []) (hk:x∈ks) :
  x∈gv'.getD p []∧Fre al gv (gv'.set p ((gv'.getD p []).erase x)) lim sp' ks x:=by
 have l:=F.lg;have hp':p < gv'.length:=by omega
 have hx':x∈gv'.getD p []:=(F.old x hk p hp).mpr hx;have ndp:=F.v.nd p hp';refine ⟨hx',F.v.drop hp' hx',by rw [List.length_set];exact l,fun q hq=>?_,fun r hr hne q hq=>?_,fun q hq hq2=>?_⟩
 ·have:=F.len q hq;rw [zbn hp']
  by_cases e:q=p
  ·subst e;rw [if_pos rfl,List.length_erase_of_mem hx'];rw [if_pos rfl] at this;omega
  ·rw [if_neg e];rw [if_neg e] at this;omega
 ·have:=F.old r hr q hq;rw [zbn hp']
  by_cases e:q=p
  ·subst e;rw [if_pos rfl,ndp.mem_erase_iff,this];simp [hne]
  ·rw [if_neg e];exact this
 ·rw [zbn hp'] at hq2
  by_cases e:q=p
  ·subst e;exact hx
  ·rw [if_neg e] at hq2;exact (F.old x hk q hq).mp hq2
theorem Vld.taken {al gv:List (List Int)} {lim sp ks:List Int} {r:Int} (V:Vld al gv lim sp 0) (r1:1≤r) (r2:r≤lim.length) (h:0 < sp.getD (r-1).toNat 0):Fre al gv gv lim (sp.set (r-1).toNat (sp.getD (r-1).toNat 0-1)) ks r :=
 ⟨V.take r1 r2 h,rfl,fun _ _=>rfl,fun _ _ _ _ _=>Iff.rfl,fun _ _ h=>h⟩
theorem zm8 {n:Nat} {f:Nat→Bool}:Hall.sm n (fun p=>Hall.b2 (f p))=((List.range n).filter f).length:=zcM f n
theorem zjb {row:List Int} {m:Nat} (nd:row.Nodup) (h:∀ r∈row,1≤r∧r≤m):Hall.sm m (fun r=>Hall.b2 (decide ((r:Int)+1∈row)))=row.length:=by
 rw [zm8];have e:(((List.range m).filter fun r:Nat=>decide ((r:Int)+1∈row)).map fun r:Nat=>(r:Int)+1).Perm row:=by
  refine (List.perm_ext_iff_of_nodup ?_ nd).mpr fun x=>?_
  ·unfold List.Nodup;rw [List.pairwise_map];exact (List.nodup_range.filter _).imp fun h e=>h (by omega)
  ·constructor
   ·intro hx;obtain ⟨r,hr,rfl⟩:=List.mem_map.mp hx;simpa using (List.mem_filter.mp hr).2
   ·intro hx;have:=h x hx;refine List.mem_map.mpr ⟨(x-1).toNat,List.mem_filter.mpr ⟨List.mem_range.mpr (by omega),?_⟩,by omega⟩;have e:(((x-1).toNat:Nat):Int)+1=x:=by omega
    rw [e];simpa using hx
 have:=e.length_eq;rw [List.length_map] at this;exact this
theorem zko {hs:List Int} {rs al gv:List (List Int)} {lim sp:List Int} (h0:∀ i,i < rs.length→0≤(rs.getD i []).getD 1 0) (V:Vld al gv lim sp 0) (hn:al.length=hs.length) (hm:lim.length=rs.length) (hl:∀ r,r < rs.length→lim.getD r 0=(rs.getD r []).getD 1 0)
  (hA:∀ q,q < hs.length→∀ r:Nat,r < rs.length→(r:Int)+1∈al.getD q []→zbf hs rs q r=true) (h2:∀ q,q < hs.length→(gv.getD q []).length=2):∃ rows,zaR hs rs rows=true:=by
 have lg:=V.lg;rw [zdc h0,← zi3 h0];refine Hall.room_of (B:=fun p r=>decide (p < hs.length) && decide (r < rs.length) && decide ((r:Int)+1∈gv.getD p [])) (fun p r h=>?_) (fun p hp=>?_) fun r hr=>?_
 ·simp only [Bool.and_eq_true,decide_eq_true_eq] at h;exact hA p h.1.1 r h.1.2 (V.sub p (by omega) _ h.2)
 ·rw [← h2 p hp,← zjb (m:=rs.length) (V.nd p (by omega)) fun r hr=>by have:=V.ar p (by omega) r (V.sub p (by omega) r hr);omega];apply Hall.sm_congr;intro r hr;rw [decide_eq_true hp,decide_eq_true hr];rfl
 ·have e:=V.eq r (by omega);have s0:=V.s0 r (by omega);rw [if_neg (by omega),hl r hr,zfw] at e;have:Hall.sm hs.length (fun p=>Hall.b2 (decide (p < hs.length) && decide (r < rs.length) && decide ((r:Int)+1∈gv.getD p [])))=Hall.sm gv.length (fun p=>Hall.b2 (decide ((r:Int)+1∈gv.getD p []))):=by
   rw [show gv.length=hs.length by omega];apply Hall.sm_congr;intro p hp;rw [decide_eq_true hp,decide_eq_true hr];rfl
  rw [this];unfold limN;omega
theorem zjc {hs:List Int} {rs al gv:List (List Int)} {lim sp ls:List Int} {p:Nat} (h0:∀ i,i < rs.length→0≤(rs.getD i []).getD 1 0) (V:Vld al gv lim sp 0) (hn:al.length=hs.length) (hm:lim.length=rs.length) (hl:∀ r,r < rs.length→lim.getD r 0=(rs.getD r []).getD 1 0)
  (hA:∀ q,q < hs.length→∀ r:Nat,r < rs.length→zbf hs rs q r=true→(r:Int)+1∈al.getD q []) (h2:∀ q,q < hs.length→(gv.getD q []).length≤2) (hp:p < hs.length) (hp2:(gv.getD p []).length < 2)
  (C:Cls2 al gv sp [] ls) (hc:Cov al gv ls p):∀ rows,zaR hs rs rows=false:=by
 have lg:=V.lg;have key:¬Hall.Ok hs.length rs.length (limN rs) (fun _=>2) (zbf hs rs):=by
  intro ok
  let S:Nat→Bool:=fun q=>decide (q=p) || (gv.getD q []).any fun r=>decide (r∈ls)
  have hS:∀ q,q < hs.length→S q=true→Cov al gv ls q:=fun q hq z=>by
   simp only [S,Bool.or_eq_true,decide_eq_true_eq,List.any_eq_true] at z;rcases z with z | ⟨r,h1,h2⟩
   ·subst z;exact hc
   ·exact (C.2 r h2 (by simp)).2 q (by omega) h1
  have le:=ok S;have rm:Hall.room hs.length rs.length (limN rs) (zbf hs rs) S≤Hall.sm rs.length (fun r=>Hall.sm hs.length fun q=>Hall.b2 (S q && decide ((r:Int)+1∈gv.getD q []))):=by
   unfold Hall.room;refine Hall.sm_le fun r hr=>?_
   by_cases hk:(r:Int)+1∈ls
   ·refine Nat.le_trans (Nat.min_le_left _ _) ?_;have z:=(C.2 _ hk (by simp)).1;have er:((r:Int)+1-1).toNat=r:=by omega
    rw [er] at z;have e:=V.eq r (by omega);rw [if_neg (by omega),hl r hr,zfw,z] at e;have:Hall.sm hs.length (fun q=>Hall.b2 (S q && decide ((r:Int)+1∈gv.getD q [])))=Hall.sm gv.length (fun q=>Hall.b2 (decide ((r:Int)+1∈gv.getD q []))):=by
     rw [show gv.length=hs.length by omega];apply Hall.sm_congr;intro q hq
     by_cases h:(r:Int)+1∈gv.getD q []
     ·have:S q=true:=by
       simp only [S,Bool.or_eq_true,List.any_eq_true];exact .inr ⟨_,h,decide_eq_true hk⟩
      rw [this];rfl
     ·rw [decide_eq_false h,Bool.and_false]
    rw [this];unfold limN;omega
   ·refine Nat.le_trans (Nat.min_le_right _ _) ?_;unfold Hall.deg;refine Hall.sm_le fun q hq=>?_
    cases hs1:S q with
    | false=>simp [Hall.b2]
    | true =>
      cases ha:zbf hs rs q r with
      | false=>simp [Hall.b2]
      | true =>
        have:=(hS q hq hs1 _ (hA q hq r hr ha)).resolve_left hk;rw [decide_eq_true this];exact Nat.le_refl _
  rw [Hall.sm_swap] at rm;have lt:Hall.sm hs.length (fun q=>Hall.sm rs.length fun r=>Hall.b2 (S q && decide ((r:Int)+1∈gv.getD q []))) < Hall.need hs.length (fun _=>2) S:=by
   unfold Hall.need;have each:∀ q,q < hs.length→Hall.sm rs.length (fun r=>Hall.b2 (S q && decide ((r:Int)+1∈gv.getD q [])))=if S q=true then (gv.getD q []).length else 0:=fun q hq=>by
    cases hs1:S q with
    | false =>
      rw [if_neg Bool.false_ne_true];have:Hall.sm rs.length (fun r=>Hall.b2 (false && decide ((r:Int)+1∈gv.getD q [])))=Hall.sm rs.length (fun _=>0):=Hall.sm_congr fun i _=>rfl;rw [this,Hall.sm_zero]
    | true =>
      rw [if_pos rfl];have:Hall.sm rs.length (fun r=>Hall.b2 (true && decide ((r:Int)+1∈gv.getD q [])))=Hall.sm rs.length (fun r=>Hall.b2 (decide ((r:Int)+1∈gv.getD q []))):=Hall.sm_congr fun i _=>rfl;rw [this];exact zjb (V.nd q (by omega)) fun r hr=>by have:=V.ar q (by omega) r (V.sub q (by omega) r hr);omega
   refine Hall.sm_lt (p:=p) hp (fun q hq=>?_) ?_
   ·rw [each q hq];have:=h2 q hq;split <;> omega
   ·have hsp:S p=true:=by simp [S]
    rw [each p hp,if_pos hsp,if_pos hsp];exact hp2
  omega
 intro rows;rw [Bool.eq_false_iff];intro z;exact key ((zi3 h0).mpr ((zdc h0).mp ⟨rows,z⟩))
end Prf
namespace L2
open PySem PySem.Spec PyProof.Rows
section
variable {X:Cx} {K:PySem.W.Frag} {o e value:Expr} {f:Str} {pos pos' tpos:Pos} {ta tv:TE}
theorem zaG (hK:X.K=K) (he:PE X e ta) (hb:attributeBase e f X.env (eval e X.env)=eval e X.env:=by rfl):PE X (.Attribute e f pos) (tFld K ta f):=hK▸zmt he hb
theorem zbF (hK:X.K=K) (ha:PE X o ta) (hv:PE X value tv) (hs:swapsWith value (some (.Attribute o f pos')) pos.line X.env=pure false:=by rfl):PS X (.Assign [.Attribute o f pos'] value pos) (sFld K ta tv f):=hK▸zmu ha hv hs
def zm9 (K:PySem.W.Frag):V→V→Hp→VK→Prop:=fun x y H Q=>∃ (p:Addr) (ns:List Int) (i:Int),x=.ref p∧y=.int i∧SqL K H p (ns.map V.int)∧0≤i∧i < ns.length∧Q (.int (ns.getD i.toNat 0)) H
theorem zjd (hK:X.K=K):PGet X (zm9 K):=by
 subst hK;intro pins s σ H x y v u Q I rx ry h;obtain ⟨p,ns,i,rfl,rfl,hq,h0,h1,q⟩:=h
 cases rx
 obtain ⟨t,rfl⟩:=ry;obtain ⟨its,r,pl,hz⟩:=I.list hq;have hi:i.toNat < ns.length:=by omega
 obtain ⟨w,ew,rw'⟩:=r.get (i:=i.toNat) (x:=.int (ns.getD i.toNat 0)) (by rw [List.getElem?_map,List.getElem?_eq_getElem hi,List.getD_eq_getElem?_getD,List.getElem?_eq_getElem hi];rfl);have hn:=line63;rw [List.length_map] at hz;exact getItem_listL pl.isList h0 (by omega) ew ⟨_,H,I,rw',q⟩
theorem zf7 {α β:Type} (f:α→β):∀ (l:List α) (k:Nat),(l.map f).eraseIdx k=(l.eraseIdx k).map f
 | [],_=>rfl
 | _::_,0=>rfl
 | a::l,k+1=>congrArg (f a::·) (zf7 f l k)
def rRemove:V→List V→Hp→VK→Prop:=fun x vs H Q=>∃ (l:Addr) (ns:List Int) (i:Int),x=.ref l∧vs=[.int i]∧H l=some (.lst (ns.map V.int))∧i∈ns∧Q .non (upd H l (.lst ((ns.erase i).map V.int)))
theorem erase_at:∀ {ns:List Int} {i:Int},i∈ns→∃ j,∃ hj:j < ns.length,ns[j]=i∧(∀ m (hm:m < ns.length),m < j→ns[m]≠i)∧ns.erase i=ns.eraseIdx j
 | n::ns,i,h=>by
   by_cases e:n=i
   ·subst e;exact ⟨0,by simp,rfl,fun m _ h=>absurd h (by omega),by simp⟩
   ·have h':i∈ns:=by
     rcases List.mem_cons.mp h with z | z
     ·exact absurd z.symm e
     ·exact z
    obtain ⟨j,hj,h1,h2,h3⟩:=erase_at h';refine ⟨j+1,by simp;exact hj,h1,fun m hm hlt=>?_,?_⟩
    ·cases m with
     | zero=>exact e
     | succ m=>exact h2 m (by simpa using hm) (by omega)
    ·rw [List.erase_cons_tail (by simpa using e),h3];rfl
theorem vals_int_at:∀ {ns:List Int} {its:List Value},Vals (ns.map V.int) its→∀ (m:Nat) (h1:m < ns.length) (h2:m < its.length),∃ t,its[m]=.int ns[m] t:=fun {ns its} r m h1 h2=>by
 obtain ⟨u,hu,t,rfl⟩:=r.get (i:=m) (x:=.int ns[m]) (by simp [h1]);rw [List.getElem?_eq_getElem h2] at hu;exact ⟨t,Option.some.inj hu⟩
theorem vals_erase:∀ {xs:List V} {us:List Value} (k:Nat),Vals xs us→Vals (xs.eraseIdx k) (us.eraseIdx k)
 | _,_,_,.nil=>.nil
 | _,_,0,.cons _ t=>t
 | _,_,k+1,.cons r t=>.cons r (vals_erase k t)
theorem mt_remove:MtM X "list.remove" rRemove:=by
 intro pins s σ H x vs v us Q I rx rv h;obtain ⟨l,ns,i,rfl,rfl,hH,hi,q⟩:=h
 cases rx
 obtain ⟨u,rfl,t,rfl⟩:=rv.one;obtain ⟨z,its,n,r,hl,e⟩:=I.lstM hH;rw [List.length_map] at hl z;obtain ⟨j,hj,e1,e2,e3⟩:=erase_at hi;have at_:∀ (m:Nat) (h:m < its.length),∃ t,its[m]=.int (ns[m]'(by omega)) t:=fun m h=>vals_int_at r m (by omega) h;refine call_meets F.slot_list_remove ⟨_,e,rfl⟩ F.entry_list_remove (F.args_list_remove_2 _ _)
  (MeetsSeq.list_remove l its.toArray n (.int i t) (fun y=>match y with | .int a _=>a == i | _=>false) (fun y hy=>?_) j (by simpa using (show j < its.length by omega)) ?_ (fun m hm hlt=>?_) (by rw [List.size_toArray];omega)) ⟨e,?_⟩
 ·obtain ⟨m,hm,rfl⟩:=List.getElem_of_mem (by simpa using hy:y∈its);obtain ⟨t',et⟩:=at_ m hm;rw [et];exact MeetsSeq.EqGives.int _ _ _ _
 ·obtain ⟨t',et⟩:=at_ j (by omega);rw [List.getElem_toArray,et];simpa using e1
 ·have hm':m < its.length:=by simpa using hm
  obtain ⟨t',et⟩:=at_ m hm';rw [List.getElem_toArray,et];simpa using e2 m (by omega) hlt
 ·refine ⟨.non,_,I.lset (its':=its.eraseIdx j) (ys:=(ns.erase i).map V.int) hH e ?_ ?_ ?_,rfl,q⟩
  ·show its.toArray.eraseIdxIfInBounds j=(its.eraseIdx j).toArray;rw [List.eraseIdxIfInBounds_toArray]
  ·rw [e3,← zf7];exact vals_erase j r
  ·rw [List.length_map];have:=List.length_erase_le (a:=i) (l:=ns);omega
end
section
variable {σ:St} {H:Hp} {Q:VK} {D:Ends} {K:PySem.W.Frag} {ta tv to ti te tb:TE} {f m:Str} {tl:TA} {C a p x:Addr} {nx bk ct:St→Hp→Prop} {rt:VK} {sp:Sp} {E:XK} {fs:List (Str×V)} {dx:Addr} {v:V} {i:Int} {xs:List V} {ns:List Int}
def zje (K:PySem.W.Frag) (f:Str) (x:V) (H1:Hp) (Q:VK):Prop:=∃ a C dx fs v,x=.ref a∧H1 a=some (.ins C dx fs)∧Cls K C∧zbw K C f∧fs.lookup f=some v∧Q v H1
theorem zod (h:ta σ H fun x H1=>zje K f x H1 Q):tFld K ta f σ H Q:=h
theorem zkp (h:H a=some (.ins C dx fs)) (c:Cls K C) (n:zbw K C f) (l:fs.lookup f=some v) (q:Q v H):zje K f (.ref a) H Q:=⟨a,C,dx,fs,v,rfl,h,c,n,l,q⟩
def zhm (K:PySem.W.Frag) (f:Str) (y x:V) (H2:Hp) (N:Hp→Prop):Prop:=∃ a C dx fs,x=.ref a∧H2 a=some (.ins C dx fs)∧Cls K C∧zbw K C f∧fs.length < 1000∧N (upd H2 a (.ins C dx (putF f y fs)))
theorem zna (h:tv σ H fun y H1=>ta σ H1 fun x H2=>zhm K f y x H2 fun H3=>nx σ H3):sFld K ta tv f ⟨nx,rt,bk,ct⟩ σ H:=h
theorem za6 {y:V} {N:Hp→Prop} (h:H a=some (.ins C dx fs)) (c:Cls K C) (n:zbw K C f) (l:fs.length < 1000) (q:∀ H2,But a H H2→H2 a=some (.ins C dx (putF f y fs))→N H2):zhm K f y (.ref a) H N:=⟨a,C,dx,fs,rfl,h,c,n,l,q _ But.upd zar⟩
def zbI (C:Addr) (m:Str) (sp:Sp) (E:XK) (t:TA) (σ:St) (x:V) (H1:Hp) (Q:VK):Prop:=∃ a dx fs,x=.ref a∧H1 a=some (.ins C dx fs)∧fs.lookup m=none∧t σ H1 fun vs H2=>sp (x::(vs++[])) H2 Q E
theorem znb (h:ta σ H fun x H1=>zbI C m sp E tl σ x H1 Q):zlm C m sp [] E ta tl σ H Q:=h
theorem za0 (h:H a=some (.ins C dx fs)) (l:fs.lookup m=none) (q:tl σ H fun vs H2=>sp (.ref a::(vs++[])) H2 Q E):zbI C m sp E tl σ (.ref a) H Q:=⟨a,dx,fs,rfl,h,l,q⟩
def zhn (C:Addr) (sp:Sp) (E:XK) (vs:List V) (H1:Hp) (Q:VK):Prop:=∀ x dx,H1 x=none→H1 dx=none→dx≠x→sp (.ref x::(vs++[])) (upd (upd H1 dx (.own x)) x (.ins C dx [])) (fun v H2=>v=.non∧Q (.ref x) H2) E
theorem znc (h:tl σ H fun vs H1=>zhn C sp E vs H1 Q):zln C sp [] E tl σ H Q:=h
theorem zf8 {vs:List V} (h:∀ x dx H2,H x=none→H dx=none→dx≠x→Same H H2→H2 x=some (.ins C dx [])→sp (.ref x::(vs++[])) H2 (fun v H3=>v=.non∧Q (.ref x) H3) E):zhn C sp E vs H Q :=
 fun x dx hx hd ne=>h x dx _ hx hd ne (fun b u z=>by rw [zaJ (zag z hx),zaJ (zag z hd)];exact z) zar
theorem znd {tget:V→V→Hp→VK→Prop} {tip:TIp} {tset:TSet} (h:to σ H fun o H1=>ti σ H1 fun i H2=>tget o i H2 fun x H3=>te σ H3 fun y H4=>tip x y H4 fun z H5=>tset o i z H5 fun H6=>nx σ H6):zmp to ti te tget tip tset ⟨nx,rt,bk,ct⟩ σ H:=h
theorem zne (h:SqL K H p (ns.map V.int)) (h0:0≤i) (h1:i < ns.length) (q:Q (.int (ns.getD i.toNat 0)) H):zm9 K (.ref p) (.int i) H Q:=⟨p,ns,i,rfl,rfl,h,h0,h1,q⟩
theorem zoe {g:Int→Int→Int} {j:Int} (q:Q (.int (g i j)) H):ipI g (.int i) (.int j) H Q:=⟨i,j,rfl,rfl,q⟩
theorem zgJ (h:H p=some (.lst (ns.map V.int))) (hi:i∈ns) (q:∀ H2,But p H H2→H2 p=some (.lst ((ns.erase i).map V.int))→Q .non H2):rRemove (.ref p) [.int i] H Q:=⟨p,ns,i,rfl,rfl,h,hi,q _ But.upd zar⟩
def kvT (ks:List Int):List (Key×V):=ks.map fun k=>(Sum.inl k,.bl true)
theorem zho (ks:List Int) (k:Int):(valV (kvT ks) (Sum.inl k:Key)).isSome=decide (k∈ks):=by
 induction ks with
 | nil=>rfl
 | cons y ys ih =>
   show (valV (((Sum.inl y:Key),V.bl true)::kvT ys) (Sum.inl k:Key)).isSome=_
   by_cases e:y=k
   ·subst e;rw [zd9 rfl];simp
   ·rw [zea (fun z=>e (Sum.inl.inj z)),ih,decide_eq_decide];simp [Ne.symm e]
theorem zkq {ks:List Int} {k:Int} (h:k∉ks):putK (kvT ks) (Sum.inl k:Key) (.bl true)=kvT (ks++[k]):=by
 have:valV (kvT ks) (Sum.inl k:Key)=none:=by
  have:=zho ks k;rw [decide_eq_false h] at this
  cases e:valV (kvT ks) (Sum.inl k:Key) with
  | none=>rfl
  | some v=>rw [e] at this;cases this
 rw [zj5 _ this];unfold kvT;rw [List.map_append];rfl
def zjf (y x:V) (H2:Hp) (Q:VK):Prop:=∃ a o,x=.ref a∧DGet H2 a y o∧Q (.bl o.isSome) H2
theorem zof (h:ta σ H fun y H1=>tb σ H1 fun x H2=>zjf y x H2 Q):tDIn ta tb σ H Q:=h
theorem zkr {ks:List Int} (h:H a=some (.dK (kvT ks))) (q:Q (.bl (decide (i∈ks))) H):zjf (.int i) (.ref a) H Q :=
 ⟨a,_,rfl,DGet.k (k:=(Sum.inl i:Key)) h,by rw [zho];exact q⟩
def zhp (v x y:V) (H3:Hp) (N:Hp→Prop):Prop:=∃ a H4,x=.ref a∧DPut H3 a y v H4∧N H4
theorem znf (h:tv σ H fun v H1=>ta σ H1 fun x H2=>tb σ H2 fun y H3=>zhp v x y H3 fun H4=>nx σ H4):zmA ta tb tv ⟨nx,rt,bk,ct⟩ σ H:=h
theorem zjg {ks:List Int} {N:Hp→Prop} (h:H a=some (.dK (kvT ks))) (hz:ks.length≤1000) (hn:i∉ks) (q:∀ H2,But a H H2→H2 a=some (.dK (kvT (ks++[i])))→N H2):zhp (.bl true) (.ref a) (.int i) H N:=by
 refine ⟨a,_,rfl,DPut.k (k:=(Sum.inl i:Key)) h (by unfold kvT;rw [List.length_map];exact zaK hz),q _ But.upd ?_⟩;rw [zar,zkq hn]
theorem zf9 (h:∀ p H2,H p=none→Same H H2→H2 p=some (.dK (kvT []))→Q (.ref p) H2):tDNewK σ H Q:=fun p hp=>h p _ hp (zaH hp) zar
end
end L2
namespace Prf
open PySem PySem.Spec PyProof.Rows L2
def prsB:List Int→List (List Int)
 | []=>[]
 | x::xs=>(xs.map fun y=>[x,y])++prsB xs
def zks (a b:List Int):Prop:=a.getD 0 0 < b.getD 0 0∨a.getD 0 0=b.getD 0 0∧a.getD 1 0≤b.getD 1 0
theorem prs_mem:∀ {ns:List Int} {r:List Int},ns.Pairwise (· < ·)→(r∈prsB ns↔∃ x y,r=[x,y]∧x∈ns∧y∈ns∧x < y)
 | [],r,_=>by simp [prsB]
 | n::ns,r,h=>by
   obtain ⟨h1,h2⟩:=List.pairwise_cons.mp h;unfold prsB;rw [List.mem_append,prs_mem h2,List.mem_map];constructor
   ·rintro (⟨y,hy,rfl⟩ | ⟨x,y,rfl,hx,hy,hlt⟩)
    ·exact ⟨n,y,rfl,by simp,by simp [hy],h1 y hy⟩
    ·exact ⟨x,y,rfl,by simp [hx],by simp [hy],hlt⟩
   ·rintro ⟨x,y,rfl,hx,hy,hlt⟩;rcases List.mem_cons.mp hx with rfl | hx'
    ·rcases List.mem_cons.mp hy with rfl | hy'
     ·omega
     ·exact .inl ⟨y,hy',rfl⟩
    ·rcases List.mem_cons.mp hy with rfl | hy'
     ·have:=h1 x hx';omega
     ·exact .inr ⟨x,y,rfl,hx',hy',hlt⟩
theorem prs_ord:∀ {ns:List Int},ns.Pairwise (· < ·)→(prsB ns).Pairwise zks
 | [],_=>List.Pairwise.nil
 | n::ns,h=>by
   obtain ⟨h1,h2⟩:=List.pairwise_cons.mp h;unfold prsB;refine List.pairwise_append.mpr ⟨?_,prs_ord h2,fun a ha b hb=>?_⟩
   ·rw [List.pairwise_map];exact h2.imp fun h=>.inr ⟨rfl,Int.le_of_lt h⟩
   ·obtain ⟨y,hy,rfl⟩:=List.mem_map.mp ha;obtain ⟨x,z,rfl,hx,_,_⟩:=(prs_mem h2).mp hb;exact .inl (h1 x hx)
theorem zkt {ns:List Int} {i:Nat} (h:i < ns.length):prsB (ns.drop i)=((ns.drop (i+1)).map fun y=>[ns.getD i 0,y])++prsB (ns.drop (i+1)):=by
 rw [List.drop_eq_getElem_cons h,List.getD_eq_getElem?_getD,List.getElem?_eq_getElem h];rfl
theorem prs_len:∀ (ns:List Int),(prsB ns).length≤ns.length * ns.length
 | []=>Nat.le_refl _
 | n::ns=>by
   unfold prsB;rw [List.length_append,List.length_map,List.length_cons,Nat.add_mul,Nat.mul_add];have:=prs_len ns;omega
theorem cnt_append (a b:List (List Int)) (x:Int):cntB (a++b) x=cntB a x+cntB b x:=by
 unfold cntB;rw [List.filter_append,List.length_append]
def zga (rs:List (List Int)) (ls:List Int):List (List Int):=(List.range rs.length).map fun i=>[(rs.getD i []).getD 0 0,ls.getD i 0]
theorem zcp (rs:List (List Int)) (ls:List Int):(zga rs ls).length=rs.length:=by unfold zga;rw [List.length_map,List.length_range]
theorem zcO {rs:List (List Int)} {ls:List Int} {i:Nat} (h:i < rs.length):(zga rs ls).getD i []=[(rs.getD i []).getD 0 0,ls.getD i 0]:=zaz h
theorem zfz {rs rows:List (List Int)} {i:Nat} (h:i < rs.length):(zbc rs rows).getD i 0=(rs.getD i []).getD 1 0-(cntB rows ((i:Int)+1):Int):=zaz h
theorem zgb {rs:List (List Int)} {ls:List Int} {h:Int} {row:List Int}:zcj (zga rs ls) h row=true↔zcj rs h row=true:=by
 rw [zbW,zbW,zcp];constructor
 ·rintro ⟨h1,h2,h3,h4,h5,h6⟩;rw [zcO (by omega)] at h5 h6;exact ⟨h1,h2,h3,h4,h5,h6⟩
 ·rintro ⟨h1,h2,h3,h4,h5,h6⟩;refine ⟨h1,h2,h3,h4,?_,?_⟩
  ·rw [zcO (by omega)];exact h5
  ·rw [zcO (by omega)];exact h6
def zcf (hs:List Int) (rs rows:List (List Int)):Prop:=rows.length≤hs.length∧∀ k,k < rows.length→zcj rs (hs.getD k 0) (rows.getD k [])=true
def Ext (hs:List Int) (rs rows:List (List Int)):Prop:=∃ more,zaR hs rs (rows++more)=true
theorem zbh {hs:List Int} {rs rows:List (List Int)}:zaR hs rs rows=true↔rows.length=hs.length∧(∀ k,k < hs.length→zcj rs (hs.getD k 0) (rows.getD k [])=true)∧∀ k,k < rs.length→(cntB rows ((k:Int)+1):Int)≤(rs.getD k []).getD 1 0:=by
 unfold zaR;simp only [Bool.and_eq_true,decide_eq_true_eq,List.all_eq_true,List.mem_range];have e0:∀ k:Nat,(0:Int)+(k:Int)+1=(k:Int)+1:=fun k=>by omega
 constructor
 ·rintro ⟨⟨h1,h2⟩,h3⟩;exact ⟨h1,h2,fun k hk=>by have:=h3 k hk;rwa [e0] at this⟩
 ·rintro ⟨h1,h2,h3⟩;exact ⟨⟨h1,h2⟩,fun k hk=>by rw [e0];exact h3 k hk⟩
theorem zcq {α:Type} {xs ys:List α} {d:α} {i:Nat} (h:xs.length≤i):(xs++ys).getD i d=ys.getD (i-xs.length) d:=by
 rw [List.getD_eq_getElem?_getD,List.getD_eq_getElem?_getD,List.getElem?_append_right h]
theorem zeu {α:Type} {xs:List α} {d:α} {i k:Nat}:(xs.drop k).getD i d=xs.getD (k+i) d:=by
 rw [List.getD_eq_getElem?_getD,List.getD_eq_getElem?_getD,List.getElem?_drop]
theorem zng {hs:List Int} {rs rows:List (List Int)} (P:zcf hs rs rows):Ext hs rs rows↔(∀ k,k < rs.length→(cntB rows ((k:Int)+1):Int)≤(rs.getD k []).getD 1 0)∧∃ more,zaR (hs.drop rows.length) (zga rs (zbc rs rows)) more=true:=by
 obtain ⟨pl,pp⟩:=P;constructor
 ·rintro ⟨more,h⟩;obtain ⟨h1,h2,h3⟩:=zbh.mp h;rw [List.length_append] at h1;refine ⟨fun k hk=>?_,more,zbh.mpr ⟨by rw [List.length_drop];omega,fun k hk=>?_,fun k hk=>?_⟩⟩
  ·have:=h3 k hk;rw [cnt_append] at this;omega
  ·rw [List.length_drop] at hk;have:=h2 (rows.length+k) (by omega);rw [zcq (by omega),Nat.add_sub_cancel_left] at this;rw [zeu];exact zgb.mpr this
  ·rw [zcp] at hk;have:=h3 k hk;rw [cnt_append] at this;rw [zcO hk,zfz hk];show (cntB more ((k:Int)+1):Int)≤(rs.getD k []).getD 1 0-(cntB rows ((k:Int)+1):Int);omega
 ·rintro ⟨h0,more,h⟩;obtain ⟨h1,h2,h3⟩:=zbh.mp h;rw [List.length_drop] at h1 h2;refine ⟨more,zbh.mpr ⟨by rw [List.length_append];omega,fun k hk=>?_,fun k hk=>?_⟩⟩
  ·by_cases e:k < rows.length
   ·rw [zas e];exact pp k e
   ·rw [zcq (by omega)];have:=h2 (k-rows.length) (by omega);rw [zeu] at this;have e2:rows.length+(k-rows.length)=k:=by omega
    rw [e2] at this;exact zgb.mp this
  ·have:=h3 k (by rw [zcp];exact hk);rw [zcO hk,zfz hk] at this;have t2:(cntB more ((k:Int)+1):Int)≤(rs.getD k []).getD 1 0-(cntB rows ((k:Int)+1):Int):=this;rw [cnt_append];omega
theorem znh {hs:List Int} {rs rows:List (List Int)} (B:InB hs rs) (h0:∀ k,k < rs.length→(cntB rows ((k:Int)+1):Int)≤(rs.getD k []).getD 1 0) (n:Nat):InB (hs.drop n) (zga rs (zbc rs rows)):=by
 have lp:=B.lp;have lr:=B.lr;refine ⟨by rw [List.length_drop];omega,by rw [zcp];exact lr,fun i hi=>?_,fun i hi=>?_,fun i hi=>?_,fun i hi=>?_⟩
 ·rw [List.length_drop] at hi;rw [zeu];exact B.hh _ (by omega)
 ·rw [zcp] at hi;rw [zcO hi];rfl
 ·rw [zcp] at hi;rw [zcO hi];exact B.rh i hi
 ·rw [zcp] at hi;have:=h0 i hi;have:=B.rl i hi;rw [zcO hi,zfz hi];show 0≤(rs.getD i []).getD 1 0-(cntB rows ((i:Int)+1):Int)∧(rs.getD i []).getD 1 0-(cntB rows ((i:Int)+1):Int)≤30;omega
theorem zhq {row:List Int}:∀ {t full:List (List Int)},nbB t full=true→((∀ j,j < t.length→(t.getD j []).getD 0 0=(full.getD j []).getD 0 0∧(t.getD j []).getD 1 0=(full.getD j []).getD 1 0)→t.length < full.length→zks row (full.getD t.length []))→nbB (t++[row]) full=true
 | [],[],_,_=>rfl
 | [],f::fs,_,h=>by
   have h1:=h (fun j hj=>absurd hj (by simp)) (by simp);have h2:zks row f:=h1;show (if row.getD 0 0=f.getD 0 0 then (if row.getD 1 0=f.getD 1 0 then nbB [] fs else decide (row.getD 1 0 < f.getD 1 0)) else decide (row.getD 0 0 < f.getD 0 0))=true;unfold zks at h2
   by_cases e:row.getD 0 0=f.getD 0 0
   ·rw [if_pos e]
    by_cases e2:row.getD 1 0=f.getD 1 0
    ·rw [if_pos e2];rfl
    ·rw [if_neg e2];exact decide_eq_true (by omega)
   ·rw [if_neg e];exact decide_eq_true (by omega)
 | t::ts,[],_,_=>rfl
 | t::ts,f::fs,hn,h=>by
   have hn':(if t.getD 0 0=f.getD 0 0 then (if t.getD 1 0=f.getD 1 0 then nbB ts fs else decide (t.getD 1 0 < f.getD 1 0)) else decide (t.getD 0 0 < f.getD 0 0))=true:=hn;show (if t.getD 0 0=f.getD 0 0 then (if t.getD 1 0=f.getD 1 0 then nbB (ts++[row]) fs else decide (t.getD 1 0 < f.getD 1 0)) else decide (t.getD 0 0 < f.getD 0 0))=true
   by_cases e:t.getD 0 0=f.getD 0 0
   ·rw [if_pos e] at hn' ⊢
    by_cases e2:t.getD 1 0=f.getD 1 0
    ·rw [if_pos e2] at hn' ⊢;refine zhq hn' fun hj hl=>?_;refine h (fun j hj'=>?_) (by simpa using hl)
     cases j with
     | zero=>exact ⟨e,e2⟩
     | succ j=>exact hj j (by simpa using hj')
    ·rw [if_neg e2] at hn' ⊢;exact hn'
   ·rw [if_neg e] at hn' ⊢;exact hn'
theorem zni {a b:List Int} (ha:a.length=2) (hb:b.length=2) (h0:a.getD 0 0=b.getD 0 0) (h1:a.getD 1 0=b.getD 1 0):a=b:=by
 rw [len2 ha,len2 hb,h0,h1]
end Prf
namespace L2
open PySem PySem.Spec PyProof.Rows
section
variable {σ:St} {H:Hp} {Q:VK} {K:PySem.W.Frag} {ta tb:TE} {a:Addr} {i:Int} {v:V}
def zhr (y x:V) (H2:Hp) (Q:VK):Prop:=∃ a o,x=.ref a∧DGet H2 a y o∧Q (.bl (!o.isSome)) H2
theorem znj (h:ta σ H fun y H1=>tb σ H1 fun x H2=>zhr y x H2 Q):ziK ta tb σ H Q:=h
theorem zjh {kvs:List (Key×V)} (h:H a=some (.dK kvs)) (q:Q (.bl (!(valV kvs (Sum.inl i:Key)).isSome)) H):zhr (.int i) (.ref a) H Q:=⟨a,_,rfl,DGet.k (k:=Sum.inl i) h,q⟩
end
end L2
namespace Prf
open PySem PySem.Spec PyProof.Rows L2
structure ExS where
 hs:List Int
 rs:List (List Int)
 step:Int
 dl:Option (List (List Int)×List (List Int))
def ExS.nm (s:ExS):List (List Int):=(s.dl.map (·.1)).getD []
def ExS.en (s:ExS):List (List Int):=(s.dl.map (·.2)).getD []
def zdn (en:List (List Int)) (k:Nat) (r:Int):Option Int:=((en.filter fun e=>decide (e.getD 0 0=(k:Int)+1) && decide (e.getD 1 0=r)).getLast?).map fun e=>e.getD 2 0
theorem znk (k:Nat) (r:Int):zdn [] k r=none:=rfl
def exFs (va vb vs vd vc ve:V):List (Str×V):=[("paper_houses",va),("reader_rows",vb),("widest_step",vs),("is_dealt",vd),("named_readers",vc),("entered_points",ve)]
section
variable {va vb vs vd vc ve v:V}
theorem exFs_mk:putF "entered_points" ve (putF "named_readers" vc (putF "is_dealt" vd (putF "widest_step" vs (putF "reader_rows" vb (putF "paper_houses" va [])))))=exFs va vb vs vd vc ve:=by
 unfold exFs
 repeat (first | rw [if_neg (by decide +kernel)] | simp only [putF])
theorem exFs_a:(exFs va vb vs vd vc ve).lookup ("paper_houses" : Str)=some va:=by rw [← exFs_mk];simp only [zaA];repeat (first | rw [if_pos trivial] | rw [if_pos rfl] | rw [if_neg (by decide +kernel)])
theorem exFs_b:(exFs va vb vs vd vc ve).lookup ("reader_rows" : Str)=some vb:=by rw [← exFs_mk];simp only [zaA];repeat (first | rw [if_pos trivial] | rw [if_pos rfl] | rw [if_neg (by decide +kernel)])
theorem exFs_s:(exFs va vb vs vd vc ve).lookup ("widest_step" : Str)=some vs:=by rw [← exFs_mk];simp only [zaA];repeat (first | rw [if_pos trivial] | rw [if_pos rfl] | rw [if_neg (by decide +kernel)])
theorem exFs_d:(exFs va vb vs vd vc ve).lookup ("is_dealt" : Str)=some vd:=by rw [← exFs_mk];simp only [zaA];repeat (first | rw [if_pos trivial] | rw [if_pos rfl] | rw [if_neg (by decide +kernel)])
theorem exFs_c:(exFs va vb vs vd vc ve).lookup ("named_readers" : Str)=some vc:=by rw [← exFs_mk];simp only [zaA];repeat (first | rw [if_pos trivial] | rw [if_pos rfl] | rw [if_neg (by decide +kernel)])
theorem exFs_e:(exFs va vb vs vd vc ve).lookup ("entered_points" : Str)=some ve:=by rw [← exFs_mk];simp only [zaA];repeat (first | rw [if_pos trivial] | rw [if_pos rfl] | rw [if_neg (by decide +kernel)])
theorem exFs_ps:putF "widest_step" v (exFs va vb vs vd vc ve)=exFs va vb v vd vc ve:=by
 unfold exFs;simp only [putF];repeat (first | rw [if_pos trivial] | rw [if_pos rfl] | rw [if_neg (by decide +kernel)])
theorem exFs_pd:putF "is_dealt" v (exFs va vb vs vd vc ve)=exFs va vb vs v vc ve:=by
 unfold exFs;simp only [putF];repeat (first | rw [if_pos trivial] | rw [if_pos rfl] | rw [if_neg (by decide +kernel)])
theorem exFs_pc:putF "named_readers" v (exFs va vb vs vd vc ve)=exFs va vb vs vd v ve:=by
 unfold exFs;simp only [putF];repeat (first | rw [if_pos trivial] | rw [if_pos rfl] | rw [if_neg (by decide +kernel)])
theorem exFs_pe:putF "entered_points" v (exFs va vb vs vd vc ve)=exFs va vb vs vd vc v:=by
 unfold exFs;simp only [putF];repeat (first | rw [if_pos trivial] | rw [if_pos rfl] | rw [if_neg (by decide +kernel)])
end
def exFields:List Str:=["paper_houses","reader_rows","widest_step","is_dealt","named_readers","entered_points"]
theorem zlV {va vb vs vd vc ve:V} {m:Str} (h:m∉exFields):(exFs va vb vs vd vc ve).lookup m=none:=by
 have hn:∀ f∈exFields,¬m=f:=fun f hf z=>h (z▸hf);rw [← exFs_mk];simp only [zaA];rw [if_neg (hn _ (by decide +kernel)),if_neg (hn _ (by decide +kernel)),if_neg (hn _ (by decide +kernel)),if_neg (hn _ (by decide +kernel)),if_neg (hn _ (by decide +kernel)),if_neg (hn _ (by decide +kernel))];rfl
def zgK (n:Nat) (en:List (List Int)) (k:Nat) (row:List Int):Prop:=∃ f s:Int,1≤f∧f < s∧s≤n∧(row=[f,s]∨∃ t:Int,row=[f,s,t]∧1≤t∧t≤n∧t≠f∧t≠s∧(zdn en k f).isSome=true∧(zdn en k s).isSome=true)
structure Wf (st:ExS):Prop where
 ln:st.dl.isSome=true→st.nm.length=st.hs.length
 row:∀ k,k < st.nm.length→zgK st.rs.length st.en k (st.nm.getD k [])
 pts:∀ k r p,zdn st.en k r=some p→0≤p∧p≤100
 stp:0≤st.step∧st.step≤100
structure ExAd where
 x:Addr
 dx:Addr
 a:Addr
 b:Addr
 c:Addr
 d:Addr
 ps:List Addr
 qs:List Addr
 ds:List Addr
def ExAd.own (e:ExAd):List Addr:=e.x::e.a::e.b::e.c::e.d::(e.ps++(e.qs++e.ds))
structure ExIn (C:Addr) (H:Hp) (e:ExAd) (st:ExS) (kvs:List (List (Key×V))):Prop where
 ob:H e.x=some (.ins C e.dx (exFs (.ref e.a) (.ref e.b) (.int st.step) (.bl st.dl.isSome) (.ref e.c) (.ref e.d)))
 ha:H e.a=some (.lst (st.hs.map V.int))
 hb:H e.b=some (.lst (e.ps.map V.ref))
 hc:H e.c=some (.lst (e.qs.map V.ref))
 hd:H e.d=some (.lst (e.ds.map V.ref))
 lp:e.ps.length=st.rs.length
 lq:e.qs.length=st.nm.length
 ld:e.ds.length=st.nm.length
 rp:∀ i,i < st.rs.length→H (e.ps.getD i 0)=some (.lst ((st.rs.getD i []).map V.int))
 rq:∀ i,i < st.nm.length→H (e.qs.getD i 0)=some (.lst ((st.nm.getD i []).map V.int))
 rd:∀ i,i < st.nm.length→H (e.ds.getD i 0)=some (.dK (kvs.getD i []))
 vk:∀ i,i < st.nm.length→∀ r:Int,valV (kvs.getD i []) (Sum.inl r:Key)=(zdn st.en i r).map V.int
 sk:∀ i,i < st.nm.length→(kvs.getD i []).length≤st.en.length
 lk:kvs.length=st.nm.length
 nd:e.own.Nodup
 wf:Wf st
def ExAt (C:Addr) (H:Hp) (x:Addr) (F:Addr→Prop) (st:ExS):Prop:=∃ e kvs,e.x=x∧(∀ b,F b↔b∈e.own)∧ExIn C H e st kvs
theorem zgL {ps:List Addr} {i:Nat} (h:i < ps.length):ps.getD i 0∈ps:=by
 rw [List.getD_eq_getElem?_getD,List.getElem?_eq_getElem h];exact List.getElem_mem h
section
variable {C x:Addr} {H H':Hp} {e:ExAd} {st:ExS} {kvs:List (List (Key×V))} {F:Addr→Prop}
theorem own_x:e.x∈e.own:=List.mem_cons_self
theorem own_a:e.a∈e.own:=List.mem_cons_of_mem _ List.mem_cons_self
theorem own_b:e.b∈e.own:=List.mem_cons_of_mem _ (List.mem_cons_of_mem _ List.mem_cons_self)
theorem own_c:e.c∈e.own:=List.mem_cons_of_mem _ (List.mem_cons_of_mem _ (List.mem_cons_of_mem _ List.mem_cons_self))
theorem own_d:e.d∈e.own:=List.mem_cons_of_mem _ (List.mem_cons_of_mem _ (List.mem_cons_of_mem _ (List.mem_cons_of_mem _ List.mem_cons_self)))
theorem zlW {b:Addr} (h:b∈e.ps++(e.qs++e.ds)):b∈e.own:=List.mem_cons_of_mem _ (List.mem_cons_of_mem _ (List.mem_cons_of_mem _ (List.mem_cons_of_mem _ (List.mem_cons_of_mem _ h))))
theorem zku {b:Addr} (h:b∈e.ps):b∈e.own:=zlW (List.mem_append_left _ h)
theorem zlX {b:Addr} (h:b∈e.qs):b∈e.own:=zlW (List.mem_append_right _ (List.mem_append_left _ h))
theorem zji {b:Addr} (h:b∈e.ds):b∈e.own:=zlW (List.mem_append_right _ (List.mem_append_right _ h))
theorem ExIn.keep (E:ExIn C H e st kvs) (k:∀ b o,b∈e.own→H b=some o→H' b=some o):ExIn C H' e st kvs :=
 ⟨k _ _ own_x E.ob,k _ _ own_a E.ha,k _ _ own_b E.hb,k _ _ own_c E.hc,k _ _ own_d E.hd,E.lp,E.lq,E.ld,fun i hi=>k _ _ (zku (zgL (by rw [E.lp];exact hi))) (E.rp i hi),fun i hi=>k _ _ (zlX (zgL (by rw [E.lq];exact hi))) (E.rq i hi),fun i hi=>k _ _ (zji (zgL (by rw [E.ld];exact hi))) (E.rd i hi),E.vk,E.sk,E.lk,E.nd,E.wf⟩
theorem ExIn.mem (E:ExIn C H e st kvs) {b:Addr} (h:b∈e.own):∃ o,H b=some o:=by
 unfold ExAd.own at h;simp only [List.mem_cons,List.mem_append] at h;rcases h with h | h | h | h | h | h | h | h
 ·exact ⟨_,h▸E.ob⟩
 ·exact ⟨_,h▸E.ha⟩
 ·exact ⟨_,h▸E.hb⟩
 ·exact ⟨_,h▸E.hc⟩
 ·exact ⟨_,h▸E.hd⟩
 ·obtain ⟨i,hi,ei⟩:=L2.mem_getD (d:=0) h;exact ⟨_,ei▸E.rp i (by have:=E.lp;omega)⟩
 ·obtain ⟨i,hi,ei⟩:=L2.mem_getD (d:=0) h;exact ⟨_,ei▸E.rq i (by have:=E.lq;omega)⟩
 ·obtain ⟨i,hi,ei⟩:=L2.mem_getD (d:=0) h;exact ⟨_,ei▸E.rd i (by have:=E.ld;omega)⟩
theorem ExAt.keep (E:ExAt C H x F st) (k:∀ b o,F b→H b=some o→H' b=some o):ExAt C H' x F st:=by
 obtain ⟨e,kvs,hx,hF,I⟩:=E;exact ⟨e,kvs,hx,hF,I.keep fun b o hb eb=>k b o ((hF b).mpr hb) eb⟩
theorem ExAt.mem (E:ExAt C H x F st) {b:Addr} (h:F b):∃ o,H b=some o:=by
 obtain ⟨e,kvs,hx,hF,I⟩:=E;exact I.mem ((hF b).mp h)
def exMeths:List Str:=["bring_paper","bring_reader","set_step","deal","enter","papers","readers","step","dealt","dealing","against","due","marks","left","refuse_behind_dealing","refuse_ahead_of_dealing","refuse_not_due","due_readers","points_for","mark_for","name_third","needs_third"]
theorem zhW {m:Str} (h:m∈exMeths):m∉exFields:=by
 revert m
 have:exMeths.all (fun m=>!exFields.contains m)=true:=by decide +kernel
 intro m h z;have:=List.all_eq_true.mp this m h;simp only [Bool.not_eq_true',← Bool.not_eq_true,List.contains_iff_mem] at this;exact this z
theorem ExAt.ob (E:ExAt C H x F st):∃ dx fs,H x=some (.ins C dx fs)∧∀ m∈exMeths,fs.lookup m=none:=by
 obtain ⟨e,kvs,rfl,hF,I⟩:=E;exact ⟨_,_,I.ob,fun m hm=>zlV (zhW hm)⟩
end
structure ExFr (H H':Hp) (F F':Addr→Prop):Prop where
 kp:∀ b o,H b=some o→¬F b→H' b=some o
 fp:∀ b,F' b→F b∨H b=none
section
variable {C x:Addr} {H H':Hp} {e:ExAd} {st:ExS} {kvs:List (List (Key×V))} {F F':Addr→Prop}
theorem ExFr.but {p:Addr} (b:But p H H') (hp:F p) (fp:∀ b,F' b→F b∨H b=none):ExFr H H' F F':=⟨fun c o e n=>by rw [b c (fun z=>n (z▸hp))];exact e,fp⟩
theorem ExAt.same (E:ExAt C H x F st) (s:Same H H'):ExAt C H' x F st:=E.keep fun b o _ e=>s b o e
theorem ExAt.new (E:ExAt C H x F st) {b:Addr} (h:H b=none):¬F b:=fun z=>by obtain ⟨o,e⟩:=E.mem z;rw [h] at e;cases e
theorem ExIn.new (E:ExIn C H e st kvs) {b:Addr} (h:H b=none):b∉e.own:=fun z=>by obtain ⟨o,e⟩:=E.mem z;rw [h] at e;cases e
end
theorem InB.addP {hs:List Int} {rs:List (List Int)} (B:InB hs rs) {h:Int} (hl:hs.length < 10) (h1:1≤h∧h≤6):InB (hs++[h]) rs:=by
 refine ⟨by rw [List.length_append,List.length_singleton];omega,B.lr,fun i hi=>?_,B.r2,B.rh,B.rl⟩;rw [List.length_append,List.length_singleton] at hi
 by_cases e:i < hs.length
 ·rw [zas e];exact B.hh i e
 ·have:i=hs.length:=by omega
  subst this;rw [zax];exact h1
end Prf
namespace L2
open PySem PySem.Spec PyProof.Rows
section
variable {σ:St} {H:Hp} {Q:VK} {K:PySem.W.Frag} {js:List Nat} {te:TE} {J:It} {n k:Nat} {g:TG} {w:Nat→St} {x:Nat→V}
theorem zkv (T:zbP J n k js σ g w H) (hz:n≤1000) (R:Addr→Nat→V→Hp→Prop) (S:List V→V→Prop)
  (st:∀ p i v H1 H2,R p i v H1→(∀ b o,H1 b=some o→b≠p→H2 b=some o)→R p i v H2)
  (he:∀ p ys i H' Q',i < n→H p=none→Same H H'→H' p=some (.lst ys)→ys.length=i→(∀ j,j < i→R p j (ys.getD j .non) H')→(∀ v H2,Same H' H2→R p i v H2→S ys v→Q' v H2)→te (w i++capV js σ) H' Q')
  (hq:∀ p vs H2,H p=none→Same H H2→H2 p=some (.lst vs)→vs.length=n→(∀ i,i < n→R p i (vs.getD i .non) H2)→(∀ i,i < n→S (vs.take i) (vs.getD i .non))→Q (.ref p) H2):zf5 J k js g tTT te σ H Q:=by
 intro p hp;refine ⟨fun i m σc H'=>m=n-i∧i≤n∧(∃ u:St,u.length=k∧σc=u++capV js σ)∧Same H H'∧∃ vs:List V,vs.length=i∧H' p=some (.lst vs)∧(∀ j,j < i→R p j (vs.getD j .non) H')∧∀ j,j < i→S (vs.take j) (vs.getD j .non),⟨n,by simp,Nat.zero_le _,⟨List.replicate k none,List.length_replicate,rfl⟩,zaH hp,[],rfl,zar,fun j hj=>absurd hj (by omega),fun j hj=>absurd hj (by omega)⟩,?_⟩;rintro i m σc H' ⟨rfl,hi,⟨u,hu,rfl⟩,s,vs,hvl,hpp,hR,hS⟩;have hsl:n < sizeLine:=zaK hz
 by_cases hlt:i < n
 ·refine .inr ⟨T.go i _ s hlt,fun σ' H'=>(∃ u:St,u.length=k∧σ'=u++capV js σ)∧Same H H'∧∃ vs:List V,vs.length=i+1∧H' p=some (.lst vs)∧(∀ j,j < i+1→R p j (vs.getD j .non) H')∧∀ j,j < i+1→S (vs.take j) (vs.getD j .non),fun σ' H' ⟨h1,h2,h3⟩=>⟨n-(i+1),by omega,rfl,hlt,h1,h2,h3⟩,fun v H2 hy=>?_⟩;refine T.yld i H' v H2 u _ s hlt hu hy fun H3 s3=>?_;refine r_tt ?_;rw [if_pos rfl];have hpp3:=s3 _ _ hpp;refine he p vs i _ _ hlt hp (s.trans s3) hpp3 hvl (fun j hj=>st p j _ _ _ (hR j hj) fun b o e _=>s3 b o e) fun v H5 s5 hv sv=>?_;refine ⟨vs,s5 _ _ hpp3,by omega,⟨w i,T.len i,rfl⟩,zec ((s.trans s3).trans s5) hp,vs++[v],by rw [List.length_append,hvl];rfl,zar,fun j hj=>?_,fun j hj=>?_⟩
  ·by_cases hji:j < i
   ·rw [zas (by omega)];exact st p j _ _ _ (hR j hji) fun b o e nb=>by rw [zaJ nb];exact s5 _ _ (s3 _ _ e)
   ·have e0:j=vs.length:=by omega
    subst e0;rw [zax];exact st p _ _ _ _ (hvl▸hv) fun b o e nb=>by rw [zaJ nb];exact e
  ·by_cases hji:j < i
   ·rw [zas (by omega),List.take_append_of_le_length (by omega)];exact hS j hji
   ·have e0:j=vs.length:=by omega
    subst e0;rw [zax,List.take_append_of_le_length (Nat.le_refl _),List.take_length];exact sv
 ·have e:i=n:=by omega
  subst e;exact .inl ⟨T.stop _ s,hq p vs _ hp s hpp hvl hR hS⟩
theorem zck {xs:List Int} {i:Nat} (h:i < xs.length):(xs.map V.int).getD i .non=.int (xs.getD i 0):=by
 rw [List.getD_eq_getElem?_getD,List.getElem?_map,List.getElem?_eq_getElem h,List.getD_eq_getElem?_getD,List.getElem?_eq_getElem h];rfl
theorem zbQ {f:Str} {v:V}:∀ {fs:List (Str×V)} {n:Nat},fs.length < n→(putF f v fs).length < n+1
 | [],n,h=>by show 1 < n+1;have:0 < n:=h;omega
 | (g,x)::r,n,h=>by
  show (if g=f then (g,v)::r else (g,x)::putF f v r).length < n+1;have h':r.length+1 < n:=h;split
  ·show r.length+1 < n+1;omega
  ·show (putF f v r).length+1 < n+1;have:=zbQ (f:=f) (v:=v) (fs:=r) (n:=n-1) (by omega);omega
theorem zbi {α:Type} (xs:List α) (d:α):(List.range xs.length).map (fun i=>xs.getD i d)=xs:=by
 refine List.ext_getElem (by simp) fun i h1 h2=>?_;simp at h1 ⊢;rw [List.getElem?_eq_getElem h1];rfl
theorem zkw {p b:Addr} {xs ys:List V} (h:H p=some (.lst xs)) (h':H b=some (.lst ys)) (hz:xs.length+ys.length≤1000000) (q:∀ H2,But p H H2→H2 p=some (.lst (xs++ys))→Q .non H2):rExtend (.ref p) [.ref b] H Q :=
 ⟨p,b,xs,ys,rfl,rfl,h,h',by rw [sizeLine_eq];omega,q _ But.upd zar⟩
theorem RowsAt.ext {B H H2 H3:Hp} {p p2:Addr} {rs rs2:List (List Int)} (R:RowsAt B p rs H) (R2:RowsAt H p2 rs2 H2) :
  ∃ zs zs2:List V,H2 p=some (.lst zs)∧H2 p2=some (.lst zs2)∧zs.length=rs.length∧zs2.length=rs2.length∧(But p H2 H3→H3 p=some (.lst (zs++zs2))→RowsAt B p (rs++rs2) H3):=by
 obtain ⟨sb,hp,ps,h1,h2,nd,h3⟩:=R;obtain ⟨sb2,hp2,qs,k1,k2,nd2,k3⟩:=R2;refine ⟨_,_,sb2 _ _ h1,k1,by rw [List.length_map];exact h2,by rw [List.length_map];exact k2,fun b e=>?_⟩;have ne:∀ i,i < rs2.length→qs.getD i 0≠p:=fun i hi z=>by have:=(k3 i hi).2.1;rw [z,h1] at this;cases this
 refine ⟨(sb.trans sb2).but b hp,hp,ps++qs,by rw [e,List.map_append],by rw [List.length_append,List.length_append,h2,k2],?_,fun i hi=>?_⟩
 ·refine List.nodup_append.mpr ⟨nd,nd2,fun x hx y hy z=>?_⟩;subst z;obtain ⟨i,hi,ei⟩:=L2.mem_getD (d:=0) hx;obtain ⟨j,hj,ej⟩:=L2.mem_getD (d:=0) hy;have a1:=(h3 i (by omega)).1;have a2:=(k3 j (by omega)).2.1;rw [ei] at a1;rw [ej,a1] at a2
  cases a2
 ·rw [List.length_append] at hi
  by_cases hlt:i < rs.length
  ·rw [zas (by omega),zas hlt];obtain ⟨a1,a2,a3⟩:=h3 i hlt;exact ⟨by rw [b _ a3];exact sb2 _ _ a1,a2,a3⟩
  ·obtain ⟨j,rfl⟩:∃ j,i=rs.length+j:=⟨i-rs.length,by omega⟩
   have e1:(ps++qs).getD (rs.length+j) 0=qs.getD j 0:=by
    rw [List.getD_eq_getElem?_getD,List.getD_eq_getElem?_getD,List.getElem?_append_right (by omega)]
    congr 2;omega
   have e2:(rs++rs2).getD (rs.length+j) []=rs2.getD j []:=by
    rw [List.getD_eq_getElem?_getD,List.getD_eq_getElem?_getD,List.getElem?_append_right (by omega)]
    congr 2;omega
   rw [e1,e2];obtain ⟨a1,a2,a3⟩:=k3 j (by omega);exact ⟨by rw [b _ (ne j (by omega))];exact a1,sb.free a2,ne j (by omega)⟩
theorem zhX (T:zbP J n k js σ g w H) (hz:n≤1000) (he:te=tDNewK)
  (hq:∀ p (ds:List Addr) H2,H p=none→Same H H2→H2 p=some (.lst (ds.map V.ref))→ds.length=n→ds.Nodup→(∀ i,i < n→H2 (ds.getD i 0)=some (.dK [])∧H (ds.getD i 0)=none∧ds.getD i 0≠p)→Q (.ref p) H2):zf5 J k js g tTT te σ H Q:=by
 subst he;refine zkv T hz (fun p i v H2=>∃ q,v=.ref q∧H2 q=some (.dK [])∧H q=none∧q≠p) (fun ys v=>v∉ys) ?_ ?_ ?_
 ·rintro p i v H1 H2 ⟨q,rfl,h1,h2,h3⟩ k;exact ⟨q,rfl,k _ _ h1 h3,h2,h3⟩
 ·intro p ys i H' Q' hi hp s hpp hl hR q;refine zf9 fun d H2 hd s2 e2=>q _ _ s2 ⟨d,rfl,e2,s.free hd,(zag hpp hd).symm⟩ fun hm=>?_;obtain ⟨j,hj,ej⟩:=L2.mem_getD (d:=V.non) hm;obtain ⟨q',e1,e3,_⟩:=hR j (by omega);rw [ej] at e1;have:d=q':=by injection e1
  rw [← this,hd] at e3
  cases e3
 ·intro p vs H2 hp s hpp hl hR hS;have:∃ ds:List Addr,vs=ds.map V.ref:=by
   refine ⟨vs.map fun v=>match v with | .ref a=>a | _=>0,?_⟩;rw [List.map_map];refine (List.map_id _).symm.trans (List.map_congr_left fun v hv=>?_);obtain ⟨j,hj,ej⟩:=L2.mem_getD (d:=V.non) hv;obtain ⟨q',e1,_⟩:=hR j (by omega);rw [ej] at e1;subst e1;rfl
  obtain ⟨ds,rfl⟩:=this;rw [List.length_map] at hl;have ed:∀ i,i < n→(ds.map V.ref).getD i .non=.ref (ds.getD i 0):=fun i hi=>by
   rw [List.getD_eq_getElem?_getD,List.getElem?_map,List.getElem?_eq_getElem (by omega),List.getD_eq_getElem?_getD,List.getElem?_eq_getElem (by omega)];rfl
  refine hq p ds H2 hp s hpp hl ?_ fun i hi=>?_
  ·refine List.pairwise_iff_getElem.mpr fun i j hi hj hlt e=>?_;have:=hS j (by omega);rw [ed j (by omega)] at this;refine this ?_;rw [← List.map_take];refine List.mem_map.mpr ⟨ds[i],?_,?_⟩
   ·exact List.mem_iff_getElem.mpr ⟨i,by rw [List.length_take];omega,by rw [List.getElem_take]⟩
   ·rw [List.getD_eq_getElem?_getD,List.getElem?_eq_getElem hj,e];rfl
  ·obtain ⟨q',e1,e2,e3,e4⟩:=hR i hi;rw [ed i hi] at e1;have:ds.getD i 0=q':=by injection e1
   rw [this];exact ⟨e2,e3,e4⟩
end
end L2
namespace Prf
open PySem PySem.Spec PyProof.Rows L2
section
variable {C x:Addr} {H H' H1 H2 H3:Hp} {e:ExAd} {st:ExS} {kvs:List (List (Key×V))} {F F':Addr→Prop}
structure ExNd (e:ExAd):Prop where
 xa:e.x≠e.a
 xb:e.x≠e.b
 xc:e.x≠e.c
 xd:e.x≠e.d
 xp:e.x∉e.ps
 xq:e.x∉e.qs
 xs:e.x∉e.ds
 ab:e.a≠e.b
 ac:e.a≠e.c
 ad:e.a≠e.d
 ap:e.a∉e.ps
 aq:e.a∉e.qs
 as:e.a∉e.ds
 bc:e.b≠e.c
 bd:e.b≠e.d
 bp:e.b∉e.ps
 bq:e.b∉e.qs
 bs:e.b∉e.ds
 cd:e.c≠e.d
 cp:e.c∉e.ps
 cq:e.c∉e.qs
 cs:e.c∉e.ds
 dp:e.d∉e.ps
 dq:e.d∉e.qs
 ds:e.d∉e.ds
 np:e.ps.Nodup
 nq:e.qs.Nodup
 nds:e.ds.Nodup
 pq:∀ b,b∈e.ps→b∉e.qs
 pds:∀ b,b∈e.ps→b∉e.ds
 qds:∀ b,b∈e.qs→b∉e.ds
theorem nd_iff:e.own.Nodup↔ExNd e:=by
 unfold ExAd.own;simp only [List.nodup_cons,List.mem_cons,List.mem_append,List.nodup_append,not_or];constructor
 ·rintro ⟨⟨xa,xb,xc,xd,xp,xq,xs⟩,⟨ab,ac,ad,ap,aq,as⟩,⟨bc,bd,bp,bq,bs⟩,⟨cd,cp,cq,cs⟩,⟨dp,dq,ds⟩,np,⟨nq,nds,qd⟩,pqd⟩;exact ⟨xa,xb,xc,xd,xp,xq,xs,ab,ac,ad,ap,aq,as,bc,bd,bp,bq,bs,cd,cp,cq,cs,dp,dq,ds,np,nq,nds,fun b h h'=>pqd b h b (.inl h') rfl,fun b h h'=>pqd b h b (.inr h') rfl,fun b h h'=>qd b h b h' rfl⟩
 ·intro N;exact ⟨⟨N.xa,N.xb,N.xc,N.xd,N.xp,N.xq,N.xs⟩,⟨N.ab,N.ac,N.ad,N.ap,N.aq,N.as⟩,⟨N.bc,N.bd,N.bp,N.bq,N.bs⟩,⟨N.cd,N.cp,N.cq,N.cs⟩,⟨N.dp,N.dq,N.ds⟩,N.np,⟨N.nq,N.nds,fun a h b h' z=>N.qds a h (z▸h')⟩,fun a h b h' z=>h'.elim (fun h'=>N.pq a h (z▸h')) fun h'=>N.pds a h (z▸h')⟩
theorem zgK.mono {n n' k:Nat} {en en':List (List Int)} {row:List Int} (h:zgK n en k row) (hn:n≤n') (he:∀ r,(zdn en k r).isSome=true→(zdn en' k r).isSome=true):zgK n' en' k row:=by
 obtain ⟨f,s,h1,h2,h3,h4⟩:=h;refine ⟨f,s,h1,h2,by omega,?_⟩;rcases h4 with h4 | ⟨t,h4,t1,t2,t3,t4,t5,t6⟩
 ·exact .inl h4
 ·exact .inr ⟨t,h4,t1,by omega,t3,t4,he _ t5,he _ t6⟩
theorem zgK.len {n k:Nat} {en:List (List Int)} {row:List Int} (h:zgK n en k row):row.length=2∨row.length=3:=by
 obtain ⟨f,s,h1,h2,h3,h4 | ⟨t,h4,_⟩⟩:=h
 ·exact .inl (by rw [h4];rfl)
 ·exact .inr (by rw [h4];rfl)
theorem Wf.ofStep {st:ExS} (w:Wf st) {s:Int} (h:0≤s∧s≤100):Wf { st with step:=s }:=⟨w.ln,w.row,w.pts,h⟩
theorem zjj {st:ExS} (h:st.dl=none):st.nm=[]:=by unfold ExS.nm;rw [h];rfl
theorem Wf.ofPaper {st:ExS} (w:Wf st) (hd:st.dl=none) {h:Int}:Wf { st with hs:=st.hs++[h] }:=⟨fun z=>(by rw [show ({ st with hs:=st.hs++[h] }:ExS).dl=st.dl from rfl,hd] at z;cases z),w.row,w.pts,w.stp⟩
theorem Wf.ofReader {st:ExS} (w:Wf st) {r:List Int}:Wf { st with rs:=st.rs++[r] }:=⟨w.ln,fun k hk=>(w.row k hk).mono (by show _≤(st.rs++[r]).length;rw [List.length_append];omega) fun _ z=>z,w.pts,w.stp⟩
theorem Wf.ofDeal {st:ExS} (w:Wf st) {rows:List (List Int)} (h:zaR st.hs st.rs rows=true):Wf { st with dl:=some (rows,[]) }:=by
 obtain ⟨h1,h2,h3⟩:=zbh.mp h;refine ⟨fun _=>h1,fun k hk=>?_,fun k r p z=>(by cases z),w.stp⟩;have hk':k < rows.length:=hk;have hp:=h2 k (by omega);show zgK st.rs.length [] k (rows.getD k []);unfold zcj at hp;simp only [Bool.and_eq_true,decide_eq_true_eq,List.all_eq_true] at hp;obtain ⟨⟨l2,ha⟩,hlt⟩:=hp
 match hr:rows.getD k [],l2 with
 | [f,s],_ =>
   rw [hr] at ha hlt;have hf:=ha f (by simp);have hs:=ha s (by simp);have hlt':f < s:=hlt;exact ⟨f,s,by omega,hlt',by omega,.inl rfl⟩
theorem ExIn.N (E:ExIn C H e st kvs):ExNd e:=nd_iff.mp E.nd
theorem ExIn.at (E:ExIn C H e st kvs):ExAt C H e.x (fun b=>b∈e.own) st:=⟨e,kvs,rfl,fun _=>Iff.rfl,E⟩
theorem zbj {b p:Addr} {l:List Addr} (h:p∉l) (hb:b∈l):b≠p:=fun z=>h (z▸hb)
theorem ExIn.ip (E:ExIn C H e st kvs) {i:Nat} (hi:i < st.rs.length):e.ps.getD i 0∈e.ps:=zgL (by have:=E.lp;omega)
theorem ExIn.iq (E:ExIn C H e st kvs) {i:Nat} (hi:i < st.nm.length):e.qs.getD i 0∈e.qs:=zgL (by have:=E.lq;omega)
theorem ExIn.is (E:ExIn C H e st kvs) {i:Nat} (hi:i < st.nm.length):e.ds.getD i 0∈e.ds:=zgL (by have:=E.ld;omega)
theorem ExIn.setStep (E:ExIn C H e st kvs) {s:Int} (b:But e.x H H') (h:H' e.x=some (.ins C e.dx (putF "widest_step" (.int s) (exFs (.ref e.a) (.ref e.b) (.int st.step) (.bl st.dl.isSome) (.ref e.c) (.ref e.d))))) (wf:0≤s∧s≤100):ExIn C H' e { st with step:=s } kvs:=by
 have N:=E.N;rw [exFs_ps] at h;exact ⟨h,by rw [b _ N.xa.symm];exact E.ha,by rw [b _ N.xb.symm];exact E.hb,by rw [b _ N.xc.symm];exact E.hc,by rw [b _ N.xd.symm];exact E.hd,E.lp,E.lq,E.ld,fun i hi=>by rw [b _ (zbj N.xp (E.ip hi))];exact E.rp i hi,fun i hi=>by rw [b _ (zbj N.xq (E.iq hi))];exact E.rq i hi,fun i hi=>by rw [b _ (zbj N.xs (E.is hi))];exact E.rd i hi,E.vk,E.sk,E.lk,E.nd,E.wf.ofStep wf⟩
theorem ExIn.paper (E:ExIn C H e st kvs) (hd:st.dl=none) {h:Int} (b:But e.a H H') (h1:H' e.a=some (.lst (st.hs.map V.int++[.int h]))):ExIn C H' e { st with hs:=st.hs++[h] } kvs:=by
 have N:=E.N;exact ⟨by rw [b _ N.xa];exact E.ob,by rw [h1,List.map_append];rfl,by rw [b _ N.ab.symm];exact E.hb,by rw [b _ N.ac.symm];exact E.hc,by rw [b _ N.ad.symm];exact E.hd,E.lp,E.lq,E.ld,fun i hi=>by rw [b _ (zbj N.ap (E.ip hi))];exact E.rp i hi,fun i hi=>by rw [b _ (zbj N.aq (E.iq hi))];exact E.rq i hi,fun i hi=>by rw [b _ (zbj N.as (E.is hi))];exact E.rd i hi,E.vk,E.sk,E.lk,E.nd,E.wf.ofPaper hd⟩
theorem ExIn.reader (E:ExIn C H e st kvs) {row:List Int} {r:Addr} (hr:r∉e.own) (er:H r=some (.lst (row.map V.int))) (b:But e.b H H') (h1:H' e.b=some (.lst (e.ps.map V.ref++[.ref r]))):ExIn C H' { e with ps:=e.ps++[r] } { st with rs:=st.rs++[row] } kvs:=by
 have N:=E.N;have lp:=E.lp;have nrb:r≠e.b:=fun z=>hr (z▸own_b);refine ⟨by rw [b _ N.xb];exact E.ob,by rw [b _ N.ab];exact E.ha,by rw [h1,List.map_append];rfl,by rw [b _ N.bc.symm];exact E.hc,by rw [b _ N.bd.symm];exact E.hd,by show (e.ps++[r]).length=(st.rs++[row]).length;rw [List.length_append,List.length_append,lp];rfl,E.lq,E.ld,fun i hi=>?_,fun i hi=>by rw [b _ (zbj N.bq (E.iq hi))];exact E.rq i hi,fun i hi=>by rw [b _ (zbj N.bs (E.is hi))];exact E.rd i hi,E.vk,E.sk,E.lk,?_,E.wf.ofReader⟩
 ·have hi':i < (st.rs++[row]).length:=hi;rw [List.length_append,List.length_singleton] at hi';show H' ((e.ps++[r]).getD i 0)=some (.lst (((st.rs++[row]).getD i []).map V.int))
  by_cases z:i < st.rs.length
  ·rw [zas (by omega),zas z,b _ (zbj N.bp (E.ip z))];exact E.rp i z
  ·have z':i=st.rs.length:=by omega
   subst z';rw [zax,← lp,zax,b _ nrb];exact er
 ·refine nd_iff.mpr ⟨N.xa,N.xb,N.xc,N.xd,?_,N.xq,N.xs,N.ab,N.ac,N.ad,?_,N.aq,N.as,N.bc,N.bd,?_,N.bq,N.bs,N.cd,?_,N.cq,N.cs,?_,N.dq,N.ds,?_,N.nq,N.nds,?_,?_,N.qds⟩
  ·exact fun h=>(List.mem_append.mp h).elim N.xp fun h=>hr (List.mem_singleton.mp h▸own_x)
  ·exact fun h=>(List.mem_append.mp h).elim N.ap fun h=>hr (List.mem_singleton.mp h▸own_a)
  ·exact fun h=>(List.mem_append.mp h).elim N.bp fun h=>hr (List.mem_singleton.mp h▸own_b)
  ·exact fun h=>(List.mem_append.mp h).elim N.cp fun h=>hr (List.mem_singleton.mp h▸own_c)
  ·exact fun h=>(List.mem_append.mp h).elim N.dp fun h=>hr (List.mem_singleton.mp h▸own_d)
  ·exact List.nodup_append.mpr ⟨N.np,by simp,fun c hc d hd z=>hr (by rw [← List.mem_singleton.mp hd,← z];exact zku hc)⟩
  ·exact fun c hc=>(List.mem_append.mp hc).elim (N.pq c) fun h z=>hr (by rw [← List.mem_singleton.mp h];exact zlX z)
  ·exact fun c hc=>(List.mem_append.mp hc).elim (N.pds c) fun h z=>hr (by rw [← List.mem_singleton.mp h];exact zji z)
theorem zhY {r b:Addr} (h:b∈({ e with ps:=e.ps++[r] }:ExAd).own):b∈e.own∨b=r:=by
 unfold ExAd.own at h ⊢;simp only [List.mem_cons,List.mem_append,List.not_mem_nil,or_false] at h ⊢;rcases h with h | h | h | h | h | (h | h) | h | h <;> simp [h]
theorem zfA (E:ExIn C H e st kvs) {b:Addr} (h:H b=none):b≠e.x∧b≠e.a∧b≠e.b∧b≠e.c∧b≠e.d∧b∉e.ps∧b∉e.qs∧b∉e.ds:=by
 have n:=E.new h;exact ⟨fun z=>n (z▸own_x),fun z=>n (z▸own_a),fun z=>n (z▸own_b),fun z=>n (z▸own_c),fun z=>n (z▸own_d),fun z=>n (zku z),fun z=>n (zlX z),fun z=>n (zji z)⟩
theorem ExIn.deal {p q:Addr} {rows:List (List Int)} {ds:List Addr} {H5:Hp} (E:ExIn C H e st kvs) (hr:zaR st.hs st.rs rows=true) (R:RowsAt H p rows H1) (k:∀ b o,H1 b=some o→b≠e.x→H5 b=some o)
  (hx:H5 e.x=some (.ins C e.dx (exFs (.ref e.a) (.ref e.b) (.int st.step) (.bl true) (.ref p) (.ref q)))) (hq:H5 q=some (.lst (ds.map V.ref))) (nq:H1 q=none) (ld:ds.length=rows.length) (nd:ds.Nodup)
  (hd:∀ i,i < rows.length→H5 (ds.getD i 0)=some (.dK [])∧H1 (ds.getD i 0)=none∧ds.getD i 0≠q) :
  ∃ e',e'.x=e.x∧ExIn C H5 e' { st with dl:=some (rows,[]) } (rows.map fun _=>[])∧∀ b∈e'.own,b∈e.own∨H b=none:=by
 obtain ⟨s,np,qs,hp,lq,ndq,hrow⟩:=R;have N:=E.N;have hf:∀ {b o},H b=some o→b≠e.x→H5 b=some o:=fun h n=>k _ _ (s _ _ h) n;have mq:∀ b∈qs,H b=none∧b≠p∧∃ o,H1 b=some o:=fun b hb=>by
  obtain ⟨i,hi,ei⟩:=L2.mem_getD (d:=0) hb;obtain ⟨h1,h2,h3⟩:=hrow i (by omega);rw [ei] at h1 h2 h3;exact ⟨h2,h3,_,h1⟩
 have md:∀ b∈ds,H1 b=none∧b≠q:=fun b hb=>by
  obtain ⟨i,hi,ei⟩:=L2.mem_getD (d:=0) hb;obtain ⟨h1,h2,h3⟩:=hd i (by omega);rw [ei] at h1 h2 h3;exact ⟨h2,h3⟩
 have nqH:H q=none:=s.free nq;have P:=zfA E np;have Q:=zfA E nqH;have D:=fun {b} hb=>zfA E (s.free (md b hb).1);have M:=fun {b} hb=>zfA E (mq b hb).1;refine ⟨{ e with c:=p,d:=q,qs:=qs,ds:=ds },rfl,⟨hx,hf E.ha N.xa.symm,hf E.hb N.xb.symm,k _ _ hp P.1,hq,E.lp,lq,ld,fun i hi=>hf (E.rp i hi) (zbj N.xp (E.ip hi)),fun i hi=>?_,fun i hi=>?_,fun i hi r=>?_,fun i hi=>?_,by show (rows.map fun _=>_).length=rows.length;rw [List.length_map],nd_iff.mpr ?_,E.wf.ofDeal hr⟩,?_⟩
 ·exact k _ _ (hrow i hi).1 (M (zgL (show i < qs.length by rw [lq];exact hi))).1
 ·have hi':i < rows.length:=hi;have e0:(rows.map fun _=>([]:List (Key×V))).getD i []=[]:=by rw [List.getD_eq_getElem?_getD,List.getElem?_map,List.getElem?_eq_getElem hi'];rfl
  rw [e0];exact (hd i hi).1
 ·have hi':i < rows.length:=hi;have e0:(rows.map fun _=>([]:List (Key×V))).getD i []=[]:=by rw [List.getD_eq_getElem?_getD,List.getElem?_map,List.getElem?_eq_getElem hi'];rfl
  rw [e0];rfl
 ·have hi':i < rows.length:=hi;have e0:(rows.map fun _=>([]:List (Key×V))).getD i []=[]:=by rw [List.getD_eq_getElem?_getD,List.getElem?_map,List.getElem?_eq_getElem hi'];rfl
  rw [e0];exact Nat.zero_le _
 ·exact ⟨N.xa,N.xb,P.1.symm,Q.1.symm,N.xp,fun h=>(M h).1 rfl,fun h=>(D h).1 rfl,N.ab,P.2.1.symm,Q.2.1.symm,N.ap,fun h=>(M h).2.1 rfl,fun h=>(D h).2.1 rfl,P.2.2.1.symm,Q.2.2.1.symm,N.bp,fun h=>(M h).2.2.1 rfl,fun h=>(D h).2.2.1 rfl,
   fun z=>(by rw [← show p=q from z,hp] at nq;cases nq),P.2.2.2.2.2.1,fun h=>(mq _ h).2.1 rfl,fun h=>(by have:=(md _ h).1;rw [hp] at this;cases this),Q.2.2.2.2.2.1,fun h=>(by obtain ⟨o,z⟩:=(mq _ h).2.2;rw [nq] at z;cases z),fun h=>(md _ h).2 rfl,N.np,ndq,nd,
   fun b h h'=>(M h').2.2.2.2.2.1 h,fun b h h'=>(D h').2.2.2.2.2.1 h,fun b h h'=>(by obtain ⟨o,z⟩:=(mq _ h).2.2;rw [(md _ h').1] at z;cases z)⟩
 ·intro b hb;unfold ExAd.own at hb;simp only [List.mem_cons,List.mem_append] at hb;rcases hb with h | h | h | h | h | h | h | h
  ·exact .inl (h▸own_x)
  ·exact .inl (h▸own_a)
  ·exact .inl (h▸own_b)
  ·exact .inr (h▸np)
  ·exact .inr (h▸nqH)
  ·exact .inl (zku h)
  ·exact .inr (mq _ h).1
  ·exact .inr (s.free (md _ h).1)
end
theorem Wf.n10 {st:ExS} (w:Wf st) (B:InB st.hs st.rs):st.nm.length≤10:=by
 cases h:st.dl with
 | none=>rw [zjj h];exact Nat.zero_le _
 | some d=>rw [w.ln (by rw [h];rfl)];exact B.lp
theorem ExAt.wf {C x:Addr} {H:Hp} {F:Addr→Prop} {st:ExS} (E:ExAt C H x F st):Wf st:=by
 obtain ⟨e,kvs,_,_,I⟩:=E;exact I.wf
def zbu (nm en:List (List Int)) (k:Nat):List Int:=(nm.getD k []).filter fun r=>(zdn en k r).isNone
def dueB (nm en:List (List Int)):List (List Int):=(List.range nm.length).flatMap fun k=>(zbu nm en k).map fun r=>[(k:Int)+1,r]
def dueS (st:ExS):List (List Int):=dueB st.nm st.en
def zlY (nm en:List (List Int)) (k:Nat):List Int:=(nm.getD k []).map fun r=>(zdn en k r).getD 0
def zev (st:ExS):List Int:=zbc st.rs st.nm
def MarkB (xs:List Int) (s:Int):List Int:=if xs.length=2 then zoc (xs.getD 0 0) (xs.getD 1 0) s else [mid3 (xs.getD 0 0) (xs.getD 1 0) (xs.getD 2 0),1]
def zk0 (nm en:List (List Int)) (step:Int) (k:Nat):Option (Int×Int×List (List Int)):=if zbu nm en k=[] then some ((MarkB (zlY nm en k) step).getD 0 0,(MarkB (zlY nm en k) step).getD 1 0,((nm.getD k []).zip (zlY nm en k)).map fun p=>[p.1,p.2]) else none
def zjk (st:ExS):List (Option (Int×Int×List (List Int))):=match st.dl with
 | none=>(List.range st.hs.length).map fun _=>none
 | some (nm,en)=>(List.range st.hs.length).map (zk0 nm en st.step)
theorem zcP (nm en:List (List Int)) (i:Nat) (h:i < nm.length):((List.range (i+1)).flatMap fun k=>(zbu nm en k).map fun r=>[(k:Int)+1,r])=((List.range i).flatMap fun k=>(zbu nm en k).map fun r=>[(k:Int)+1,r])++(zbu nm en i).map fun r=>[(i:Int)+1,r]:=by
 rw [List.range_succ,List.flatMap_append,List.flatMap_singleton]
theorem zjl (nm en:List (List Int)) (k:Nat):(zbu nm en k).length≤(nm.getD k []).length:=List.length_filter_le _ _
end Prf
namespace L2
open PySem PySem.Spec PyProof.Rows
section
variable {X:Cx} {K:PySem.W.Frag}
variable {H:Hp} {Q:VK} {a:Addr} {ns:List Int}
end
end L2
namespace Prf
open PySem PySem.Spec PyProof.Rows L2
theorem zjm {nm en:List (List Int)} {x:List Int} (h:x∈dueB nm en):∃ k r,k < nm.length∧r∈zbu nm en k∧x=[(k:Int)+1,r]:=by
 unfold dueB at h;obtain ⟨k,hk,h2⟩:=List.mem_flatMap.mp h;obtain ⟨r,hr,e⟩:=List.mem_map.mp h2;exact ⟨k,r,List.mem_range.mp hk,hr,e.symm⟩
theorem znl {st:ExS} (w:Wf st):(dueB st.nm st.en).length≤3 * st.nm.length:=by
 have key:∀ i,i≤st.nm.length→((List.range i).flatMap fun k=>(zbu st.nm st.en k).map fun r=>[(k:Int)+1,r]).length≤3 * i:=fun i=>by
  induction i with
  | zero=>intro _;simp
  | succ i ih =>
    intro hi;rw [zcP _ _ _ (by omega),List.length_append,List.length_map];have h1:=ih (by omega);have h2:=zjl st.nm st.en i;have h3:=(w.row i (by omega)).len;omega
 exact key st.nm.length (Nat.le_refl _)
theorem _root_.L2.RowsAt.mono {B H H':Hp} {p:Addr} {rs:List (List Int)} (R:RowsAt B p rs H) (s:Same H H'):RowsAt B p rs H':=by
 obtain ⟨a,b,ps,h1,h2,h3,h4⟩:=R;exact ⟨a.trans s,b,ps,s _ _ h1,h2,h3,fun i hi=>⟨s _ _ (h4 i hi).1,(h4 i hi).2⟩⟩
section
variable {H H':Hp} {l:LdA} {hs:List Int} {rs nm en:List (List Int)} {K:PySem.W.Frag}
end
end Prf
namespace L2
open PySem PySem.Spec PyProof.Rows
section
variable {X:Cx} {K:PySem.W.Frag}
def rEqE (K:PySem.W.Frag):R2:=fun x y H Q=>∃ a b xs,x=.ref a∧y=.ref b∧SqL K H a xs∧SqL K H b []∧Q (.bl (decide (xs=[]))) H
def rNeE (K:PySem.W.Frag):R2:=fun x y H Q=>∃ a b xs,x=.ref a∧y=.ref b∧SqL K H a xs∧SqL K H b []∧Q (.bl (!decide (xs=[]))) H
theorem znm (hu:X.A.units < cLine):OpR X (compareOp .Eq) (rEqE X.K):=by
 intro pins s σ H x y v u Q I rx ry h;obtain ⟨a,b,xs,rfl,rfl,h1,h2,q⟩:=h
 cases rx
 cases ry
 obtain ⟨its1,r1,p1,z1⟩:=I.list h1;obtain ⟨its2,r2,p2,z2⟩:=I.list h2;have l1:=r1.length;have l2:its2.length=0:=r2.length.symm
 by_cases hl:xs=[]
 ·subst hl;have l1':its1.length=0:=l1.symm;refine SeqAt.eq_listAt (e:=fun _=>true) p1.isList p2.isList (by simp;omega) hu (fun j h1 h2=>by simp at h1;omega) ⟨.bl _,H,I,rfl,?_⟩;rw [List.size_toArray,l1'];rw [decide_eq_true rfl] at q;exact q
 ·have:xs.length≠0:=fun z=>hl (List.eq_nil_of_length_eq_zero z);refine SeqAt.eq_list_lengthsAt p1.isList p2.isList (by simp;omega) hu ⟨.bl false,H,I,rfl,?_⟩;rw [decide_eq_false hl] at q;exact q
theorem znn (hu:X.A.units < cLine):OpR X (compareOp .NotEq) (rNeE X.K):=by
 intro pins s σ H x y v u Q I rx ry h;obtain ⟨a,b,xs,rfl,rfl,h1,h2,q⟩:=h
 cases rx
 cases ry
 obtain ⟨its1,r1,p1,z1⟩:=I.list h1;obtain ⟨its2,r2,p2,z2⟩:=I.list h2;have l1:=r1.length;have l2:its2.length=0:=r2.length.symm
 by_cases hl:xs=[]
 ·subst hl;have l1':its1.length=0:=l1.symm;refine SeqAt.RcNeAt.lists (e:=fun _=>true) p1.isList p2.isList (by simp;omega) hu (fun j h1 h2=>by simp at h1;omega) _ _ _ _ ⟨.bl _,H,I,rfl,?_⟩;rw [List.size_toArray,l1'];rw [decide_eq_true rfl] at q;exact q
 ·have:xs.length≠0:=fun z=>hl (List.eq_nil_of_length_eq_zero z);refine SeqAt.RcNeAt.lists_lengths p1.isList p2.isList (by simp;omega) hu _ _ _ _ ⟨.bl true,H,I,rfl,?_⟩;rw [decide_eq_false hl] at q;exact q
def rEq2 (K:PySem.W.Frag):R2:=fun x y H Q=>zlE K x y H Q∨rEqE K x y H Q
def rNe2 (K:PySem.W.Frag):R2:=fun x y H Q=>rNeG K x y H Q∨rNeE K x y H Q
theorem zb8 (h:X.K=K) (hu:X.A.units < cLine):OpR X (compareOp .Eq) (rEq2 K):=(zlF h hu).or (h▸znm hu)
theorem zcQ (h:X.K=K) (hu:X.A.units < cLine):OpR X (compareOp .NotEq) (rNe2 K):=(zmD h).or (h▸znn hu)
section
variable {H:Hp} {Q:VK} {i j:Int}
theorem zno (q:Q (.bl (decide (i=j))) H):rEq2 K (.int i) (.int j) H Q:=.inl (zlG q)
theorem znp {a b:Addr} {xs:List V} (h1:SqL K H a xs) (h2:SqL K H b []) (q:Q (.bl (decide (xs=[]))) H):rEq2 K (.ref a) (.ref b) H Q:=.inr ⟨a,b,xs,rfl,rfl,h1,h2,q⟩
theorem znq (q:Q (.bl (!decide (i=j))) H):rNe2 K (.int i) (.int j) H Q:=.inl (zkZ q)
end
end
end L2
namespace Prf
open PySem PySem.Spec PyProof.Rows L2
theorem ExFr.trans {H H1 H2:Hp} {F F1 F2:Addr→Prop} (a:ExFr H H1 F F1) (b:ExFr H1 H2 F1 F2):ExFr H H2 F F2 :=
 ⟨fun c o e n=>b.kp c o (a.kp c o e n) (fun z=>(a.fp c z).elim n fun z=>by rw [e] at z;cases z),fun c z=>(b.fp c z).elim (a.fp c) fun z=>by
  by_cases h:F c
  ·exact .inl h
  ·right
   cases hc:H c with
   | none=>rfl
   | some o=>rw [a.kp c o hc h] at z;cases z⟩
theorem zhs {hs:List Int} {rs tt:List (List Int)} (h:zaR hs rs tt=true):tt.map (List.take 2)=tt:=by
 have RP:=zby.mp h;refine (List.map_congr_left fun r hr=>?_).trans (List.map_id tt);obtain ⟨i,hi,e⟩:=L2.mem_getD (d:=[]) hr;have:=RP.two i (by rw [← RP.len];exact hi);rw [e] at this;show r.take 2=r;rw [List.take_of_length_le (by omega)]
theorem zeg (nm:List (List Int)) (k:Nat):zbu nm [] k=nm.getD k []:=by
 unfold zbu;exact List.filter_eq_self.mpr fun r _=>rfl
end Prf
namespace L2
open PySem PySem.Spec PyProof.Rows
section
variable {X:Cx} {K:PySem.W.Frag}
def rInN (K:PySem.W.Frag) (neg:Bool):R2:=fun x y H Q=>x=.non∧∃ p vs,y=.ref p∧SqL K H p vs∧(∀ v∈vs,∃ q ys,v=.ref q∧SqL K H q ys)∧Q (.bl neg) H
def rInR (K:PySem.W.Frag) (neg:Bool):R2:=fun x y H Q=>∃ (a p:Addr) (xs:List Int) (rows:List (List Int)),x=.ref a∧y=.ref p∧H a=some (.lst (xs.map V.int))∧LL K H p rows∧Q (.bl (if neg then !decide (xs∈rows) else decide (xs∈rows))) H
theorem znr {pins:List (Addr×Obj)} {σ:St} {H:Hp} {s:Shared} {vs:List V} {its:List Value} (hu:X.A.units+1 < cLine) (I:Inv X pins σ H s) (r:Vals vs its) (h:∀ v∈vs,∃ q ys,v=.ref q∧SqL X.K H q ys):∀ y∈its.toArray,SeqAt.EqAt X.A.in1 s y .none false:=fun y hy=>by
 have hy':y∈its:=by simpa using hy
 obtain ⟨i,hi,e⟩:=List.getElem_of_mem hy';have hl:=r.length;obtain ⟨u,hu1,hu2⟩:=r.get (i:=i) (x:=vs[i]'(by omega)) (List.getElem?_eq_getElem (by omega));rw [List.getElem?_eq_getElem hi] at hu1;have e2:u=y:=by rw [← e];exact (Option.some.inj hu1).symm
 subst e2;obtain ⟨q,ys,hq,hs⟩:=h _ (List.getElem_mem (show i < vs.length by omega));rw [hq] at hu2
 cases hu2
 obtain ⟨_,_,pl,_⟩:=I.list hs;exact SeqAt.EqAt.list_none pl.isList hu
theorem zns (hu:X.A.units+1 < cLine):OpR X (compareOp .In) (rInN X.K false):=by
 intro pins s σ H x y v u Q I rx ry h;obtain ⟨rfl,p,vs,rfl,hq,hv,q⟩:=h
 cases rx
 cases ry
 obtain ⟨its,r,pl,hz⟩:=I.list hq;refine SeqAt.in_listAt (fun _=>false) pl.isList (znr hu I r hv) ⟨.bl _,H,I,rfl,?_⟩;rw [show its.toArray.any (fun _=>false)=false by simp];exact q
def rowE (H:Hp) (xs:List Int):Value→Bool
 | .ref q=>match H q with
   | some (.lst vs)=>decide (vs=xs.map V.int)
   | _=>false
 | _=>false
theorem map_int_inj:∀ {xs ys:List Int},xs.map V.int=ys.map V.int→xs=ys
 | [],[],_=>rfl
 | [],_::_,h=>by simp at h
 | _::_,[],h=>by simp at h
 | x::xs,y::ys,h=>by
   rw [List.map_cons,List.map_cons] at h;injection h with h1 h2;injection h1 with h1;rw [h1,map_int_inj h2]
theorem zog {pins:List (Addr×Obj)} {σ:St} {H:Hp} {s:Shared} {a q:Addr} {xs ys:List Int} {A:Around} (hu:A.units < cLine) (I:Inv X pins σ H s) (ha:H a=some (.lst (xs.map V.int))) (hq:H q=some (.lst (ys.map V.int))):SeqAt.EqAt A s (.ref q) (.ref a) (decide (ys=xs)):=by
 by_cases e:q=a
 ·subst e;rw [ha] at hq;have:=map_int_inj (HO.lst.inj (Option.some.inj hq));rw [decide_eq_true this.symm];exact SeqAt.EqAt.same _
 ·obtain ⟨its1,r1,p1,z1⟩:=I.list (SqL.of (K:=X.K) hq);obtain ⟨its2,r2,p2,z2⟩:=I.list (SqL.of (K:=X.K) ha);have l1:=r1.length;have l2:=r2.length;rw [List.length_map] at l1 l2;refine SeqAt.EqAt.of_refs e ?_
  by_cases hl:ys.length=xs.length
  ·have key:=SeqAt.RcAt.lists (A:=A) (e:=fun j=>eqV ((ys.map V.int).getD j .non) ((xs.map V.int).getD j .non)) p1.isList p2.isList (by simp;omega) hu (fun j h1 h2=>?_)
   ·have e1:its1.toArray.size=(ys.map V.int).length:=by simp;omega
    rw [e1,eqVs_all (by simp;omega),eqVs_ints] at key;exact key
   ·simp only [List.size_toArray] at h1 h2;have e1:(ys.map V.int)[j]? = some ((ys.map V.int).getD j .non):=by rw [List.getD_eq_getElem?_getD,List.getElem?_eq_getElem (by simp;omega)];rfl
    have e2:(xs.map V.int)[j]? = some ((xs.map V.int).getD j .non):=by rw [List.getD_eq_getElem?_getD,List.getElem?_eq_getElem (by simp;omega)];rfl
    obtain ⟨u1,a1,b1⟩:=r1.get e1;obtain ⟨u2,a2,b2⟩:=r2.get e2;have c1:its1.toArray[j]=u1:=by simpa [List.getElem?_eq_getElem h1] using a1
    have c2:its2.toArray[j]=u2:=by simpa [List.getElem?_eq_getElem h2] using a2
    rw [c1,c2];have fl:∀ zs:List Int,(zs.map V.int).all flatV=true:=fun zs=>by simp [flatV]
    exact ziF b1 b2 (List.all_eq_true.mp (fl _) _ (List.mem_of_getElem? e1)) (List.all_eq_true.mp (fl _) _ (List.mem_of_getElem? e2))
  ·rw [decide_eq_false (fun z=>hl (by rw [z]))];exact SeqAt.RcAt.lists_lengths p1.isList p2.isList (by simp;omega) hu
theorem zhZ {pins:List (Addr×Obj)} {σ:St} {H:Hp} {s:Shared} {a:Addr} {xs:List Int} {rows:List (List Int)} {ps:List Addr} {its:List Value} (hu:X.A.units+1 < cLine) (I:Inv X pins σ H s) (ha:H a=some (.lst (xs.map V.int))) (r:Vals (ps.map V.ref) its) (hl:ps.length=rows.length)
  (hr:∀ i,i < rows.length→H (ps.getD i 0)=some (.lst ((rows.getD i []).map V.int))):(∀ y∈its.toArray,SeqAt.EqAt X.A.in1 s y (.ref a) (rowE H xs y))∧its.toArray.any (rowE H xs)=decide (xs∈rows):=by
 have hlen:=r.length;rw [List.length_map] at hlen;have at_:∀ i (hi:i < its.length),its[i]=.ref (ps.getD i 0):=fun i hi=>by
  obtain ⟨u,hu1,hu2⟩:=r.get (i:=i) (x:=.ref (ps.getD i 0)) (by rw [List.getElem?_map,List.getElem?_eq_getElem (by omega),List.getD_eq_getElem?_getD,List.getElem?_eq_getElem (by omega)];rfl);rw [List.getElem?_eq_getElem hi] at hu1
  cases hu2
  exact Option.some.inj hu1
 have ev:∀ i,i < rows.length→rowE H xs (.ref (ps.getD i 0))=decide (rows.getD i []=xs):=fun i hi=>by
  unfold rowE;simp only [hr i hi];rw [decide_eq_decide];exact ⟨map_int_inj,fun z=>by rw [z]⟩
 refine ⟨fun y hy=>?_,?_⟩
 ·obtain ⟨i,hi,e⟩:=List.getElem_of_mem (show y∈its by simpa using hy);rw [← e,at_ i hi,ev i (by omega)];exact zog (A:=X.A.in1) hu I ha (hr i (by omega))
 ·rw [show its.toArray.any (rowE H xs)=its.any (rowE H xs) by simp,Bool.eq_iff_iff,List.any_eq_true,decide_eq_true_eq];constructor
  ·rintro ⟨y,hy,e⟩;obtain ⟨i,hi,e'⟩:=List.getElem_of_mem hy;rw [← e',at_ i hi,ev i (by omega)] at e;rw [← of_decide_eq_true e];rw [List.getD_eq_getElem?_getD,List.getElem?_eq_getElem (show i < rows.length by omega)];exact List.getElem_mem _
  ·intro h;obtain ⟨i,hi,e⟩:=L2.mem_getD (d:=[]) h;refine ⟨its[i]'(by omega),List.getElem_mem _,?_⟩;rw [at_ i (by omega),ev i hi,decide_eq_true e]
theorem znt (hu:X.A.units+1 < cLine):OpR X (compareOp .In) (rInR X.K false):=by
 intro pins s σ H x y v u Q I rx ry h;obtain ⟨a,p,xs,rows,rfl,rfl,ha,⟨ps,hp,hl,hr⟩,q⟩:=h
 cases rx
 cases ry
 obtain ⟨its,r,pl,hz⟩:=I.list hp;obtain ⟨h1,h2⟩:=zhZ hu I ha r hl hr;refine SeqAt.in_listAt (rowE H xs) pl.isList h1 ⟨.bl _,H,I,rfl,?_⟩;rw [h2];exact q
def rIn2 (K:PySem.W.Frag) (neg:Bool):R2:=fun x y H Q=>rIn K neg x y H Q∨(rInN K neg x y H Q∨rInR K neg x y H Q)
theorem zew (h:X.K=K) (hu:X.A.units+1 < cLine):OpR X (compareOp .In) (rIn2 K false):=(zmC h).or ((h▸zns hu).or (h▸znt hu))
end
section
variable {H:Hp} {K:PySem.W.Frag} {Q:VK} {i:Int} {a p:Addr}
theorem znu {xs:List Int} (h:SqL K H a (xs.map V.int)) (q:Q (.bl (decide (i∈xs))) H):rIn2 K false (.int i) (.ref a) H Q:=.inl (zoa h q)
end
end L2
namespace Prf
open PySem PySem.Spec PyProof.Rows L2
end Prf
namespace L2
open PySem PySem.Spec PyProof.Rows
section
variable {X:Cx} {K:PySem.W.Frag} {H:Hp} {Q:VK} {i:Int} {b:Bool}
def cInt:List V→Hp→VK→Prop:=fun xs H Q=>(∃ i,xs=[.int i]∧Q (.int i) H)∨∃ k,xs=[.bl k]∧Q (.int (if k then 1 else 0)) H
theorem zjn (h:X.K=K):zcG X (.type "int") cInt:=call_int1
theorem znv (q:Q (.int (if b then 1 else 0)) H):cInt [.bl b] H Q:=.inr ⟨b,rfl,q⟩
end
end L2
namespace Prf
open PySem PySem.Spec PyProof.Rows L2
end Prf
namespace Prf
open PySem PySem.Spec PyProof.Rows L2
end Prf
namespace L2
open PySem PySem.Spec PyProof.Rows
section
variable {σ:St} {H:Hp} {Q:VK} {K:PySem.W.Frag} {js:List Nat} {te:TE} {J:It} {n k:Nat} {g:TG} {w:Nat→St} {x:Nat→V}
end
end L2
namespace Prf
open PySem PySem.Spec PyProof.Rows L2
section
variable {C:Addr} {H H' H1 Hb:Hp} {x m a b c d:Addr} {F F':Addr→Prop} {st:ExS} {l:LdA} {i:Nat} {ps qs:List Addr} {hs:List Int} {rs rows:List (List Int)} {stp:Int} {G G' G1:Addr→Prop}
end
end Prf
namespace L2
open PySem PySem.Spec PyProof.Rows
def cutH (h:Heap) (l:List Addr):Heap:=⟨h.objs.mapIdx fun i o=>if i∈l then ⟨o.cls,o.dict,.freed,o.slots⟩ else o,h.life⟩
theorem zfB {h:Heap} {l:List Addr} {b:Addr}:(cutH h l).get? b=if b∈l then none else h.get? b:=by
 unfold cutH Heap.get?;simp only [Array.getElem?_mapIdx]
 cases e:h.objs[b]? with
 | none=>simp
 | some o =>
   by_cases hb:b∈l
   ·simp [hb]
   ·simp [hb]
theorem zk1 {P:Program} {w:World} {H:Hp} {h:Heap} {a:Addr}:∀ {o:HO},zbD P w H h a o→∃ u,h.get? a=some u
 | .lst _,⟨_,_,_,_,e⟩=>⟨_,e⟩
 | .tup _,⟨_,_,_,_,e,_⟩=>⟨_,e⟩
 | .dK _,⟨_,_,_,_,_,_,_,e,_⟩=>⟨_,e⟩
 | .dT _,⟨_,_,_,_,_,_,_,e,_⟩=>⟨_,e⟩
 | .set _ _,⟨_,_,_,_,e,_⟩=>⟨_,e⟩
 | .ins _ _ _,⟨_,_,_,e,_⟩=>⟨_,e⟩
 | .own _,x=>x
 | .xd _,⟨_,⟨_,_,_,e,_⟩,_⟩=>⟨_,e⟩
 | .rng _ _,⟨_,_,_,e⟩=>⟨_,e⟩
 | .frz _ _,⟨e,_⟩=>⟨_,e⟩
 | .tbl _,e=>⟨_,e⟩
 | .met _ _,e=>⟨_,e⟩
 | .ext _,⟨_,⟨_,e⟩,_⟩=>⟨_,e⟩
structure Cov (P:Program) (w:World) (l:List Env) (H:Hp) (h0:Heap) (H':Hp) (B h:Heap):Prop where
 un:Un (frs l) [] H H' h0 h
 hok:HOk P w H' h
 frf:∀ b∈frs l,H' b=none
 cov:∀ b o,h.get? b=some o→(H' b≠none∨∃ o',h0.get? b=some o')→b∉frs l→B.get? b=some o
section
variable {P:Program} {w:World} {l:List Env} {H H':Hp} {h0 B h h':Heap}
theorem Cov.step (C:Cov P w l H h0 H' B h) (fr:h.FunFrames B l) (st:B.StaysIn h') (up:h.UpToSlots h'):Cov P w l H h0 H' B h':=by
 have kp:∀ b o,h.get? b=some o→(H' b≠none∨∃ o',h0.get? b=some o')→b∉frs l→h'.get? b=some o:=fun b o e c n=>st b o (C.cov b o e c n);have slots:∀ b o,h.get? b=some o→b∈frs l→∃ sl,h'.get? b=some { o with slots:=sl }:=fun b o e m=>by
  obtain ⟨_,o2,e2,d2⟩:=fr.mem m;rw [e] at e2;cases e2
  exact up b o e d2
 refine ⟨⟨fun b o e n m _=>?_,fun b o e n m x=>?_,C.un.free,fun b o e x=>?_,C.un.tups,C.un.frzs,C.un.tbls⟩,fun a o e=>?_,C.frf,fun b o e c n=>?_⟩
 ·exact kp b o (C.un.keep b o e n m (by simp)) (.inr ⟨o,e⟩) m
 ·obtain ⟨sl,e1⟩:=C.un.slot b o e n m x;obtain ⟨sl2,e2⟩:=slots b _ e1 m;exact ⟨sl2,e2⟩
 ·obtain ⟨o1,e1⟩:=C.un.there b o e x
  by_cases m:b∈frs l
  ·obtain ⟨sl,e2⟩:=slots b _ e1 m;exact ⟨_,e2⟩
  ·exact ⟨o1,kp b o1 e1 (.inr ⟨o,e⟩) m⟩
 ·refine (C.hok a o e).stay (fun b u hb q=>?_) (fun _ q=>q) fun _ _ q=>q;have hH:H' b≠none:=by
   rcases hb with rfl | z
   ·rw [e];simp
   ·rw [z];simp
  exact kp b u q (.inl hH) fun m=>hH (C.frf b m)
 ·have e1:∃ o1,h.get? b=some o1:=by
   rcases c with c | ⟨o',e'⟩
   ·cases hb:H' b with
    | none=>exact absurd hb c
    | some u =>
      exact zk1 (C.hok b u hb)
   ·exact C.un.there b o' e' (by simp)
  obtain ⟨o1,e1⟩:=e1;have e2:=C.cov b o1 e1 c n;have e3:=st b o1 e2;rw [e] at e3;cases e3
  exact e2
end
structure Fly (P:Program) (w:World) (l:List Env) (H:Hp) (s:Shared) (H':Hp) (e:Addr) (cls:Value) (s':Shared):Prop where
 os:s'.os=s.os
 bare:AllBare s'.gens
 fl:∃ (B:Heap) (a0:Value),Heap.FlyingW B l e cls a0 s'.heap∧Cov P w l H s.heap H' B s'.heap
def CX1 (P:Program) (w:World):CXT:=fun l H s E e s'=>∃ a cls H',e=.ref a∧Fly P w l H s H' a cls s'∧E cls none H'
section
variable {P:Program} {w:World} {K:PySem.W.Frag} {mg:Str→Option Value} {base:Heap} {N:List Str} {qual:Str} {scope:Scope} {f:Addr} {cd:Value} {A:Around} {outer:List Env} {s:Shared} {H:Hp} {E:XK}
theorem zjo {pins:List (Addr×Obj)} {σ:St} {H1 H2:Hp} {s1:Shared} {B h2 h':Heap} (I:Inv (cxOf (CX1 P w) P w K mg base N qual scope f cd A outer s H E) pins σ H1 s1)
  (C:Cov P w (envOfC qual scope s.heap.objs.size f cd::outer) H1 s1.heap H2 B h2) (fr:h2.FunFrames B (envOfC qual scope s.heap.objs.size f cd::outer)) (st:B.StaysIn h') (up:h2.UpToSlots h'):Cov P w outer H s.heap H2 B h':=by
 have C':=C.step fr st up;have hfs:∀ b,b∈frs (envOfC qual scope s.heap.objs.size f cd::outer)↔b=s.heap.objs.size∨b∈frs outer:=fun b=>by
  show b∈s.heap.objs.size::frs outer↔_;exact List.mem_cons
 have nL:∀ {b:Addr} {o:Obj},s.heap.get? b=some o→b≠s.heap.objs.size:=fun e=>Nat.ne_of_lt (Heap.lt_size e);have bs:=I.base;have nx:∀ b:Addr,b∉([]:List Addr):=fun b=>by simp
 refine ⟨⟨fun b o e n m x=>?_,fun b o e n m x=>?_,fun b o e n x=>?_,fun b o e x=>?_,fun b xs q=>C'.un.tups b xs (bs.tups b xs q),fun b o u q=>C'.un.frzs b o u (bs.frzs b o u q),fun b ps q=>?_⟩,C'.hok,fun b m=>C'.frf b ((hfs b).mpr (.inr m)),fun b o e c n=>?_⟩
 ·have e1:=bs.keep b o e n m (nx b);exact C'.un.keep b o e1 (bs.free b o e n (nx b)) (fun z=>((hfs b).mp z).elim (nL e) m) (nx b)
 ·obtain ⟨sl,e1⟩:=bs.slot b o e n m (nx b);obtain ⟨sl2,e2⟩:=C'.un.slot b _ e1 (bs.free b o e n (nx b)) ((hfs b).mpr (.inr m)) (nx b);exact ⟨sl2,e2⟩
 ·obtain ⟨o1,e1⟩:=bs.there b o e (nx b);exact C'.un.free b o1 e1 (bs.free b o e n (nx b)) (nx b)
 ·obtain ⟨o1,e1⟩:=bs.there b o e (nx b);exact C'.un.there b o1 e1 (nx b)
 ·obtain ⟨m1,e1⟩:=bs.tbls b ps q;obtain ⟨m2,e2⟩:=C'.un.tbls b _ e1;exact ⟨m1++m2,by rw [e2,Array.append_assoc]⟩
 ·refine C'.cov b o e (c.imp (fun z=>z) fun ⟨o',e'⟩=>bs.there b o' e' (nx b)) fun z=>?_;rcases (hfs b).mp z with z | z
  ·rcases c with c | ⟨o',e'⟩
   ·exact c (C'.frf b ((hfs b).mpr (.inl z)))
   ·exact nL e' z
  ·exact n z
theorem passX:zdk (CX1 P w) (cxOf (CX1 P w) P w K mg base N qual scope f cd A outer s H E) E:=by
 rintro pins σ H1 s1 e s2 I ⟨a,cls,H2,rfl,⟨os,bare,B,a0,F,C⟩,q⟩;have hfr:=I.ok.frames;show wpAny (model P w) (A.deeper (envOfC qual scope s.heap.objs.size f cd)) (leaving (envOfC qual scope s.heap.objs.size f cd) (.ref a)) _ _ s2;refine wpAny_leaves_onW (L:=s.heap.objs.size) hfr rfl F fun h' F' up=>?_;exact ⟨a,cls,H2,rfl,⟨os.trans I.os,bare,B,a0,F',zjo I C F.2.2.1 F'.1 up⟩,q⟩
def ExcC (K:PySem.W.Frag) (C:Addr):Prop:=PySem.W.excIn K C [.type "ValueError",.type "Exception",.type "BaseException",.type "object"] "ValueError.__new__" = true
def zk2 (E:XK) (C:Addr):TS:=fun _ _ H=>E (.ref C) none H
theorem znw {h:Heap} {C:Addr} (X:K.In h) (q:ExcC K C):∃ nm qn N bs bm hd sn sub ab col dd k0 k1 k2 k3 k5 mN,
  h.get? C=some (excClassObj nm qn C N bs bm hd sn sub ab col dd k0 k1 k2 k3 k5 "ValueError.__new__")∧h.Ns N mN∧mN "__init__" = none∧OwnTail h [.type "ValueError",.type "Exception",.type "BaseException",.type "object"] bm:=by
 unfold ExcC PySem.W.excIn at q;split at q
 next dd cd sl ho =>
  split at q
  next C' bm k0 k1 k2 k3 n k5 hm hs =>
   obtain ⟨nm,bs,mro,ns,qn,hd,sn,sub,ab,col,del⟩:=cd;obtain ⟨ls⟩:=sl;simp only [Bool.and_eq_true,beq_iff_eq,Bool.not_eq_true'] at q hm hs;obtain ⟨⟨⟨⟨⟨q1,q2⟩,q3⟩,q4⟩,q5⟩,q6⟩:=q;subst q1 q2 q3 hm hs;exact ⟨nm,qn,ns,bs,bm,hd,sn,sub,ab,col,dd,k0,k1,k2,k3,k5,_,X _ _ ho,.of_isNs (PySem.W.isNs_of_in X q5),PySem.W.nsMap_none_of_in X q5 q6,PySem.W.tail_of_in X q4⟩
  next=>cases q
 next=>cases q
theorem zkx {env:Env} {l:List Env} {b:Addr} (z:b∈frs l):b∈frs (env::l):=by
 obtain ⟨e,m,q⟩:=List.mem_filterMap.mp z;exact List.mem_filterMap.mpr ⟨e,List.mem_cons_of_mem _ m,q⟩
theorem zfh {h b0 B:Heap}:∀ {l:List Env},h.FunFrames b0 l→(∀ b∈frs l,B.get? b=none)→h.FunFrames B l
 | [],_,_=>trivial
 | env::l,⟨k,⟨L,o,hf,_,ho,hd⟩,r⟩,hb=>⟨k,⟨L,o,hf,hb L (List.mem_filterMap.mpr ⟨env,List.mem_cons_self,hf⟩),ho,hd⟩,zfh r fun b z=>hb b (zkx z)⟩
theorem zeh {x msg:Str} {np cpos pos kpos:Pos} {j:Nat} {C:Addr} (hg:Gl (cxOf (CX1 P w) P w K mg base N qual scope f cd A outer s H E) x) (hm:mg x=some (.ref C)) (hc:ExcC K C) (hdb:(x == ("__debug__" : Str))=false:=by decide) :
  PS (cxOf (CX1 P w) P w K mg base N qual scope f cd A outer s H E) (.Raise (some (.Call (.Name x np) [.Constant (.str msg) j kpos] [] cpos)) none pos) (zk2 E C):=by
 intro pins s1 σ H1 D I h;obtain ⟨nm,qn,Nn,bs,bm,hd,sn,sub,ab,col,dd,k0,k1,k2,k3,k5,mN,hC,hN,hni,T⟩:=znw I.mod.kin hc;refine wpAny_Raise_call_subT PySem.F.excBase_ValueError (C:=C) (nm:=nm) (q:=qn) (N:=Nn) (bs:=bs) (bm:=bm) (hdct:=hd) (sn:=sn) (sub:=sub) (ab:=ab) (col:=col) (dd:=dd) (k0:=k0) (k1:=k1) (k2:=k2) (k3:=k3) (k5:=k5)
  (mN:=mN) (T.hasType PySem.F.excBase_ValueError.hasBase) (I.ok.hd rfl) rfl hni (zda I hg hm ⟨rfl,?_⟩ hdb)
 refine Calls.evalArgs_plain (thn ((zaa zaQ pa_nil:PA (cxOf (CX1 P w) P w K mg base N qual scope f cd A outer s H E) [.Constant (.str msg) j kpos] _) cpos pins s1 σ H1 (fun vs H2=>vs.length=1∧H2=H1) I ⟨rfl,rfl⟩) fun us s2 ⟨vs,H2,I2,r,hl,eH⟩=>?_);subst eH;refine ⟨rfl,by rw [← r.length,hl];decide,I2.bk _ _ hC,hN.keeps I2.bk,T.keeps I2.bk,fun h' e hx=>?_⟩;have hfr:=I2.ok.frames;have hsf:∀ b∈frs (envOfC qual scope s.heap.objs.size f cd::outer),H2 b=none:=I2.stkFree;have hst:s2.heap.FunFrames (cutH s2.heap (frs (envOfC qual scope s.heap.objs.size f cd::outer))) (envOfC qual scope s.heap.objs.size f cd::outer):=zfh I2.stack fun b hb=>by rw [zfB,if_pos hb]
 show wpAny (model P w) (A.deeper (envOfC qual scope s.heap.objs.size f cd)) (leaving (envOfC qual scope s.heap.objs.size f cd) (.ref e)) _ _ { s2 with heap:=h' };refine wpAny_leaves_madeW (L:=s.heap.objs.size) hfr rfl (fun b o q=>by rw [zfB] at q;split at q;cases q;exact q) hst hx fun h'' tt F' _ _ up=>?_;refine ⟨e,.ref C,H2,rfl,⟨I2.os,I2.bare,_,_,F',zjo I2 (h2:=h') ⟨Un.kept hx.keeps,I2.hok.kept hx.keeps,hsf,fun b o q c n=>?_⟩ (hst.of_keeps fun b o q _=>⟨o,hx.keeps b o q,rfl⟩) F'.1 up⟩,h⟩;have e1:∃ o1,s2.heap.get? b=some o1:=by
  rcases c with c | c
  ·cases hb:H2 b with
   | none=>exact absurd hb c
   | some u=>exact zk1 (I2.hok b u hb)
  ·exact c
 obtain ⟨o1,e1⟩:=e1;have e2:=hx.keeps b o1 e1;rw [q] at e2;cases e2
 rw [zfB,if_neg n];exact e1
end
end L2
namespace L2
open PySem PySem.Spec PyProof.Rows
section
variable {P:Program} {w:World} {K:PySem.W.Frag} {mg:Str→Option Value} {base:Heap}
theorem Fun.okX {x qual:Str} {st:Stmt} {f:Addr} {fd:FuncData} {N ps:List Str} {k:Nat} {sp:Sp} (F:Fun K x qual st f fd) (S:zam N ps (zab st)) (len:∀ vs H Q E,sp vs H Q E→vs.length=ps.length)
  (hb:∀ (cdv:Value) (A:Around) (outer:List Env) (s:Shared) (H:Hp) (vs:List V) (Q:VK) (E:XK),Room k (A.deeper (envOfC qual (zab st) s.heap.objs.size f cdv))→sp vs H Q E →
   ∃ t,PSs (cxOf (CX1 P w) P w K mg base N qual (zab st) f cdv A outer s H E) (zal st) t∧t ⟨fun _ H'=>Q .non H',Q,fun _ _=>False,fun _ _=>False⟩ (start N vs) H):FnOk P w K mg base (CX1 P w) (k+1) f fd ps sp:=by
 obtain ⟨oc,od,kV,doc,pm,an,cdv,ct,osl,rfl,lk,hcd⟩:=F.ex;exact zmv lk hcd S len fun A outer s H vs Q E hr hsp=>hb cdv A outer s H vs Q E hr hsp
end
section
variable {X:Cx} {pins:List (Addr×Obj)} {σ:St} {H:Hp} {s:Shared}
def HS (X:Cx) (pins:List (Addr×Obj)) (σ:St) (H:Hp) (a:Addr) (cls:Value) (s:Shared):Prop:=∃ s0 H0,Inv X pins σ H0 s0∧Fly X.prog X.w X.stack H0 s0 H a cls s
theorem HS.inv {a:Addr} {cls:Value} (h:HS X pins σ H a cls s):Inv X pins σ H s:=by
 obtain ⟨s0,H0,I,os,bare,B,a0,F,C⟩:=h;exact I.call' os C.un C.hok bare fun b z=>absurd z (by simp)
theorem HS.step {a:Addr} {cls:Value} (h:HS X pins σ H a cls s) {Q:Unit→Shared→Prop} {A:Around} {E:Value→Shared→Prop} (q:∀ h',HS X pins σ H a cls { s with heap:=h' }→Q () { s with heap:=h' }):wpAny (model X.prog X.w) A (setFlight (.ref a) none) Q E s:=by
 obtain ⟨s0,H0,I,os,bare,B,a0,F,C⟩:=h;exact lands_againW F fun h' F' up=>q h' ⟨s0,H0,I,os,bare,B,a0,F',C.step F.2.2.1 F'.1 up⟩
def WX (X:Cx) (σ:St) (cls:Value) (H:Hp):Prop:=∀ pins a s,HS X pins σ H a cls s→X.xe (.ref a) s
def EX (X:Cx) (σ:St):XK:=fun cls _ H=>WX X σ cls H
variable {k:Nat} {f C:Addr} {fd:FuncData} {ps:List Str} {sp:Sp} {x m:Str} {p pos apos:Pos} {e o:Expr} {es:List Expr} {ta:TE} {t:TA}
theorem zlZ {Q:VK} {us:List Value} {vs:List V} (F:FnOk X.prog X.w X.K X.mg X.base (CX1 X.prog X.w) k f fd ps sp) (hr:Room k X.A) (hb:Binds X.K fd ps []) (I:Inv X pins σ H s) (r:Vals vs us) (h:sp (vs++[]) H Q (EX X σ)) :
  wpAny (model X.prog X.w) X.A (call (.ref f) us) (EP X pins σ Q) X.xe s:=by
 have r2:Vals (vs++[]) (us++[]):=r.append .nil;have hl:(us++[]).length=ps.length:=by rw [← r2.length];exact F.len _ _ _ _ h
 refine wpAny_call (codeAny_mono (F.run X.A X.stack s H ⟨us,[]⟩ (us++[]) (vs++[]) Q (EX X σ) hr I.env0 (hb s us I.kIn hl) r2 h) fun r s' hq=>?_)
 match r,hq with
 | .error _,hq =>
   obtain ⟨a,cls,H',rfl,fly,q⟩:=hq;exact q pins a s' ⟨s,H,I,fly⟩
 | .ok (.ret u),hq=>exact I.after hq
 | .ok .next,hq=>exact False.elim hq
 | .ok .brk,hq=>exact False.elim hq
 | .ok .cont,hq=>exact False.elim hq
def zk3 (X:Cx) (sp:Sp) (t:TA):TE:=fun σ H Q=>zj1 sp [] (EX X σ) t σ H Q
theorem zky (F:FnOk X.prog X.w X.K X.mg X.base (CX1 X.prog X.w) k f fd ps sp) (hr:Room k X.A) (hg:Gl X x) (hm:X.mg x=some (.ref f)) (hk:PySem.W.keepIn X.K (.ref f)=true) (hb:Binds X.K fd ps []) (ha:PA X (e::es) t)
  (hdb:(x == ("__debug__" : Str))=false:=by decide) (he:starEach (e::es) X.env=(false,eval e X.env)::starEach es X.env:=by rfl) (hpl:(backTo pos (starEach es X.env)).any (·.1)=false:=by rfl) :
  PE X (.Call (.Name x p) (e::es) [] pos) (zk3 X sp t):=by
 intro pins s σ H Q I h;refine wpAny_Call_Name_kw (zda I hg hm ?_ hdb);refine PySem.W.callWith_K (h₀:=X.base) I.ok.mod.kin hk (thn (ha pos pins s σ H _ I h) fun us s1 ⟨vs,H1,I1,r,q⟩=>⟨I1.kIn,?_⟩) he hpl;exact zlZ F hr hb I1 r q
abbrev Cx.held (X:Cx) (v:Option Value):Cx:={ X with A:=X.A.mark v,calm:=false }
theorem Inv.held (I:Inv X pins σ H s) (v:Option Value):Inv (X.held v) pins σ H s :=
 ⟨⟨I.ok.mod,I.ok.kind,I.ok.glob,I.ok.blt,I.ok.above,I.ok.inj,I.ok.has,I.ok.cab,fun z=>(by cases z),I.ok.frames,I.ok.stk,I.ok.exf,I.ok.bs,I.ok.bsz,I.ok.noex,I.ok.exfs,I.ok.funs,I.ok.frf⟩,I.os,I.bare,I.base,I.loc,I.cell,I.free,I.freeC,I.pin,I.hok,I.len⟩
theorem Inv.unheld {v:Option Value} (ok:X.Ok) (I:Inv (X.held v) pins σ H s):Inv X pins σ H s:=⟨ok,I.os,I.bare,I.base,I.loc,I.cell,I.free,I.freeC,I.pin,I.hok,I.len⟩
theorem SP.unheld {v:Option Value} (ok:X.Ok) {D:Ends} {f:Flow} {s':Shared} (h:SP (X.held v) pins D f s'):SP X pins D f s':=by
 cases f with
 | next=>obtain ⟨σ',H',I,q⟩:=h;exact ⟨σ',H',I.unheld ok,q⟩
 | brk=>obtain ⟨σ',H',I,q⟩:=h;exact ⟨σ',H',I.unheld ok,q⟩
 | cont=>obtain ⟨σ',H',I,q⟩:=h;exact ⟨σ',H',I.unheld ok,q⟩
 | ret u=>obtain ⟨v,σ',H',I,r,q⟩:=h;exact ⟨v,σ',H',I.unheld ok,r,q⟩
def PH (X:Cx) (hs:List ExceptHandler) (th:Value→TS):Prop:=∀ pins s σ H D a cls,HS X pins σ H a cls s→th cls D σ H→wpAny (model X.prog X.w) X.A (handleBy (.ref a) X.env hs) (SP X pins D) X.xe s
def tCl (K:PySem.W.Frag) (C:Addr) (ts:TS) (th:Value→TS):Value→TS:=fun cls D σ H=>∃ b,PySem.W.exmOne K cls (.ref C)=some b∧if b=true then ts D σ H else th cls D σ H
theorem ph_nil:PH X [] (fun _=>tNever):=fun _ _ _ _ _ _ _ _ h=>h.elim
theorem zex {np:Pos} {b₀:Stmt} {suite:List Stmt} {rest:List ExceptHandler} {ts:TS} {th:Value→TS} (hno:∀ e s,¬X.xe e s) (hg:Gl X x) (hm:X.mg x=some (.ref C)) (hs:∀ v,PSs (X.held v) (b₀::suite) ts) (hr:PH X rest th) (hdb:(x == ("__debug__" : Str))=false:=by decide) :
  PH X (.ExceptHandler (some (.Name x np)) none (b₀::suite) pos::rest) (tCl X.K C ts th):=by
 intro pins s σ H D a cls hh hq;obtain ⟨b,hx,q⟩:=hq;have I:=hh.inv;have LT:PySem.W.Looks (model X.prog X.w) s.heap (typeOf (.ref a)) cls:=by
  obtain ⟨s0,H0,_,_,_,B,a0,F,_⟩:=hh;obtain ⟨ob,hob,hc⟩:=F.there;subst hc;exact (PySem.W.Looks.ld hob).andThen .now
 refine wpAny_handleBy_cons (codeAny_handlers_test (zda (I.held (some (.ref a))) hg hm ?_ hdb)) (by intro z;cases z);refine (PySem.W.exm_one (K:=X.K) I.kIn LT hx).here ?_
 cases b with
 | true =>
   refine codeAny_handlers_suite (hh.step fun h' hh'=>?_);exact wpAny_mono (hs _ pins _ σ H D (hh'.inv.held _) q) (fun f s2 z=>z.unheld I.ok) fun e s2 z=>(hno e s2 z).elim
 | false=>exact hr pins s σ H D a cls hh q
def tTry (X:Cx) (tb:(Value→Shared→Prop)→List (Addr×Obj)→TS) (th:Value→TS):TS:=fun D σ H=>∀ xe pn,(∀ cls σ' H',th cls D σ' H'→WX { X with xe:=xe,pn:=pn } σ' cls H')→tb xe pn D σ H
theorem znx {body:List Stmt} {h0:ExceptHandler} {hs:List ExceptHandler} {tb:(Value→Shared→Prop)→List (Addr×Obj)→TS} {th:Value→TS} (hst:X.stack=X.env::X.outer∧X.env.frame=some X.env.locals)
  (hb:∀ xe pn,PSs { X with xe:=xe,pn:=pn } body (tb xe pn)) (hh:PH X (h0::hs) th):PS X (.Try body (h0::hs) [] [] pos) (tTry X tb th):=by
 intro pins s σ H D I hq;have hpin:∀ {xe pins' σ' H' s'},Inv { X with xe:=xe,pn:=X.pn++pins } pins' σ' H' s'→Inv X pins σ' H' s':=fun J =>
  ⟨I.ok,J.os,J.bare,J.base,J.loc,J.cell,J.free,J.freeC,fun p hp=>J.pin p (List.mem_append_left _ hp),J.hok,J.len⟩
 have I':∀ xe,Inv { X with xe:=xe,pn:=X.pn++pins } [] σ H s:=fun xe =>
  ⟨⟨I.ok.mod,I.ok.kind,I.ok.glob,I.ok.blt,I.ok.above,I.ok.inj,I.ok.has,I.ok.cab,I.ok.hd,I.ok.frames,I.ok.stk,I.ok.exf,I.ok.bs,I.ok.bsz,I.ok.noex,I.ok.exfs,I.ok.funs,I.ok.frf⟩,I.os,I.bare,I.base,I.loc,I.cell,I.free,I.freeC,fun p hp=>I.pin p (by simpa using hp),I.hok,I.len⟩
 let xe:Value→Shared→Prop:=fun e s₁=>wpAny (model X.prog X.w) X.A (noteFrame e X.env) (fun _ s₂=>wpAny (model X.prog X.w) X.A (setFlight e none) (fun _ s₃=>wpAny (model X.prog X.w) X.A (handleBy e X.env (h0::hs)) (SP X pins D) X.xe s₃) X.xe s₂) X.xe s₁
 refine wpAny_Try_except (wpAny_mono (hb xe (X.pn++pins) [] s σ H D (I' xe) (hq xe (X.pn++pins) fun cls σ' H' z pins' a s' hs'=>?_)) (fun f s1 z=>?_) fun e s1 z=>z)
 ·obtain ⟨s0,H0,J,os,bare,B,a0,F,C⟩:=hs';have hfr:X.A.frames=some (X.env::X.outer):=by rw [← hst.1];exact I.ok.frames
  have F':Heap.FlyingW B (X.env::X.outer) a cls a0 s'.heap:=by rw [← hst.1];exact F
  show wpAny (model X.prog X.w) X.A (noteFrame (.ref a) X.env) _ X.xe s';refine wpAny_looks_onW hfr hst.2 F' fun h4 F4 up4=>wpAny_landsW F4 fun h5 F5 up5=>?_;exact hh pins _ σ' H' D a cls ⟨s0,H0,hpin J,os,bare,B,a0,by rw [hst.1];exact F5,C.step F.2.2.1 F5.1 (up4.trans up5)⟩ z
 ·have back:SP X pins D f s1:=by
   cases f with
   | next=>obtain ⟨σ',H',J,q⟩:=z;exact ⟨σ',H',hpin J,q⟩
   | brk=>obtain ⟨σ',H',J,q⟩:=z;exact ⟨σ',H',hpin J,q⟩
   | cont=>obtain ⟨σ',H',J,q⟩:=z;exact ⟨σ',H',hpin J,q⟩
   | ret u=>obtain ⟨v,σ',H',J,r,q⟩:=z;exact ⟨v,σ',H',hpin J,r,q⟩
  cases f with
  | next=>exact wpAny_execs_nil back
  | brk=>exact back
  | cont=>exact back
  | ret u=>exact back
end
end L2
namespace L2
open PySem PySem.Spec PyProof.Rows
structure XAd where
 OutOfTime:Addr
 UnknownNumber:Addr
 NotDue:Addr
 OutOfBounds:Addr
 Full:Addr
 ReadError:Addr
section
variable {X:Cx} {K:PySem.W.Frag} {C:Addr} {m:Str} {sp:Sp} {ta:TE} {tl:TA} {σ:St} {H:Hp} {Q:VK} {E:XK} {D:Ends} {tb:(Value→Shared→Prop)→List (Addr×Obj)→TS} {th:Value→TS} {ts:TS} {cls:Value}
theorem zjp (h:tl σ H fun vs H1=>sp vs H1 Q (EX X σ)):zk3 X sp tl σ H Q:=zkY h
theorem zjq (h:E (.ref C) none H):zk2 E C D σ H:=h
theorem zoh (h:∀ xe pn,(∀ cls σ' H',th cls D σ' H'→EX { X with xe:=xe,pn:=pn } σ' cls none H')→tb xe pn D σ H):tTry X tb th D σ H:=h
theorem zkz (e:PySem.W.exmOne K cls (.ref C)=some true) (h:ts D σ H):tCl K C ts th cls D σ H:=⟨true,e,by rw [if_pos rfl];exact h⟩
theorem zgc (e:PySem.W.exmOne K cls (.ref C)=some false) (h:th cls D σ H):tCl K C ts th cls D σ H:=⟨false,e,by rw [if_neg (by decide)];exact h⟩
end
end L2
namespace L2
open PySem PySem.Spec PyProof.Rows
inductive Rf where | time | unknown | notdue | bounds | full
def XAd.at (xa:XAd):Rf→Addr
 | .time=>xa.OutOfTime
 | .unknown=>xa.UnknownNumber
 | .notdue=>xa.NotDue
 | .bounds=>xa.OutOfBounds
 | .full=>xa.Full
section
variable {K:PySem.W.Frag} {H:Hp} {Q:VK} {a b:Str}
theorem zht (q:Q (.bl (decide (a=b))) H):rEq2 K (.str a) (.str b) H Q:=by
 refine .inl (.inl ⟨rfl,?_⟩);simpa using q
end
end L2
namespace Prf
open PySem PySem.Spec PyProof.Rows L2
def whyP (st:ExS) (h:Int):Option Rf:=if st.dl.isSome=true then some .time else if 1≤h∧h≤6 then (if st.hs.length < 10 then none else some .full) else some .unknown
def whyR (st:ExS) (h l:Int):Option Rf:=if st.dl.isSome=true then some .time else if 0≤h∧h≤6 then (if 0≤l∧l≤30 then (if st.rs.length < 8 then none else some .full) else some .bounds) else some .unknown
def whyS (st:ExS) (s:Int):Option Rf:=if st.dl.isSome=true then some .time else if 0≤s∧s≤100 then none else some .bounds
def whyD (st:ExS):Option Rf:=if st.dl.isSome=true then some .time else none
theorem zgd {st:ExS} {h:Int} (hd:st.dl=none) (hp:1≤h∧h≤6∧st.hs.length < 10):whyP st h=none:=by
 unfold whyP;rw [hd,if_neg (by decide),if_pos ⟨hp.1,hp.2.1⟩,if_pos hp.2.2]
theorem zge {st:ExS} {h l:Int} (hd:st.dl=none) (hp:0≤h∧h≤6∧0≤l∧l≤30∧st.rs.length < 8):whyR st h l=none:=by
 unfold whyR;rw [hd,if_neg (by decide),if_pos ⟨hp.1,hp.2.1⟩,if_pos ⟨hp.2.2.1,hp.2.2.2.1⟩,if_pos hp.2.2.2.2]
theorem zjr {st:ExS} {s:Int} (hd:st.dl=none) (hp:0≤s∧s≤100):whyS st s=none:=by
 unfold whyS;rw [hd,if_neg (by decide),if_pos hp]
inductive Dd where
 | paper (h:Int)
 | reader (h l:Int)
 | step (s:Int)
def Dd.why (st:ExS):Dd→Option Rf
 | .paper h=>whyP st h
 | .reader h l=>whyR st h l
 | .step s=>whyS st s
def Dd.done (st:ExS):Dd→ExS
 | .paper h=>{ st with hs:=st.hs++[h] }
 | .reader h l=>{ st with rs:=st.rs++[[h,l]] }
 | .step s=>{ st with step:=s }
def Dd.ans (st:ExS):Dd→Int
 | .paper _=>(st.hs.length:Int)+1
 | .reader _ _=>(st.rs.length:Int)+1
 | .step s=>s
theorem zjs {st:ExS} (h:¬st.dl.isSome=true):st.dl=none:=by
 cases e:st.dl with
 | none=>rfl
 | some _=>rw [e] at h;exact absurd rfl h
section
variable {C:Addr} {H0 H H' H1 H2:Hp} {x a b r:Addr} {F F':Addr→Prop} {st st':ExS} {ps:List Addr} {hs:List Int} {rs:List (List Int)} {h:Int} {row:List Int}
theorem InB.addR {h l:Int} (B:InB hs rs) (hl:rs.length < 8) (h1:0≤h∧h≤6) (l1:0≤l∧l≤30):InB hs (rs++[[h,l]]):=by
 refine ⟨B.lp,by rw [List.length_append,List.length_singleton];omega,B.hh,fun i hi=>?_,fun i hi=>?_,fun i hi=>?_⟩ <;>
 ·rw [List.length_append,List.length_singleton] at hi
  by_cases e:i < rs.length
  ·rw [zas e];first | exact B.r2 i e | exact B.rh i e | exact B.rl i e
  ·have:i=rs.length:=by omega
   subst this;rw [zax];first | rfl | exact h1 | exact l1
theorem Dd.inb {d:Dd} (B:InB st.hs st.rs) (h:d.why st=none):InB (d.done st).hs (d.done st).rs:=by
 cases d with
 | paper h' =>
   have h:whyP st h'=none:=h;unfold whyP at h
   by_cases c1:st.dl.isSome=true
   ·rw [if_pos c1] at h;cases h
   rw [if_neg c1] at h
   by_cases c2:1≤h'∧h'≤6
   ·rw [if_pos c2] at h
    by_cases c3:st.hs.length < 10
    ·exact InB.addP B c3 c2
    ·rw [if_neg c3] at h;cases h
   ·rw [if_neg c2] at h;cases h
 | reader h' l' =>
   have h:whyR st h' l'=none:=h;unfold whyR at h
   by_cases c1:st.dl.isSome=true
   ·rw [if_pos c1] at h;cases h
   rw [if_neg c1] at h
   by_cases c2:0≤h'∧h'≤6
   ·rw [if_pos c2] at h
    by_cases c3:0≤l'∧l'≤30
    ·rw [if_pos c3] at h
     by_cases c4:st.rs.length < 8
     ·exact InB.addR B c4 c2 c3
     ·rw [if_neg c4] at h;cases h
    ·rw [if_neg c3] at h;cases h
   ·rw [if_neg c2] at h;cases h
 | step s=>exact B
end
end Prf
namespace L2
open PySem PySem.Spec PyProof.Rows
section
variable {X:Cx} {K:PySem.W.Frag}
variable {H:Hp} {Q:VK} {σ:St} {p:Addr} {xs:List V} {i:Int} {v:V} {tl:TA}
end
end L2
namespace Prf
open PySem PySem.Spec PyProof.Rows L2
def one (b:Bool) (w:Str):List Str:=if b=true then [w] else []
end Prf
namespace L2
section
open PySem PySem.Calls PyProof.Rows PySem.W PySem.Builtin PySem.Builtin.ObjectAttr PySem.Builtin.Getset_descriptor
variable {prog:Program} {w:World} {A:Around} {E:Value→Shared→Prop} {h:Heap} {g:Array GenState} {d:Drawn} {t:Nat} {os:OsState} {K:Frag} {C a:Addr} {o:Obj}
end
open PySem PySem.Spec PyProof.Rows
section
variable {X:Cx} {pins:List (Addr×Obj)} {σ:St} {H:Hp} {s:Shared} {K:PySem.W.Frag}
end
end L2
namespace Prf
open PySem PySem.Spec PyProof.Rows L2
section
variable {st:ExS} {b:Bool} {k r p h l s:Int}
end
end Prf
namespace L2
open PySem PySem.Builtin PySem.Builtin.Str PySem.StrLaws
theorem zgM (x:Str) (c:Nat):∀ (k i:Nat) (arr:Array Nat) (free:Nat),arr.size≤i→free≤i →
  (forIn (List.range' i k) (arr,free) (occBody x ⟨#[c]⟩ x.length (x.length+1))).run.fst.toList=arr.toList++(List.range' i k).filter fun j=>decide (x.cps.toList[j]? = some c)
 | 0,i,arr,free,_,_=>by simp
 | k+1,i,arr,free,h1,h2=>by
   rw [List.range'_succ,List.forIn_cons,List.filter_cons];unfold occBody
   by_cases hc:x.cps.toList[i]? = some c
   ·have hs:=(subAt_one x c i).mpr hc;have hlt:i < x.length:=by
     obtain ⟨hlt,_⟩:=List.getElem?_eq_some_iff.mp hc;simpa [Str.length] using hlt
    rw [if_pos ⟨⟨⟨by show arr.size < _;omega,h2⟩,hs.1⟩,hs.2⟩,if_pos (decide_eq_true hc)];have ih:=zgM x c k (i+1) (arr.push i) (i+1) (by rw [Array.size_push];omega) (Nat.le_refl _);show (forIn (List.range' (i+1) k) (arr.push i,i+1) (occBody x ⟨#[c]⟩ x.length (x.length+1))).run.fst.toList=_;rw [ih,Array.toList_push,List.append_assoc];rfl
   ·rw [if_neg (fun z=>hc ((subAt_one x c i).mp ⟨z.1.2,z.2⟩)),if_neg (by simpa using hc)];exact zgM x c k (i+1) arr free (by omega) (by omega)
def posC (x:Str) (c a k:Nat):List Nat:=(List.range' a k).filter fun j=>decide (x.cps.toList[j]? = some c)
theorem zbo (x:Str):x.cps.toList.length=x.length:=by simp [Str.length]
theorem zl0 (x:Str) (c:Nat):occurrences x ⟨#[c]⟩ 0 x.length (x.length+1)=posC x c 0 x.length:=by
 rw [occ_eq,zgM x c _ 0 #[] 0 (Nat.le_refl _) (Nat.le_refl _)];show []++posC x c 0 (x.length+1)=_;rw [List.nil_append];unfold posC;rw [List.range'_concat,List.filter_append,List.filter_cons,if_neg,List.filter_nil,List.append_nil];rw [List.getElem?_eq_none (by rw [zbo];omega)];simp
def zfC (c:Nat):List (List Nat)→List Nat
 | []=>[]
 | [w]=>w
 | w::r=>w++c::zfC c r
theorem zhu (x:Str) (a b:Nat):(strSub x a b).cps.toList=(x.cps.toList.take b).drop a:=by
 simp [strSub,List.drop_take]
theorem zjt {x y:Str} (h:x.cps.toList=y.cps.toList):x=y:=by
 obtain ⟨a⟩:=x;obtain ⟨b⟩:=y;exact congrArg Str.mk (Array.toList_inj.mp h)
theorem zgf (x:Str) (c:Nat):∀ (ws:List Str) (a:Nat),ws≠[]→(∀ w∈ws,c∉w.cps.toList)→x.cps.toList.drop a=zfC c (ws.map (·.cps.toList))→a≤x.length→partsFrom x 1 a (posC x c a (x.length-a))=ws
 | [],_,h,_,_,_=>absurd rfl h
 | [w],a,_,hn,hd,ha=>by
   have hd:x.cps.toList.drop a=w.cps.toList:=hd;have e:posC x c a (x.length-a)=[]:=by
    unfold posC;rw [List.filter_eq_nil_iff];intro j hj;have hj:=List.mem_range'_1.mp hj;intro z;have z:=of_decide_eq_true z;have:(x.cps.toList.drop a)[j-a]? = some c:=by rw [List.getElem?_drop,show a+(j-a)=j by omega];exact z
    rw [hd] at this;exact hn w (by simp) (List.mem_of_getElem? this)
   rw [e];show [strSub x a x.length]=[w]
   congr 1
   refine zjt ?_;rw [zhu,← zbo,List.take_length,hd]
 | w::w2::r,a,_,hn,hd,ha=>by
   have hd:x.cps.toList.drop a=w.cps.toList++c::zfC c ((w2::r).map (·.cps.toList)):=hd;have hlen:=congrArg List.length hd;rw [List.length_drop,zbo,List.length_append,List.length_cons,zbo] at hlen;have e:posC x c a (x.length-a)=(a+w.length)::posC x c (a+w.length+1) (x.length-(a+w.length+1)):=by
    unfold posC;rw [show x.length-a=w.length+((x.length-(a+w.length+1))+1) by omega,← List.range'_append_1,List.filter_append,List.range'_succ,List.filter_cons];have e1:(List.range' a w.length).filter (fun j=>decide (x.cps.toList[j]? = some c))=[]:=by
     rw [List.filter_eq_nil_iff];intro j hj z;have hj:=List.mem_range'_1.mp hj;have z:=of_decide_eq_true z;have:(x.cps.toList.drop a)[j-a]? = some c:=by rw [List.getElem?_drop,show a+(j-a)=j by omega];exact z
     rw [hd,List.getElem?_append_left (by rw [zbo];omega)] at this;exact hn w (by simp) (List.mem_of_getElem? this)
    have e2:x.cps.toList[a+w.length]? = some c:=by
     have:(x.cps.toList.drop a)[w.length]? = some c:=by
      rw [hd,List.getElem?_append_right (by rw [zbo];omega),zbo,Nat.sub_self];rfl
     rw [List.getElem?_drop] at this;exact this
    rw [e1,if_pos (decide_eq_true e2),List.nil_append]
   rw [e];show strSub x a (a+w.length)::partsFrom x 1 (a+w.length+1) _=_;have hd2:x.cps.toList.drop (a+w.length+1)=zfC c ((w2::r).map (·.cps.toList)):=by
    rw [show a+w.length+1=a+(w.length+1) by omega,← List.drop_drop,hd,← zbo w,List.drop_append,List.drop_eq_nil_of_le (by omega),show w.cps.toList.length+1-w.cps.toList.length=1 by omega];rfl
   rw [zgf x c (w2::r) (a+w.length+1) (by simp) (fun v hv=>hn v (List.mem_cons_of_mem _ hv)) hd2 (by omega)]
   congr 1
   refine zjt ?_;rw [zhu,List.drop_take,hd,show a+w.length-a=w.length by omega,← zbo,List.take_left]
theorem zkA (x:Str):1≤Builtin.Str.strKind x:=by
 unfold Builtin.Str.strKind;split
 ·decide
 ·split <;> decide
theorem zkB {ws:List Str} (h0:ws≠[]) (hn:∀ w∈ws,32∉w.cps.toList) {x:Str} (hx:x.cps.toList=zfC 32 (ws.map (·.cps.toList))) (hl:1≤x.length):Txt.split x (Str.ofString " ")=ws:=by
 have hs:(Str.ofString " ")=⟨#[32]⟩:=by decide +kernel
 have hp:=zgf x 32 ws 0 h0 hn (by rw [List.drop_zero];exact hx) (Nat.zero_le _);rw [Nat.sub_zero] at hp;rw [hs];unfold Txt.split;have k1:=zkA x;have k2:Builtin.Str.strKind (⟨#[32]⟩:Str)=1:=by decide +kernel
 rw [if_neg (by
  rw [Bool.or_eq_true];rintro (z | z)
  ·have:x.length < 1:=of_decide_eq_true z;omega
  ·have:=of_decide_eq_true z;omega),zl0]
 split
 next he =>
  rw [List.isEmpty_iff] at he;rw [he] at hp;rw [← hp];show [x]=[strSub x 0 x.length];rw [sub_whole]
 next=>
  rw [partsBetween_eq];exact hp
theorem app_list (a y:Str):(a++y).cps.toList=a.cps.toList++y.cps.toList:=PySem.W.KT.app_list a y
abbrev tS (i:Int):Str:=Str.ofString (toString i)
theorem zdo (m:Nat):∀ c∈(Str.ofString (toString ((m:Nat):Int))).cps.toList,48≤c∧c≤57:=by
 intro c hc;rw [PySem.W.KIN.signs_num] at hc;obtain ⟨ch,hch,e⟩:=List.mem_map.mp hc;have r:=PyProof.Rows.digit_range (Nat.isDigit_of_mem_toDigits (by decide) (by decide) hch);rw [← e];exact r
theorem zk4 (m:Nat):(Str.ofString (toString ((m:Nat):Int))).cps.toList≠[]:=by
 rw [PySem.W.KIN.signs_num];intro e;have h:=PySem.toDigits_len_ge 10 m;rw [List.map_eq_nil_iff.mp e] at h;exact absurd h (by decide)
theorem zfD (m:Nat):(tS (Int.negSucc m)).cps.toList=45::(Str.ofString (toString ((m+1:Nat):Int))).cps.toList:=by
 rw [PyProof.Rows.signs_ofString,PySem.W.KIN.signs_num];show ("-"++Nat.repr (m+1)).toList.map Char.toNat=_;rw [String.toList_append,List.map_append,Nat.toList_repr];rfl
theorem zkC (i:Int):∀ c∈(tS i).cps.toList,c=45∨48≤c∧c≤57:=by
 intro c hc
 cases i with
 | ofNat m=>exact .inr (zdo m c hc)
 | negSucc m =>
   rw [zfD] at hc;rcases List.mem_cons.mp hc with z | z
   ·exact .inl z
   ·exact .inr (zdo _ c z)
theorem zkD (i:Int):32∉(tS i).cps.toList:=fun z=>by
 have:=zkC i 32 z;omega
theorem zju {m:Nat} (h:m < 10 ^ 40):(Str.ofString (toString ((m:Nat):Int))).length≤40:=PyProof.Rows.toString_length_le (by omega) (by decide) (by exact_mod_cast h)
theorem za3 {i:Int} (h:i.natAbs < 10 ^ 40):(tS i).length≤41:=by
 cases i with
 | ofNat m=>exact Nat.le_succ_of_le (zju h)
 | negSucc m =>
   rw [← zbo,zfD,List.length_cons,zbo];have:=zju (m:=m+1) h;omega
theorem zkE {i:Int} (h:i.natAbs < 10 ^ 40):PySem.intText? (tS i)=some i:=by
 have hl:=za3 h
 cases i with
 | ofNat m =>
   have e:=PySem.intText_digits (x:=tS (Int.ofNat m)) (fun c hc=>zdo m c hc) (zk4 m) (by omega);rw [e];show some ((PySem.NumText.digitsVal (Str.ofString (toString ((m:Nat):Int))).cps.toList:Nat):Int)=_;rw [PySem.W.KIN.signs_num,PySem.W.KIN.val_back];rfl
 | negSucc m =>
   have e:=PySem.intText_neg (x:=tS (Int.negSucc m)) (zfD m) (fun c hc=>zdo (m+1) c hc) (zk4 (m+1)) (by omega);rw [e,PySem.W.KIN.signs_num,PySem.W.KIN.val_back];rfl
theorem zjv {i:Int} (h:i.natAbs < 10 ^ 40):i.natAbs.log2 < 1920:=by
 have h2:i.natAbs < 2 ^ 200:=Nat.lt_trans h (by decide)
 by_cases z:i.natAbs=0
 ·rw [z];decide
 ·exact Nat.lt_trans ((Nat.log2_lt z).mpr h2) (by decide)
end L2
namespace L2
open PySem PySem.Spec PyProof.Rows
section
variable {X:Cx} {K:PySem.W.Frag}
theorem vals_strs:∀ {xs:List Str} {its:List Value},Vals (xs.map V.str) its→∃ l:List (Str×Tok),its=strValues l∧l.map (·.1)=xs
 | [],_,.nil=>⟨[],rfl,rfl⟩
 | x::xs,_,.cons r rs=>by
   obtain ⟨t,rfl⟩:=r;obtain ⟨l,rfl,e⟩:=vals_strs rs;exact ⟨(x,t)::l,rfl,by rw [List.map_cons,e]⟩
theorem strs_vals:∀ (l:List (Str×Tok)),Vals ((l.map (·.1)).map V.str) (strValues l)
 | []=>.nil
 | (x,t)::l=>.cons ⟨t,rfl⟩ (strs_vals l)
def rSplit:V→List V→Hp→VK→Prop:=fun x ys H Q=>∃ a b,x=.str a∧ys=[.str b]∧(b.length == 0)=false∧a.length+2≤sizeLine∧∀ l,H l=none→Q (.ref l) (upd H l (.lst ((Txt.split a b).map V.str)))
theorem zjw {x y:Str}:(Txt.split x y).length≤x.length+2:=by
 unfold Txt.split;split
 ·simp
 ·split
  ·simp
  ·have e1:=StrLaws.occ_length_le x y 0 x.length (x.length+1);rw [length_partsBetween];omega
theorem mt_split:MtR X "str.split" rSplit:=by
 intro pins s σ H x ys v us Q I rx rv h;obtain ⟨a,b,rfl,rfl,hb,hz,q⟩:=h;obtain ⟨t,rfl⟩:=rx;obtain ⟨u,rfl,t',rfl⟩:=vals1 rv;have hf:H s.heap.objs.size=none:=I.hok.fresh (Nat.le_refl _);have go:∀ (l:List (Str×Tok)) (k:Nat),l.map (·.1)=Txt.split a b→EP X pins σ Q (.ref s.heap.objs.size) { s with toks:=k,heap:=s.heap.push { cls:=.type "list",data:=.seq (strValues l).toArray } }:=fun l k e=>by
  refine ⟨.ref s.heap.objs.size,upd H s.heap.objs.size (.lst ((Txt.split a b).map V.str)),I.laid (t':=k) (fun b u e=>Heap.get?_push_of_some _ e) (Nat.le_refl _) ?_,rfl,q _ hf⟩;have:=zjw (x:=a) (y:=b);exact ⟨by rw [List.length_map];omega,strValues l,0,e▸strs_vals l,Heap.get?_push_size _ rfl⟩
 have hn:(Builtin.Str.partsBetween a (Builtin.Str.occurrences a b 0 a.length (a.length+1)) b.length).length≤sizeLine:=by
  have e1:=StrLaws.occ_length_le a b 0 a.length (a.length+1);rw [length_partsBetween];omega
 cases h1:(decide (a.length < b.length) || decide (Builtin.Str.strKind a < Builtin.Str.strKind b))
 ·cases hf':(Builtin.Str.occurrences a b 0 a.length (a.length+1)).isEmpty
  ·refine call_meets F.slot_str_split (typeIs_str _ _ _) F.entry_str_split (F.args_str_split_2 _ _) (meets_str_split_sep a b t t' h1 hb hf' (by omega) hn) ?_;rw [strsFrom_eq];exact go (numbered s.toks _) _ ((numbered_texts _ _).trans ((if_neg (ne_true_of_eq_false h1)).trans (if_neg (ne_true_of_eq_false hf'))).symm)
  ·exact call_meets F.slot_str_split (typeIs_str _ _ _) F.entry_str_split (F.args_str_split_2 _ _) (meets_str_split_not_found a b t t' h1 hb hf') (go [(a,t)] s.toks ((if_neg (ne_true_of_eq_false h1)).trans (if_pos hf')).symm)
 ·exact call_meets F.slot_str_split (typeIs_str _ _ _) F.entry_str_split (F.args_str_split_2 _ _) (meets_str_split_cannot_occur a b t t' h1) (go [(a,t)] s.toks (if_pos h1).symm)
def zny (K:PySem.W.Frag):V→List V→Hp→VK→Prop:=fun x ys H Q=>∃ sep a xs,x=.str sep∧ys=[.ref a]∧SqL K H a (xs.map V.str)∧Builtin.Str.tooLong (xs.toArray.foldl (· + ·.length+sep.length) 0)=false∧(Builtin.Str.glued sep xs).length≤sizeLine∧Q (.str (Builtin.Str.glued sep xs)) H
theorem zgN (hK:X.K=K):MtR X "str.join" (zny K):=by
 subst hK;intro pins s σ H x ys v us Q I rx rv h;obtain ⟨sep,a,xs,rfl,rfl,hl,hz,hz2,q⟩:=h;obtain ⟨t,rfl⟩:=rx;obtain ⟨u,rfl,ru⟩:=rv.one
 cases ru
 obtain ⟨its,r,p,z⟩:=I.list hl;obtain ⟨l,rfl,e⟩:=vals_strs r;subst e;refine call_meets F.slot_str_join (typeIs_str _ _ _) F.entry_str_join (F.args_str_join_2 _ _) (meets_str_join_list sep t a l hz) ⟨p.isList,?_⟩
 match l with
 | []=>exact ⟨hz2,.str _,H,I.tok _,⟨_,rfl⟩,q⟩
 | [(y,ty)]=>exact ⟨.str _,H,I,⟨_,rfl⟩,q⟩
 | p1::p2::l=>exact ⟨hz2,.str _,H,I.tok _,⟨_,rfl⟩,q⟩
def PJ (X:Cx) (ps:List Expr) (t:Str→TE):Prop:=∀ (acc:Str) (pins:List (Addr×Obj)) (s:Shared) (σ:St) (H:Hp) (Q:VK),Inv X pins σ H s→t acc σ H Q→wpAny (model X.prog X.w) X.A (joinParts acc (evalEach ps X.env)) (EP X pins σ Q) X.xe s
def tJN:Str→TE:=fun acc _ H Q=>acc.length≤sizeLine∧Q (.str acc) H
def tJL (y:Str) (t:Str→TE):Str→TE:=fun acc σ H Q=>(acc++y).length≤sizeLine∧t (acc++y) σ H Q
def tJE (te:TE) (t:Str→TE):Str→TE:=fun acc σ H Q=>te σ H fun x H1=>∃ y:Str,((∃ i,x=.int i∧i.natAbs.log2 < 1920∧y=toString i)∨(x=.str y∧y.length≤sizeLine))∧(acc++y).length≤sizeLine∧t (acc++y) σ H1 Q
theorem pj_nil:PJ X [] tJN:=fun acc pins s σ H Q I h=>joinParts_nil ⟨.str acc,H,I.tok _,⟨_,rfl⟩,h.2⟩ h.1
theorem zbR {y:Str} {j pos} {ps:List Expr} {t:Str→TE} (h:PJ X ps t):PJ X (.Constant (.str y) j pos::ps) (tJL y t):=fun acc pins s σ H Q I hq=>by
 show wpAny _ _ (joinParts acc (eval (.Constant (.str y) j pos) X.env::evalEach ps X.env)) _ _ _;refine joinParts_cons (Calls.Constant_str ?_);exact ⟨hq.1,h _ pins _ σ H Q (I.tok _) hq.2⟩
theorem zbk {e:Expr} {te:TE} {pos:Pos} {ps:List Expr} {t:Str→TE} (he:PE X e te) (h:PJ X ps t):PJ X (.FormattedValue e (-1) none pos::ps) (tJE te t):=fun acc pins s σ H Q I hq=>by
 show wpAny _ _ (joinParts acc (eval (.FormattedValue e (-1) none pos) X.env::evalEach ps X.env)) _ _ _;refine joinParts_cons (FormattedValue_plain (thn (he pins s σ H _ I hq) fun u s1 ⟨x,H1,I1,r,y,hx,hz,q⟩=>?_));rcases hx with ⟨i,rfl,hi,rfl⟩ | ⟨rfl,hy⟩
 ·obtain ⟨t',rfl⟩:=r;exact formatField_int_small hi ⟨hz,h _ pins _ σ H1 Q (I1.tok _) q⟩
 ·obtain ⟨t',rfl⟩:=r;exact formatField_str (fun t'' tk=>⟨hz,h _ pins _ σ H1 Q (I1.tok _) q⟩) hy
def tFS (t:Str→TE):TE:=fun σ H Q=>t Str.empty σ H Q
theorem zcg {a b:Expr} {ps:List Expr} {pos:Pos} {t:Str→TE} (h:PJ X (a::b::ps) t):PE X (.JoinedStr (a::b::ps) pos) (tFS t):=fun pins s σ H Q I hq=>JoinedStr_many (h Str.empty pins s σ H Q I hq)
def znz (K:PySem.W.Frag):List V→Hp→VK→Prop:=fun xs H Q=>∃ x n,xs=[.str x]∧PySem.intText? x=some n∧x.length≤640∧Q (.int n) H
theorem call_int2K:zcG X (.type "int") (znz K):=by
 intro pins s σ H xs us Q I r h;obtain ⟨x,n,rfl,hn,hl,q⟩:=h;obtain ⟨u,rfl,t,rfl⟩:=vals1 r;exact PySem.W.KIN.call_text hn hl ⟨.int n,H,I.tok _,⟨_,rfl⟩,q⟩
def cStr (K:PySem.W.Frag):List V→Hp→VK→Prop:=fun xs H Q=>∃ i,xs=[.int i]∧i.natAbs.log2 < 1920∧Q (.str (toString i)) H
theorem zbY (h:X.K=K):zcG X (.type "str") (cStr K):=call_str_int
theorem zdL {x y:Str} {H:Hp} {Q:VK} (hb:(y.length == 0)=false) (hz:x.length+2≤sizeLine) (q:∀ l H2,H l=none→Same H H2→H2 l=some (.lst ((Txt.split x y).map V.str))→Q (.ref l) H2):rSplit (.str x) [.str y] H Q:=⟨x,y,rfl,rfl,hb,hz,fun l hl=>q l _ hl (zaH hl) zar⟩
theorem zgg {sep:Str} {a:Addr} {xs:List Str} {H:Hp} {Q:VK} (h:SqL K H a (xs.map V.str)) (hz:Builtin.Str.tooLong (xs.toArray.foldl (· + ·.length+sep.length) 0)=false) (hz2:(Builtin.Str.glued sep xs).length≤sizeLine) (q:Q (.str (Builtin.Str.glued sep xs)) H):zny K (.str sep) [.ref a] H Q:=⟨sep,a,xs,rfl,rfl,h,hz,hz2,q⟩
theorem r_fs {t:Str→TE} {σ:St} {H:Hp} {Q:VK} (h:t Str.empty σ H Q):tFS t σ H Q:=h
theorem r_jn {acc:Str} {σ:St} {H:Hp} {Q:VK} (hz:acc.length≤sizeLine) (h:Q (.str acc) H):tJN acc σ H Q:=⟨hz,h⟩
theorem r_jl {y acc:Str} {t:Str→TE} {σ:St} {H:Hp} {Q:VK} (hz:(acc++y).length≤sizeLine) (h:t (acc++y) σ H Q):tJL y t acc σ H Q:=⟨hz,h⟩
def znA (acc:Str) (t:Str→TE) (σ:St) (x:V) (H1:Hp) (Q:VK):Prop:=∃ y:Str,((∃ i,x=.int i∧i.natAbs.log2 < 1920∧y=toString i)∨(x=.str y∧y.length≤sizeLine))∧(acc++y).length≤sizeLine∧t (acc++y) σ H1 Q
theorem r_je {te:TE} {acc:Str} {t:Str→TE} {σ:St} {H:Hp} {Q:VK} (h:te σ H fun x H1=>znA acc t σ x H1 Q):tJE te t acc σ H Q:=h
theorem zjx {acc:Str} {t:Str→TE} {σ:St} {i:Int} {H1:Hp} {Q:VK} (hi:i.natAbs.log2 < 1920) (hz:(acc++(toString i:Str)).length≤sizeLine) (h:t (acc++(toString i:Str)) σ H1 Q):znA acc t σ (.int i) H1 Q:=⟨_,.inl ⟨i,rfl,hi,rfl⟩,hz,h⟩
end
end L2
namespace L2
open PySem PySem.Spec PyProof.Rows
section
variable {σ:St} {H Hr:Hp} {Q:VK} {K:PySem.W.Frag} {js:List Nat} {te:TE} {J:It} {n k:Nat} {g:TG} {w:Nat→St} {x:Nat→V}
theorem zkF (T:zbP J n k js σ g w Hr) (hz:n≤1000) (Wp:Nat→Addr→List V→Hp→Prop)
  (h0:∀ p H1,H p=none→Same H H1→H1 p=some (.lst [])→Wp 0 p [] H1) (hr:∀ i p ys H',Wp i p ys H'→Same Hr H') (hs:∀ i p ys H1 H2,Wp i p ys H1→Same H1 H2→Wp i p ys H2)
  (he:∀ p ys i H' Q',i < n→H' p=some (.lst ys)→ys.length=i→Wp i p ys H'→(∀ v H2,H2 p=some (.lst ys)→(∀ H3,But p H2 H3→H3 p=some (.lst (ys++[v]))→Wp (i+1) p (ys++[v]) H3)→Q' v H2)→te (w i++capV js σ) H' Q')
  (hq:∀ p vs H2,H2 p=some (.lst vs)→vs.length=n→Wp n p vs H2→Q (.ref p) H2):zf5 J k js g tTT te σ H Q:=by
 intro p hp;refine ⟨fun i m σc H'=>m=n-i∧i≤n∧(∃ u:St,u.length=k∧σc=u++capV js σ)∧∃ vs:List V,vs.length=i∧H' p=some (.lst vs)∧Wp i p vs H',⟨n,by simp,Nat.zero_le _,⟨List.replicate k none,List.length_replicate,rfl⟩,[],rfl,zar,h0 p _ hp (zaH hp) zar⟩,?_⟩;rintro i m σc H' ⟨rfl,hi,⟨u,hu,rfl⟩,vs,hvl,hpp,hW⟩;have hsl:n < sizeLine:=zaK hz;have s:=hr _ _ _ _ hW
 by_cases hlt:i < n
 ·refine .inr ⟨T.go i _ s hlt,fun σ' H'=>(∃ u:St,u.length=k∧σ'=u++capV js σ)∧∃ vs:List V,vs.length=i+1∧H' p=some (.lst vs)∧Wp (i+1) p vs H',fun σ' H' ⟨h1,h3⟩=>⟨n-(i+1),by omega,rfl,hlt,h1,h3⟩,fun v H2 hy=>?_⟩;refine T.yld i H' v H2 u _ s hlt hu hy fun H3 s3=>?_;refine r_tt ?_;rw [if_pos rfl];have hpp3:=s3 _ _ hpp;refine he p vs i _ _ hlt hpp3 hvl (hs _ _ _ _ _ hW s3) fun v H5 hp5 hv=>?_;exact ⟨vs,hp5,by omega,⟨w i,T.len i,rfl⟩,vs++[v],by rw [List.length_append,hvl];rfl,zar,hv _ But.upd zar⟩
 ·have e:i=n:=by omega
  subst e;exact .inl ⟨T.stop _ s,hq p vs _ hpp hvl hW⟩
end
theorem zk5 {K:PySem.W.Frag} {H:Hp} {Q:VK} {a b:Str} (q:Q (.bl (!decide (a=b))) H):rNe2 K (.str a) (.str b) H Q:=by
 refine .inl ⟨rfl,?_⟩;have:(!decide (V.str a=V.str b)) = !decide (a=b):=by
  congr 1
  exact decide_eq_decide.mpr ⟨fun z=>V.str.inj z,fun z=>by rw [z]⟩
 rw [this];exact q
end L2
namespace Prf
open PySem PySem.Spec PyProof.Rows L2
def rowT:List Str→Str
 | []=>"none"
 | p::ps=>Builtin.Str.glued " " (p::ps)
def opnT (n:Int):Str:=(Str.empty++tS n)++":open"
theorem zl1 (xs:List Str) (k m:Nat):∀ acc,(∀ x∈xs,x.length≤m)→xs.foldl (fun a x=>a+x.length+k) acc≤acc+xs.length * (m+k):=by
 induction xs with
 | nil=>intro acc _;simp
 | cons x xs ih =>
   intro acc h;have h1:=ih (acc+x.length+k) fun y hy=>h y (List.mem_cons_of_mem _ hy);have h2:=h x (by simp);rw [List.foldl_cons,List.length_cons,Nat.add_mul];omega
theorem zjy (xs:List Str) (m:Nat) (h:∀ x∈xs,x.length≤m):(xs.map (·.length)).sum≤xs.length * m:=by
 induction xs with
 | nil=>simp
 | cons x xs ih =>
   have h1:=ih fun y hy=>h y (List.mem_cons_of_mem _ hy);have h2:=h x (by simp);rw [List.map_cons,List.sum_cons,List.length_cons,Nat.add_mul];omega
theorem len_sp:(Str.ofString " ").length=1:=by decide +kernel
theorem zdp {xs:List Str} (h:∀ x∈xs,x.length≤1000) (hl:xs.length≤1000):Builtin.Str.tooLong (xs.toArray.foldl (· + ·.length+(Str.ofString " ").length) 0)=false∧(Builtin.Str.glued " " xs).length≤sizeLine:=by
 have e1:xs.length * (1000+(Str.ofString " ").length)≤1000 * 1001:=by rw [len_sp];exact Nat.mul_le_mul_right _ hl
 constructor
 ·unfold Builtin.Str.tooLong;rw [decide_eq_false];rw [List.foldl_toArray];have:=zl1 xs (Str.ofString " ").length 1000 0 h;rw [sizeLine_eq];omega
 ·rw [size_glued,len_sp,sizeLine_eq];have:=zjy xs 1000 h;have:xs.length * 1000≤1000 * 1000:=Nat.mul_le_mul_right _ hl;omega
def RowT (x:Str) (ws:List Str):Prop:=ws≠[]∧(∀ w∈ws,32∉w.cps.toList)∧x.cps.toList=zfC 32 (ws.map (·.cps.toList))∧1≤x.length∧x.length≤1000
theorem RowT.split {x:Str} {ws:List Str} (h:RowT x ws):Txt.split x (Str.ofString " ")=ws:=zkB h.1 h.2.1 h.2.2.1 h.2.2.2.1
theorem RowT.one {x:Str} (h1:32∉x.cps.toList) (h2:1≤x.length) (h3:x.length≤1000):RowT x [x]:=⟨by simp,fun w hw=>by rw [List.mem_singleton.mp hw];exact h1,rfl,h2,h3⟩
theorem zaP (a b:Str):(a++b).length=a.length+b.length:=strLen_append a b
theorem RowT.num {x y:Str} {ws:List Str} {i:Int} (h:RowT x ws) (hy:y.cps.toList=[32]) (hi:i.natAbs < 10 ^ 40) (hl:x.length≤900):RowT ((x++y)++tS i) (ws++[tS i]):=by
 obtain ⟨h0,h1,h2,h3,h4⟩:=h;have hyl:y.length=1:=by rw [← L2.zbo,hy];rfl
 have ht:=za3 hi;refine ⟨by simp,fun w hw=>?_,?_,?_,?_⟩
 ·rcases List.mem_append.mp hw with z | z
  ·exact h1 w z
  ·rw [List.mem_singleton.mp z];exact zkD i
 ·rw [app_list,app_list,h2,hy,List.map_append,List.append_assoc];clear h1 h2 h3 h4
  induction ws with
  | nil=>exact absurd rfl h0
  | cons w r ih =>
    cases r with
    | nil=>rfl
    | cons w2 r =>
      have:=ih (by simp);show (w.cps.toList++32::zfC 32 ((w2::r).map (·.cps.toList)))++([32]++_)=w.cps.toList++32::zfC 32 (((w2::r).map (·.cps.toList))++[_]);rw [List.append_assoc,List.cons_append,this];rfl
 ·rw [zaP,zaP];omega
 ·rw [zaP,zaP];omega
inductive Qn where | left | marks | due | dealing | against
def Qn.word:Qn→Str
 | .left=>"left"
 | .marks=>"marks"
 | .due=>"due"
 | .dealing=>"dealing"
 | .against=>"against"
def _root_.L2.Rf.say:Rf→Str
 | .time=>"refused: out of time"
 | .unknown=>"refused: unknown number"
 | .notdue=>"refused: not due"
 | .bounds=>"refused: out of bounds"
 | .full=>"refused: full"
inductive Act where
 | bring (d:Dd)
 | deal
 | enter (k r p:Int)
 | ask (q:Qn)
def Dd.word:Dd→Str
 | .paper _=>"paper"
 | .reader _ _=>"reader"
 | .step _=>"step"
def Dd.nums:Dd→List Int
 | .paper h=>[h]
 | .reader h l=>[h,l]
 | .step s=>[s]
def Act.words:Act→List Str
 | .bring d=>d.word::d.nums.map tS
 | .deal=>["deal"]
 | .enter k r p=>"enter"::[k,r,p].map tS
 | .ask q=>[q.word]
def Qn.ans (st:ExS):Qn→Str
 | .left=>rowT (st.rs.map fun r=>tS (r.getD 1 0))
 | .marks=>rowT ((List.range st.hs.length).map fun i:Nat=>opnT ((i:Int)+1))
 | .due=>"none"
 | .dealing=>if st.dl.isSome=true then "none" else "not dealt"
 | .against=>if st.hs=[] then "none" else "1"
def Act.next (st:ExS):Act→ExS
 | .bring d=>if d.why st=none then d.done st else st
 | .deal=>if st.dl.isSome=true then st else if st.hs=[] then { st with dl:=some ([],[]) } else st
 | .enter _ _ _=>st
 | .ask _=>st
def whyA (st:ExS):Rf:=if st.dl.isSome=true then .unknown else .time
def Act.ans (st:ExS):Act→Str
 | .bring d=>(d.why st).elim (tS (d.ans st)) Rf.say
 | .deal=>if st.dl.isSome=true then Rf.say .time else if st.hs=[] then "dealt" else "no dealing"
 | .enter _ _ _=>Rf.say (whyA st)
 | .ask q=>q.ans st
structure D31 (st:ExS):Prop where
 inb:InB st.hs st.rs
 dl:st.dl=none∨st.dl=some ([],[])∧st.hs=[]
theorem zjz (st:ExS) (d:Dd):(d.done st).dl=st.dl:=by cases d <;> rfl
theorem zkG {st:ExS} {d:Dd} (h:d.why st=none):st.dl=none:=by
 refine zjs fun z=>?_
 cases d with
 | paper h'=>have h:whyP st h'=none:=h;unfold whyP at h;rw [if_pos z] at h;cases h
 | reader h' l'=>have h:whyR st h' l'=none:=h;unfold whyR at h;rw [if_pos z] at h;cases h
 | step s=>have h:whyS st s=none:=h;unfold whyS at h;rw [if_pos z] at h;cases h
theorem D31.next {st:ExS} (h:D31 st) (a:Act):D31 (a.next st):=by
 cases a with
 | bring d =>
   show D31 (if d.why st=none then d.done st else st);split
   next hw=>exact ⟨Dd.inb h.inb hw,.inl (by rw [zjz];exact zkG hw)⟩
   next=>exact h
 | deal =>
   show D31 (if st.dl.isSome=true then st else if st.hs=[] then { st with dl:=some ([],[]) } else st);split
   next=>exact h
   next =>
    split
    next he=>exact ⟨h.inb,.inr ⟨rfl,he⟩⟩
    next=>exact h
 | enter k r p=>exact h
 | ask q=>exact h
end Prf
namespace L2
open PySem PySem.Spec PyProof.Rows
section
variable {σ:St} {H:Hp} {Q:VK} {K:PySem.W.Frag}
theorem len_emp:(Str.empty).length=0:=rfl
theorem ll_paper:(Str.ofString "paper ").length=6:=by decide +kernel
theorem ll_reader:(Str.ofString "reader ").length=7:=by decide +kernel
theorem ll_step:(Str.ofString "step ").length=5:=by decide +kernel
theorem ll_enter:(Str.ofString "enter ").length=6:=by decide +kernel
theorem ll_open:(Str.ofString ":open").length=5:=by decide +kernel
theorem ll_sp:(Str.ofString " ").length=1:=by decide +kernel
theorem zfi {i:Int} (h:i.natAbs < 10 ^ 40) (q:Q (.str (tS i)) H):cStr K [.int i] H Q:=⟨i,rfl,zjv h,q⟩
theorem zk6 {a:Str} {P:Prop} (h:P):tyV K "str" (.str a) H∧P:=⟨rfl,h⟩
theorem znB {i:Int} (h:i.natAbs < 10 ^ 40) (q:Q (.int i) H):znz K [.str (tS i)] H Q:=⟨_,i,rfl,zkE h,by have:=za3 h;omega,q⟩
end
end L2
namespace Prf
open PySem PySem.Spec PyProof.Rows L2
theorem zjA {n:Int} (h:n.natAbs < 10 ^ 40):(opnT n).length≤100:=by
 have:=za3 h;unfold opnT;rw [zaP,zaP,len_emp,ll_open];omega
def Act.ref (st:ExS):Act→Option Rf
 | .bring d=>d.why st
 | .deal=>whyD st
 | .enter _ _ _=>some (whyA st)
 | .ask _=>none
theorem Act.ans_ref {st:ExS} {a:Act} {f:Rf} (h:a.ref st=some f):a.ans st=f.say∧a.next st=st:=by
 cases a with
 | bring d =>
   have h:d.why st=some f:=h;refine ⟨?_,?_⟩
   ·show (d.why st).elim _ _=_;rw [h];rfl
   ·show (if d.why st=none then d.done st else st)=st;rw [h,if_neg (by simp)]
 | deal =>
   have h:whyD st=some f:=h;unfold whyD at h
   by_cases c:st.dl.isSome=true
   ·rw [if_pos c] at h
    cases h
    exact ⟨by show (if _ then _ else _)=_;rw [if_pos c],by show (if _ then _ else _)=_;rw [if_pos c]⟩
   ·rw [if_neg c] at h;cases h
 | enter k r p =>
   have h:some (whyA st)=some f:=h
   cases h
   exact ⟨rfl,rfl⟩
 | ask q=>cases h
def stA (as:List Act) (i:Nat):ExS:=(as.take i).foldl (fun s a=>a.next s) ⟨[],[],0,none⟩
theorem zhv {as:List Act} {i:Nat} (h:i < as.length):stA as (i+1)=(as.getD i .deal).next (stA as i):=by
 unfold stA;rw [List.take_add_one,List.foldl_append,List.getD_eq_getElem?_getD,List.getElem?_eq_getElem h];rfl
theorem D31.at (as:List Act):∀ i,D31 (stA as i):=fun i=>by
 have h0:D31 (⟨[],[],0,none⟩:ExS):=⟨⟨by decide,by decide,fun i h=>absurd h (by simp),fun i h=>absurd h (by simp),fun i h=>absurd h (by simp),fun i h=>absurd h (by simp)⟩,.inl rfl⟩
 unfold stA;generalize as.take i=l;generalize (⟨[],[],0,none⟩:ExS)=s at h0
 induction l generalizing s with
 | nil=>exact h0
 | cons a l ih=>exact ih _ (h0.next a)
end Prf
namespace Prf
open PySem PySem.Spec PyProof.Rows L2
def Act.head:Act→Str
 | .bring d=>d.word
 | .deal=>"deal"
 | .enter _ _ _=>"enter"
 | .ask q=>q.word
def Act.nums:Act→List Int
 | .bring d=>d.nums
 | .enter k r p=>[k,r,p]
 | _=>[]
theorem Act.words_eq (a:Act):a.words=a.head::a.nums.map tS:=by cases a <;> rfl
theorem zey {st:ExS} {d:Dd} (h:d.why st=none):(Act.bring d).ans st=tS (d.ans st)∧(Act.bring d).next st=d.done st :=
 ⟨by show (d.why st).elim _ _=_;rw [h];rfl,if_pos h⟩
theorem znC {st:ExS} {d:Dd}:d.why st≠some .notdue:=fun h=>by
 cases d with
 | paper h' =>
   have h:whyP st h'=some .notdue:=h;unfold whyP at h;split at h
   ·cases h
   ·split at h
    ·split at h <;> cases h
    ·cases h
 | reader h' l' =>
   have h:whyR st h' l'=some .notdue:=h;unfold whyR at h;split at h
   ·cases h
   ·split at h
    ·split at h
     ·split at h <;> cases h
     ·cases h
    ·cases h
 | step s =>
   have h:whyS st s=some .notdue:=h;unfold whyS at h;split at h
   ·cases h
   ·split at h <;> cases h
theorem znD {st:ExS} {a:Act}:a.ref st≠some .notdue:=fun h=>by
 cases a with
 | bring d=>exact znC h
 | deal=>have h:whyD st=some .notdue:=h;unfold whyD at h;split at h <;> cases h
 | enter k r p=>have h:some (whyA st)=some .notdue:=h;unfold whyA at h;split at h <;> cases h
 | ask q=>cases h
theorem ExFr.of_same {H H':Hp} {F:Addr→Prop} (s:Same H H'):ExFr H H' F F:=⟨fun b o e _=>s _ _ e,fun b z=>.inl z⟩
end Prf
namespace Prf
open PySem PySem.Spec PyProof.Rows L2
theorem zk7 {v:V} {vs:List V}:atI (v::vs) 0=some v:=by unfold atI ixN;simp
abbrev qsV:List V:=[.str "dealing",.str "against",.str "due",.str "marks",.str "left"]
theorem zkH {a:Act} (h:∀ q,a≠.ask q):inV (.str a.head) qsV=false:=by
 have k:∀ w:Str,w = "paper"∨w = "reader"∨w = "step"∨w = "deal"∨w = "enter"→inV (.str w) qsV=false:=by
  rintro w (rfl | rfl | rfl | rfl | rfl) <;> decide +kernel
 refine k _ ?_
 cases a with
 | bring d =>
   cases d with
   | paper h=>exact .inl rfl
   | reader h l=>exact .inr (.inl rfl)
   | step s=>exact .inr (.inr (.inl rfl))
 | deal=>exact .inr (.inr (.inr (.inl rfl)))
 | enter k r p=>exact .inr (.inr (.inr (.inr rfl)))
 | ask q=>exact absurd rfl (h q)
theorem zkI {q:Qn}:inV (.str (Act.ask q).head) qsV=true:=by cases q <;> decide +kernel
theorem znE {K:PySem.W.Frag} {H:Hp} {Q:VK} {p:Addr} {x:V} {xs:List V} (h:SqT K H p xs) (fx:flatV x=true) (fs:xs.all flatV=true) (q:Q (.bl (inV x xs)) H):rIn2 K false x (.ref p) H Q:=.inl ⟨p,xs,rfl,.inr h,fx,fs,q⟩
end Prf
namespace Prf
open PySem PySem.Spec PyProof.Rows L2
theorem zl2 {v:V} {vs:List V}:cutV (v::vs) (some 1) none=vs:=by
 have h1:HT.sIx (v::vs).length 0 (some 1)=1:=by unfold HT.sIx;simp
 have h2:HT.sIx (v::vs).length (v::vs).length none=vs.length+1:=by unfold HT.sIx;simp
 unfold cutV;rw [h1,h2];simp
theorem zkJ (a:Act):a.nums.length≤1000:=by
 cases a with
 | bring d=>cases d <;> exact Nat.le_of_ble_eq_true rfl
 | deal=>exact Nat.le_of_ble_eq_true rfl
 | enter k r p=>exact Nat.le_of_ble_eq_true rfl
 | ask q=>exact Nat.le_of_ble_eq_true rfl
end Prf
namespace Prf
open PySem PySem.Spec PyProof.Rows L2
def Kp (H:Hp) (F:Addr→Prop) (H':Hp) (F':Addr→Prop):Prop:=∀ c u,H c=some u→¬F c→H' c=some u∧¬F' c
theorem Kp.fr {H H' H2:Hp} {F F' F2:Addr→Prop} (k:Kp H F H' F') (f:ExFr H' H2 F' F2):Kp H F H2 F2:=fun c u e n=>⟨f.kp _ _ (k c u e n).1 (k c u e n).2,fun z=>(f.fp c z).elim (k c u e n).2 fun y=>by rw [(k c u e n).1] at y;cases y⟩
theorem Kp.same {H H' H2:Hp} {F F':Addr→Prop} (k:Kp H F H' F') (s:Same H' H2):Kp H F H2 F':=fun c u e n=>⟨s _ _ (k c u e n).1,(k c u e n).2⟩
end Prf
namespace Prf
open PySem PySem.Spec PyProof.Rows L2
section
variable {H H1 H2 H':Hp} {a b r m o:Addr} {ps ms:List Addr} {hs:List Int} {rs:List (List Int)} {h:Int} {row:List Int}
end
section
variable {H0 H H1 H2 H':Hp} {a b m o:Addr} {ps ps' ms:List Addr} {l:List (Str×Str)} {as:List Act} {t:Str} {ac:Act}
end
theorem zjB {h:Int} (hb:h.natAbs < 10 ^ 40):RowT (Str.ofString "paper "++tS h) (Act.bring (.paper h)).words:=by
 have:=RowT.num (x:="paper") (y:=" ") (ws:=["paper"]) (i:=h) (RowT.one (by decide +kernel) (by decide +kernel) (by decide +kernel)) (by decide +kernel) hb (by decide +kernel);rw [show (Str.ofString "paper"++Str.ofString " ")=Str.ofString "paper " by decide +kernel] at this;exact this
theorem zh0 {h l:Int} (hb:h.natAbs < 10 ^ 40) (hl:l.natAbs < 10 ^ 40):RowT (((Str.ofString "reader "++tS h)++" ")++tS l) (Act.bring (.reader h l)).words:=by
 have h1:=RowT.num (x:="reader") (y:=" ") (ws:=["reader"]) (i:=h) (RowT.one (by decide +kernel) (by decide +kernel) (by decide +kernel)) (by decide +kernel) hb (by decide +kernel);rw [show (Str.ofString "reader"++Str.ofString " ")=Str.ofString "reader " by decide +kernel] at h1;have hz:=za3 hb;exact RowT.num (y:=" ") h1 (by decide +kernel) hl (by rw [zaP,ll_reader];omega)
theorem zl3 (q:Qn):RowT q.word (Act.ask q).words:=by
 cases q <;> exact RowT.one (by decide +kernel) (by decide +kernel) (by decide +kernel)
theorem row_deal:RowT "deal" Act.deal.words:=RowT.one (by decide +kernel) (by decide +kernel) (by decide +kernel)
theorem zjC (x:Str):Str.empty++x=x:=PySem.W.KT.empty_app x
end Prf
namespace Prf
open PySem PySem.Spec PyProof.Rows L2
end Prf
namespace Prf
open PySem PySem.Spec PyProof.Rows L2
def dueT (k r:Int):Str:=((Str.empty++tS k)++":")++tS r
def dltT (k x y:Int):Str:=((((Str.empty++tS k)++":")++tS x)++"+")++tS y
def dltR (rows:List (List Int)):List Str:=(List.range rows.length).map fun i:Nat=>dltT ((i:Int)+1) ((rows.getD i []).getD 0 0) ((rows.getD i []).getD 1 0)
inductive Res:ExS→Act→ExS→Str→Prop where
 | bring {st:ExS} (d:Dd):Res st (.bring d) ((Act.bring d).next st) ((Act.bring d).ans st)
 | no {st:ExS}:st.dl=none→zaZ st.hs st.rs none→Res st .deal st "no dealing"
 | yes {st:ExS} {rows:List (List Int)}:st.dl=none→zaZ st.hs st.rs (some rows)→Res st .deal { st with dl:=some (rows,[]) } "dealt"
 | late {st:ExS}:st.dl.isSome=true→Res st .deal st (Rf.say .time)
 | left {st:ExS}:Res st (.ask .left) st (rowT ((zev st).map tS))
 | due {st:ExS}:Res st (.ask .due) st (rowT ((dueS st).map fun r=>dueT (r.getD 0 0) (r.getD 1 0)))
 | marks {st:ExS}:zjk st=List.replicate st.hs.length none→Res st (.ask .marks) st (rowT ((List.range st.hs.length).map fun i:Nat=>opnT ((i:Int)+1)))
 | undealt {st:ExS}:st.dl=none→Res st (.ask .dealing) st "not dealt"
 | dealing {st:ExS} {nm en:List (List Int)}:st.dl=some (nm,en)→Res st (.ask .dealing) st (rowT (dltR (nm.map (List.take 2))))
 | agN {st:ExS}:st.dl≠none∨zbg st.hs st.rs none→Res st (.ask .against) st "none"
 | agS {st:ExS} {xs:List Int}:st.dl=none→zbg st.hs st.rs (some xs)→Res st (.ask .against) st (rowT (xs.map tS))
def RunR (st0:ExS) (as:List Act) (an:List Str) (st:ExS):Prop:=∃ ss:Nat→ExS,ss 0=st0∧an.length≤as.length∧ss an.length=st∧∀ i,i < an.length→Res (ss i) (as.getD i .deal) (ss (i+1)) (an.getD i "")
theorem RunR.nil {st:ExS} {as:List Act}:RunR st as [] st:=⟨fun _=>st,rfl,Nat.zero_le _,rfl,fun i hi=>absurd hi (by simp)⟩
theorem RunR.push {st0 st st':ExS} {as:List Act} {an:List Str} {r:Str} (R:RunR st0 as an st) (hl:an.length < as.length) (h:Res st (as.getD an.length .deal) st' r):RunR st0 as (an++[r]) st':=by
 obtain ⟨ss,h0,h1,h2,h3⟩:=R;refine ⟨fun i=>if i≤an.length then ss i else st',by show (if 0≤an.length then ss 0 else st')=st0;rw [if_pos (Nat.zero_le _)];exact h0,by rw [List.length_append,List.length_singleton];omega,?_,fun i hi=>?_⟩
 ·show (if (an++[r]).length≤an.length then ss (an++[r]).length else st')=st';rw [if_neg (by rw [List.length_append,List.length_singleton];omega)]
 ·rw [List.length_append,List.length_singleton] at hi;show Res (if i≤an.length then ss i else st') _ (if i+1≤an.length then ss (i+1) else st') _
  by_cases c:i < an.length
  ·rw [if_pos (by omega),if_pos (by omega),zas c];exact h3 i c
  ·have:i=an.length:=by omega
   subst this;rw [if_pos (Nat.le_refl _),if_neg (by omega),zax,h2];exact h
theorem glue_run:∀ (ws:List Str) (acc:Array Nat),(ws.foldl (fun acc p=>acc++(Str.ofString " ").cps++p.cps) acc).toList=zfC 32 (acc.toList::ws.map (·.cps.toList))
 | [],acc=>rfl
 | w::ws,acc=>by
   rw [List.foldl_cons,glue_run ws];have hs:(Str.ofString " ").cps.toList=[32]:=by decide +kernel
   have e:(acc++(Str.ofString " ").cps++w.cps).toList=acc.toList++32::w.cps.toList:=by rw [Array.toList_append,Array.toList_append,hs,List.append_assoc];rfl
   rw [e]
   cases ws with
   | nil=>rfl
   | cons w2 r=>exact List.append_assoc _ _ _
theorem RowT.glue {w:Str} {ws:List Str} (h1:∀ x∈w::ws,32∉x.cps.toList) (h2:1≤(rowT (w::ws)).length) (h3:(rowT (w::ws)).length≤1000):RowT (rowT (w::ws)) (w::ws):=⟨by simp,h1,glue_run ws w.cps,h2,h3⟩
theorem zkK {w:Str} {ws:List Str} {m:Nat} (h:∀ x∈w::ws,x.length≤m) (h1:1≤w.length):1≤(rowT (w::ws)).length∧(rowT (w::ws)).length≤(w::ws).length * (m+1):=by
 have e:(rowT (w::ws)).length=((w::ws).map (·.length)).sum+((w::ws).length-1) * (Str.ofString " ").length:=size_glued _ _;rw [e,len_sp];have:=zjy (w::ws) m h;rw [Nat.mul_add];constructor
 ·rw [List.map_cons,List.sum_cons];omega
 ·omega
theorem zl4 {xs:List Str} (h:xs≠[]):rowT xs=Builtin.Str.glued " " xs:=by
 cases xs with
 | nil=>exact absurd rfl h
 | cons x xs=>rfl
theorem Res.of_ref {st:ExS} {a:Act} {f:Rf} (he:∀ k r p,a≠.enter k r p) (h:a.ref st=some f):Res st a st f.say:=by
 cases a with
 | bring d =>
   have h1:=Res.bring (st:=st) d;obtain ⟨z1,z2⟩:=Act.ans_ref h;rw [z1,z2] at h1;exact h1
 | deal =>
   have h:whyD st=some f:=h;unfold whyD at h
   by_cases c:st.dl.isSome=true
   ·rw [if_pos c] at h
    cases h
    exact .late c
   ·rw [if_neg c] at h;cases h
 | enter k r p=>exact absurd rfl (he k r p)
 | ask q=>cases h
theorem Res.bring_inv {st st':ExS} {d:Dd} {r:Str} (h:Res st (.bring d) st' r):st'=(Act.bring d).next st∧r=(Act.bring d).ans st:=by cases h;exact ⟨rfl,rfl⟩
theorem Res.ask_inv {st st':ExS} {q:Qn} {r:Str} (h:Res st (.ask q) st' r):st'=st:=by cases h <;> rfl
theorem Res.ag_inv {st st':ExS} {r:Str} (h:Res st (.ask .against) st' r):((st.dl≠none∨zbg st.hs st.rs none)∧r = "none")∨∃ xs,st.dl=none∧zbg st.hs st.rs (some xs)∧r=rowT (xs.map tS):=by
 cases h with
 | agN h=>exact .inl ⟨h,rfl⟩
 | agS h1 h2=>exact .inr ⟨_,h1,h2,rfl⟩
theorem Res.deal_inv {st st':ExS} {r:Str} (h:Res st .deal st' r):(st.dl=none∧zaZ st.hs st.rs none∧st'=st∧r = "no dealing")∨(∃ rows,st.dl=none∧zaZ st.hs st.rs (some rows)∧st'={ st with dl:=some (rows,[]) }∧r = "dealt")∨(st.dl.isSome=true∧st'=st∧r=Rf.say .time):=by
 cases h with
 | no h1 h2=>exact .inl ⟨h1,h2,rfl,rfl⟩
 | yes h1 h2=>exact .inr (.inl ⟨_,h1,h2,rfl,rfl⟩)
 | late h1=>exact .inr (.inr ⟨h1,rfl,rfl⟩)
theorem Res.dealing_inv {st st':ExS} {r:Str} (h:Res st (.ask .dealing) st' r):(st.dl=none∧r = "not dealt")∨∃ nm en,st.dl=some (nm,en)∧r=rowT (dltR (nm.map (List.take 2))):=by
 cases h with
 | undealt h=>exact .inl ⟨h,rfl⟩
 | dealing h=>exact .inr ⟨_,_,h,rfl⟩
theorem Res.due_inv {st st':ExS} {r:Str} (h:Res st (.ask .due) st' r):r=rowT ((dueS st).map fun r=>dueT (r.getD 0 0) (r.getD 1 0)):=by cases h;rfl
theorem Res.left_inv {st st':ExS} {r:Str} (h:Res st (.ask .left) st' r):r=rowT ((zev st).map tS):=by cases h;rfl
theorem Res.marks_inv {st st':ExS} {r:Str} (h:Res st (.ask .marks) st' r):r=rowT ((List.range st.hs.length).map fun i:Nat=>opnT ((i:Int)+1)):=by cases h;rfl
structure za8 (rows:List Str) (as:List Act):Prop where
 len:rows.length=as.length
 row:∀ i,i < as.length→RowT (rows.getD i "") (as.getD i .deal).words
 ne:∀ i,i < as.length→∀ k r p,as.getD i .deal≠.enter k r p
 bd:∀ i,i < as.length→∀ j∈(as.getD i .deal).nums,j.natAbs < 10 ^ 40
theorem zb9 {α:Type} {xs ys:List α} {d:α} {i:Nat} (h:xs.length≤i):(xs++ys).getD i d=ys.getD (i-xs.length) d:=by
 rw [List.getD_eq_getElem?_getD,List.getElem?_append_right h,List.getD_eq_getElem?_getD]
theorem za8.app {r1 r2:List Str} {a1 a2:List Act} (h1:za8 r1 a1) (h2:za8 r2 a2):za8 (r1++r2) (a1++a2):=by
 have hl:=h1.len;have cut:∀ i,i < (a1++a2).length→(i < a1.length∧(a1++a2).getD i .deal=a1.getD i .deal∧(r1++r2).getD i "" = r1.getD i "")∨(i-a1.length < a2.length∧(a1++a2).getD i .deal=a2.getD (i-a1.length) .deal∧(r1++r2).getD i "" = r2.getD (i-a1.length) ""):=fun i hi=>by
  rw [List.length_append] at hi
  by_cases c:i < a1.length
  ·exact .inl ⟨c,zas c,zas (by omega)⟩
  ·exact .inr ⟨by omega,zb9 (by omega),by rw [zb9 (by omega),hl]⟩
 refine ⟨by rw [List.length_append,List.length_append,h1.len,h2.len],fun i hi=>?_,fun i hi=>?_,fun i hi=>?_⟩
 ·rcases cut i hi with ⟨z1,z2,z3⟩ | ⟨z1,z2,z3⟩
  ·rw [z2,z3];exact h1.row i z1
  ·rw [z2,z3];exact h2.row _ z1
 ·rcases cut i hi with ⟨z1,z2,z3⟩ | ⟨z1,z2,z3⟩
  ·rw [z2];exact h1.ne i z1
  ·rw [z2];exact h2.ne _ z1
 ·rcases cut i hi with ⟨z1,z2,z3⟩ | ⟨z1,z2,z3⟩
  ·rw [z2];exact h1.bd i z1
  ·rw [z2];exact h2.bd _ z1
theorem za8.nil:za8 [] []:=⟨rfl,fun i hi=>absurd hi (by simp),fun i hi=>absurd hi (by simp),fun i hi=>absurd hi (by simp)⟩
theorem za8.cons {r:Str} {a:Act} {rs:List Str} {as:List Act} (hr:RowT r a.words) (he:∀ k r p,a≠.enter k r p) (hb:∀ j∈a.nums,j.natAbs < 10 ^ 40) (h:za8 rs as):za8 (r::rs) (a::as):=by
 refine ⟨by rw [List.length_cons,List.length_cons,h.len],fun i hi=>?_,fun i hi=>?_,fun i hi=>?_⟩ <;> cases i
 ·exact hr
 ·exact h.row _ (by rw [List.length_cons] at hi;omega)
 ·exact he
 ·exact h.ne _ (by rw [List.length_cons] at hi;omega)
 ·exact hb
 ·exact h.bd _ (by rw [List.length_cons] at hi;omega)
theorem za8.ask (q:Qn) {rs:List Str} {as:List Act} (h:za8 rs as):za8 (q.word::rs) (.ask q::as):=h.cons (zl3 q) (fun _ _ _ z=>by cases z) (fun j hj=>absurd hj (by simp [Act.nums]))
theorem za8.deal {rs:List Str} {as:List Act} (h:za8 rs as):za8 ("deal"::rs) (.deal::as):=h.cons row_deal (fun _ _ _ z=>by cases z) (fun j hj=>absurd hj (by simp [Act.nums]))
def papT (h:Int):Str:=Str.ofString "paper "++tS h
def reaT (r:List Int):Str:=((Str.ofString "reader "++tS (r.getD 0 0))++" ")++tS (r.getD 1 0)
def papA (h:Int):Act:=.bring (.paper h)
def reaA (r:List Int):Act:=.bring (.reader (r.getD 0 0) (r.getD 1 0))
theorem za8.paps {hs:List Int} (h:∀ x∈hs,x.natAbs < 10 ^ 40):za8 (hs.map papT) (hs.map papA):=by
 induction hs with
 | nil=>exact .nil
 | cons x xs ih=>exact .cons (zjB (h x (by simp))) (fun _ _ _ z=>by cases z) (fun j hj=>by rw [List.mem_singleton.mp hj];exact h x (by simp)) (ih fun y hy=>h y (List.mem_cons_of_mem _ hy))
theorem za8.reas {rs:List (List Int)} (h:∀ x∈rs,(x.getD 0 0).natAbs < 10 ^ 40∧(x.getD 1 0).natAbs < 10 ^ 40):za8 (rs.map reaT) (rs.map reaA):=by
 induction rs with
 | nil=>exact .nil
 | cons x xs ih=>exact .cons (zh0 (h x (by simp)).1 (h x (by simp)).2) (fun _ _ _ z=>by cases z) (fun j hj=>by
    rcases List.mem_cons.mp hj with z | z
    ·rw [z];exact (h x (by simp)).1
    ·rw [List.mem_singleton.mp z];exact (h x (by simp)).2) (ih fun y hy=>h y (List.mem_cons_of_mem _ hy))
def goA (as:List Act) (st:ExS):ExS:=as.foldl (fun s a=>a.next s) st
theorem zjD {hs:List Int}:∀ {st:ExS},st.dl=none→(∀ x∈hs,1≤x∧x≤6)→st.hs.length+hs.length≤10→goA (hs.map papA) st={ st with hs:=st.hs++hs }:=by
 induction hs with
 | nil=>intro st _ _ _;show st=_;rw [List.append_nil]
 | cons x xs ih =>
   intro st hd hx hl;rw [List.length_cons] at hl;have e:(papA x).next st={ st with hs:=st.hs++[x] }:=if_pos (zgd hd ⟨(hx x (by simp)).1,(hx x (by simp)).2,by omega⟩);show goA (xs.map papA) ((papA x).next st)=_;rw [e,ih (st:={ st with hs:=st.hs++[x] }) hd (fun y hy=>hx y (List.mem_cons_of_mem _ hy)) (by show (st.hs++[x]).length+_≤10;rw [List.length_append,List.length_singleton];omega)];show ({ st with hs:=(st.hs++[x])++xs }:ExS)=_;rw [List.append_assoc];rfl
def OkR (x:List Int):Prop:=x.length=2∧(0≤x.getD 0 0∧x.getD 0 0≤6)∧0≤x.getD 1 0∧x.getD 1 0≤30
theorem zjE {rs:List (List Int)}:∀ {st:ExS},st.dl=none→(∀ x∈rs,OkR x)→st.rs.length+rs.length≤8→goA (rs.map reaA) st={ st with rs:=st.rs++rs }:=by
 induction rs with
 | nil=>intro st _ _ _;show st=_;rw [List.append_nil]
 | cons x xs ih =>
   intro st hd hx hl;rw [List.length_cons] at hl;obtain ⟨o1,o2,o3⟩:=hx x (by simp);have ex:[x.getD 0 0,x.getD 1 0]=x:=by match x,o1 with | [a,b],_=>rfl
   have e:(reaA x).next st={ st with rs:=st.rs++[x] }:=by
    have:(reaA x).next st={ st with rs:=st.rs++[[x.getD 0 0,x.getD 1 0]] }:=if_pos (zge hd ⟨o2.1,o2.2,o3.1,o3.2,by omega⟩);rw [ex] at this;exact this
   show goA (xs.map reaA) ((reaA x).next st)=_;rw [e,ih (st:={ st with rs:=st.rs++[x] }) hd (fun y hy=>hx y (List.mem_cons_of_mem _ hy)) (by show (st.rs++[x]).length+_≤8;rw [List.length_append,List.length_singleton];omega)];show ({ st with rs:=(st.rs++[x])++xs }:ExS)=_;rw [List.append_assoc];rfl
structure Brg (rows:List Str) (bs:List Act) (hs:List Int) (rs:List (List Int)):Prop where
 ok:za8 rows bs
 br:∀ i,i < bs.length→∃ d,bs.getD i .deal=.bring d
 all:stA bs bs.length=⟨hs,rs,0,none⟩
theorem InB.mem {hs:List Int} {rs:List (List Int)} (B:InB hs rs):(∀ x∈hs,1≤x∧x≤6)∧∀ x∈rs,OkR x:=⟨fun x hx=>by
 obtain ⟨i,hi,rfl⟩:=L2.mem_getD (d:=0) hx;exact B.hh i hi,fun x hx=>by
 obtain ⟨i,hi,rfl⟩:=L2.mem_getD (d:=[]) hx;exact ⟨B.r2 i hi,B.rh i hi,B.rl i hi⟩⟩
theorem zk8 {a1 a2:List Act} (h1:∀ a∈a1,∃ d,a=.bring d) (h2:∀ a∈a2,∃ d,a=.bring d):∀ i,i < (a1++a2).length→∃ d,(a1++a2).getD i .deal=.bring d:=fun i hi=>by
 rcases List.mem_append.mp (getD_mem (d:=.deal) hi) with z | z
 ·exact h1 _ z
 ·exact h2 _ z
theorem zhw (as:List Act):stA as as.length=goA as ⟨[],[],0,none⟩:=by unfold stA goA;rw [List.take_length]
theorem Brg.both {hs:List Int} {rs:List (List Int)} (B:InB hs rs):Brg (hs.map papT++rs.map reaT) (hs.map papA++rs.map reaA) hs rs∧Brg (rs.map reaT++hs.map papT) (rs.map reaA++hs.map papA) hs rs:=by
 obtain ⟨m1,m2⟩:=B.mem;have B1:=B.lp;have B2:=B.lr;have r1:za8 (hs.map papT) (hs.map papA):=.paps fun x hx=>by have:=m1 x hx;omega
 have r2:za8 (rs.map reaT) (rs.map reaA):=.reas fun x hx=>by obtain ⟨_,h1,h2⟩:=m2 x hx;omega
 have k1:∀ a∈hs.map papA,∃ d,a=.bring d:=fun a ha=>by obtain ⟨x,_,rfl⟩:=List.mem_map.mp ha;exact ⟨_,rfl⟩
 have k2:∀ a∈rs.map reaA,∃ d,a=.bring d:=fun a ha=>by obtain ⟨x,_,rfl⟩:=List.mem_map.mp ha;exact ⟨_,rfl⟩
 refine ⟨⟨r1.app r2,zk8 k1 k2,?_⟩,⟨r2.app r1,zk8 k2 k1,?_⟩⟩
 ·rw [zhw];show (hs.map papA++rs.map reaA).foldl _ _=_;rw [List.foldl_append];show goA (rs.map reaA) (goA (hs.map papA) _)=_;rw [zjD rfl m1 (by show 0+_≤10;omega),zjE rfl m2 (by show 0+_≤8;omega)];rfl
 ·rw [zhw];show (rs.map reaA++hs.map papA).foldl _ _=_;rw [List.foldl_append];show goA (hs.map papA) (goA (rs.map reaA) _)=_;rw [zjE rfl m2 (by show 0+_≤8;omega),zjD rfl m1 (by show 0+_≤10;omega)];rfl
theorem Brg.dl {rows:List Str} {bs:List Act} {hs:List Int} {rs:List (List Int)} (B:Brg rows bs hs rs):∀ i,i≤bs.length→(stA bs i).dl=none:=fun i=>by
 induction i with
 | zero=>intro _;rfl
 | succ i ih =>
   intro hi;rw [zhv (by omega)];obtain ⟨d,hd⟩:=B.br i (by omega);rw [hd];show (if d.why (stA bs i)=none then d.done (stA bs i) else stA bs i).dl=none;split
   ·rw [zjz];exact ih (by omega)
   ·exact ih (by omega)
theorem RunR.inv {st0 st:ExS} {as:List Act} {an:List Str} {P:Nat→ExS→Prop} (R:RunR st0 as an st) (h0:P 0 st0) (hs:∀ i s s' r,i < an.length→P i s→Res s (as.getD i .deal) s' r→P (i+1) s'):∃ ss:Nat→ExS,(∀ i,i≤an.length→P i (ss i))∧∀ i,i < an.length→Res (ss i) (as.getD i .deal) (ss (i+1)) (an.getD i ""):=by
 obtain ⟨ss,z0,_,_,z3⟩:=R;refine ⟨ss,fun i=>?_,z3⟩
 induction i with
 | zero=>intro _;rw [z0];exact h0
 | succ i ih=>intro hi;exact hs i _ _ _ (by omega) (ih (by omega)) (z3 i (by omega))
theorem zcX {α:Type} (xs:List α) (d:α) (f:α→Str):(List.range xs.length).map (fun i=>V.str (f (xs.getD i d)))=(xs.map f).map V.str:=by
 conv=>rhs;rw [← zbi xs d]
 rw [List.map_map,List.map_map];rfl
theorem zjF {W:List Str} {i:Nat} (h:i < W.length):(W.map V.str)[i]? = some (.str (W.getD i "")):=by
 rw [List.getElem?_map,List.getElem?_eq_getElem h,List.getD_eq_getElem?_getD,List.getElem?_eq_getElem h];rfl
theorem zfE {W:List Str} {i:Nat} (h:i < W.length):atI (W.map V.str) (0+(i:Int))=some (.str (W.getD i "")):=by
 rw [Int.zero_add];unfold atI ixN;rw [if_pos (by omega),if_pos (by rw [List.length_map];omega)];show (List.map V.str W)[((i:Int)).toNat]? = _;rw [show ((i:Int)).toNat=i by omega];exact zjF h
theorem two_of {x:List Int} (h:x.length=2):∃ a b,x=[a,b]:=by
 match x,h with
 | [a,b],_=>exact ⟨a,b,rfl⟩
section
variable {rows:List Str} {bs:List Act} {hs:List Int} {rs:List (List Int)} {xs:List Int}
theorem zjG {l:List Str} {m j:Nat}:(l.drop m).getD j "" = l.getD (m+j) "":=by
 rw [List.getD_eq_getElem?_getD,List.getElem?_drop,List.getD_eq_getElem?_getD]
end
end Prf
namespace L2
open PySem PySem.Spec PyProof.Rows
theorem ll_col:(Str.ofString ":").length=1:=by decide +kernel
theorem ll_plus:(Str.ofString "+").length=1:=by decide +kernel
end L2
namespace Prf
open PySem PySem.Spec PyProof.Rows L2
theorem _root_.L2.RowsAt.pre {B H1 H:Hp} {p:Addr} {rs:List (List Int)} (R:RowsAt H1 p rs H) (s:Same B H1):RowsAt B p rs H :=
 ⟨s.trans R.same,s.free R.new,by obtain ⟨ps,h1,h2,nd,h3⟩:=R.rows;exact ⟨ps,h1,h2,nd,fun i hi=>⟨(h3 i hi).1,s.free (h3 i hi).2.1,(h3 i hi).2.2⟩⟩⟩
structure D32 (st:ExS):Prop where
 inb:InB st.hs st.rs
 dl:st.dl=none∨∃ nm,st.dl=some (nm,[])∧zaR st.hs st.rs nm=true
theorem D32.want {st:ExS} (h:D32 st):∀ i,i < st.nm.length→zbu st.nm st.en i≠[]:=fun i hi z=>by
 rcases h.dl with e | ⟨nm,e,hr⟩
 ·rw [zjj e] at hi;exact absurd hi (by simp)
 ·have RP:=zby.mp hr;have e1:st.nm=nm:=by unfold ExS.nm;rw [e];rfl
  have e2:st.en=[]:=by unfold ExS.en;rw [e];rfl
  rw [e1,e2,zeg] at z;rw [e1] at hi;have:=RP.two i (by rw [← RP.len];exact hi);rw [z] at this
  cases this
theorem D32.marks {st:ExS} (h:D32 st):zjk st=List.replicate st.hs.length none:=by
 have hw:=h.want;unfold zjk;rcases h.dl with e | ⟨nm,e,hr⟩
 ·rw [e];exact List.map_const'.trans (by rw [List.length_range])
 ·have e1:st.nm=nm:=by unfold ExS.nm;rw [e];rfl
  have e2:st.en=[]:=by unfold ExS.en;rw [e];rfl
  rw [e1,e2,(zby.mp hr).len] at hw;rw [e];refine List.ext_getElem (by simp) fun i h1 h2=>?_;rw [List.length_replicate] at h2;rw [List.getElem_map,List.getElem_range,List.getElem_replicate];unfold zk0;exact if_neg (hw i h2)
theorem zkL {st:ExS} (w:Wf st) (B:InB st.hs st.rs) {x:Int} (hx:x∈zev st):x.natAbs < 10 ^ 40:=by
 obtain ⟨i,hi,rfl⟩:=List.mem_map.mp hx;have h1:=B.rl i (List.mem_range.mp hi);have h2:cntB st.nm ((i:Int)+1)≤st.nm.length:=List.length_filter_le _ _;have h3:=w.n10 B;omega
def Sml (rows:List (List Int)):Prop:=∀ i,i < rows.length→(rows.getD i []).length=2∧((rows.getD i []).getD 0 0).natAbs < 10 ^ 40∧((rows.getD i []).getD 1 0).natAbs < 10 ^ 40
theorem zjH {hs:List Int} {rs tt:List (List Int)} (h:zaR hs rs tt=true) (B:InB hs rs):Sml tt:=fun i hi=>by
 have RP:=zby.mp h;have B2:=B.lr;have hi:i < hs.length:=by rw [← RP.len];exact hi
 have h1:=RP.lo i hi;have h2:=RP.lt i hi;have h3:=RP.hi i hi;exact ⟨RP.two i hi,by omega,by omega⟩
theorem zl5 {st:ExS} (w:Wf st) (B:InB st.hs st.rs):Sml (dueS st):=fun i hi=>by
 have B1:=w.n10 B;have B2:=B.lr;obtain ⟨k,r,hk,hr,e⟩:=zjm (getD_mem (d:=[]) hi);have e:(dueS st).getD i []=[(k:Int)+1,r]:=e;rw [e];have hm:=(List.mem_filter.mp hr).1;obtain ⟨f,s,h1,h2,h3,h4⟩:=w.row k hk;have:1≤r∧r≤8:=by
  rcases h4 with h4 | ⟨t,h4,h5,h6,_⟩
  ·rw [h4] at hm;simp at hm;omega
  ·rw [h4] at hm;simp at hm;omega
 exact ⟨rfl,by show ((k:Int)+1).natAbs < _;omega,by show r.natAbs < _;omega⟩
theorem zl6 {k x y:Int} (hk:k.natAbs < 10 ^ 40) (hx:x.natAbs < 10 ^ 40) (hy:y.natAbs < 10 ^ 40):1≤(dltT k x y).length∧(dltT k x y).length≤200:=by
 have h1:=za3 hk;have h2:=za3 hx;have h3:=za3 hy;unfold dltT;rw [zaP,zaP,zaP,zaP,zaP,len_emp,ll_col,ll_plus];omega
theorem zjI {k x:Int} (hk:k.natAbs < 10 ^ 40) (hx:x.natAbs < 10 ^ 40):(dueT k x).length≤200:=by
 have h1:=za3 hk;have h2:=za3 hx;unfold dueT;rw [zaP,zaP,zaP,len_emp,ll_col];omega
theorem l_emp:(Str.empty).cps.toList=[]:=rfl
theorem l_col:(Str.ofString ":").cps.toList=[58]:=by decide +kernel
theorem l_plus:(Str.ofString "+").cps.toList=[43]:=by decide +kernel
theorem zei {a:Int} (h1:1≤a) (h2:a≤8):(tS a).cps.toList=[48+a.toNat]:=by
 rcases (show a=1∨a=2∨a=3∨a=4∨a=5∨a=6∨a=7∨a=8 by omega) with rfl | rfl | rfl | rfl | rfl | rfl | rfl | rfl <;> decide +kernel
theorem zfF (k x y:Int):(dltT k x y).cps.toList=(tS k).cps.toList++58::((tS x).cps.toList++43::(tS y).cps.toList):=by
 unfold dltT;rw [app_list,app_list,app_list,app_list,app_list,l_col,l_plus,l_emp];simp only [List.nil_append,List.append_assoc,List.cons_append]
theorem zl7 {k a b c d:Int} (ha:1≤a∧a≤8) (hb:1≤b∧b≤8) (hc:1≤c∧c≤8) (hd:1≤d∧d≤8):dltT k a b=dltT k c d↔a=c∧b=d:=by
 constructor
 ·intro e;have e:=congrArg (fun s:Str=>s.cps.toList) e;have e:(dltT k a b).cps.toList=(dltT k c d).cps.toList:=e;rw [zfF,zfF,zei ha.1 ha.2,zei hb.1 hb.2,zei hc.1 hc.2,zei hd.1 hd.2] at e;have e:=List.append_cancel_left e;simp at e;omega
 ·rintro ⟨rfl,rfl⟩;rfl
theorem znF {k x y:Int}:32∉(dltT k x y).cps.toList:=fun z=>by
 rw [zfF] at z;rcases List.mem_append.mp z with z | z
 ·exact zkD _ z
 ·rcases List.mem_cons.mp z with z | z
  ·cases z
  ·rcases List.mem_append.mp z with z | z
   ·exact zkD _ z
   ·rcases List.mem_cons.mp z with z | z
    ·cases z
    ·exact zkD _ z
theorem zfG (rows:List (List Int)):(dltR rows).length=rows.length:=by unfold dltR;rw [List.length_map,List.length_range]
def Eig (n:Int) (rows:List (List Int)):Prop:=∀ i,i < rows.length→(rows.getD i []).length=2∧(1≤(rows.getD i []).getD 0 0∧(rows.getD i []).getD 0 0≤n)∧1≤(rows.getD i []).getD 1 0∧(rows.getD i []).getD 1 0≤n
theorem zez {hs:List Int} {rs tt:List (List Int)} (h:zaR hs rs tt=true):Eig rs.length tt:=fun i hi=>by
 have RP:=zby.mp h;have hi:i < hs.length:=by rw [← RP.len];exact hi
 have h1:=RP.lo i hi;have h2:=RP.lt i hi;have h3:=RP.hi i hi;exact ⟨RP.two i hi,by omega,by omega⟩
theorem zgO {a:Int} (h1:1≤a) (h2:a≤10):(tS a).length≤2:=by
 rcases (show a=1∨a=2∨a=3∨a=4∨a=5∨a=6∨a=7∨a=8∨a=9∨a=10 by omega) with rfl | rfl | rfl | rfl | rfl | rfl | rfl | rfl | rfl | rfl <;> decide +kernel
theorem zkM {rows:List (List Int)} {n:Int} (S:Eig n rows) (h8:n≤8) (hl:rows.length≤10) {x:Str} (h:x∈dltR rows):32∉x.cps.toList∧1≤x.length∧x.length≤8:=by
 obtain ⟨i,hi,rfl⟩:=List.mem_map.mp h;have hi:=List.mem_range.mp hi;obtain ⟨_,s1,s2⟩:=S i hi;refine ⟨znF,?_⟩;have h1:=zgO (a:=(i:Int)+1) (by omega) (by omega);have h2:=zgO s1.1 (by omega);have h3:=zgO s2.1 (by omega);unfold dltT;rw [zaP,zaP,zaP,zaP,zaP,len_emp,ll_col,ll_plus];omega
theorem zl8 {rows:List (List Int)} {n:Int} (h0:rows≠[]) (S:Eig n rows) (h8:n≤8) (hl:rows.length≤10):RowT (rowT (dltR rows)) (dltR rows):=by
 have hm:=fun x (h:x∈dltR rows)=>zkM S h8 hl h;have hn:=zfG rows
 match hd:dltR rows with
 | [] =>
   rw [hd] at hn;exact absurd (List.length_eq_zero_iff.mp hn.symm) h0
 | w::ws =>
   rw [hd] at hm hn;obtain ⟨l1,l2⟩:=zkK (m:=8) (fun x hx=>(hm x hx).2.2) (hm w (by simp)).2.1;exact RowT.glue (fun x hx=>(hm x hx).1) l1 (by rw [List.length_cons] at l2 hn;omega)
def more32:List Act:=[.ask .against,.deal,.ask .dealing,.ask .due,.ask .left,.ask .marks,.ask .against,.deal]
def P32 (bs:List Act) (hs:List Int) (rs:List (List Int)) (i:Nat) (st:ExS):Prop:=(i≤bs.length∧st=stA bs i)∨(i=bs.length+1∧st=⟨hs,rs,0,none⟩)∨(bs.length+2≤i∧∃ tt,zaZ hs rs (some tt)∧st=⟨hs,rs,0,some (tt,[])⟩)
section
variable {rows:List Str} {bs:List Act} {hs:List Int} {rs known:List (List Int)}
theorem P32.at (B:Brg rows bs hs rs) {st:ExS} {j:Nat} (hj:j≤1) (h:P32 bs hs rs (bs.length+j) st):st=⟨hs,rs,0,none⟩:=by
 rcases h with ⟨h1,h2⟩ | ⟨_,h⟩ | ⟨h1,_⟩
 ·have:j=0:=by omega
  subst this;rw [h2];exact B.all
 ·exact h
 ·omega
theorem P32.on {st:ExS} {j:Nat} (hj:2≤j) (h:P32 bs hs rs (bs.length+j) st):∃ tt,zaZ hs rs (some tt)∧st=⟨hs,rs,0,some (tt,[])⟩:=by
 rcases h with ⟨h1,_⟩ | ⟨h1,_⟩ | ⟨_,h⟩
 ·omega
 ·omega
 ·exact h
theorem P32.ok (B:Brg rows bs hs rs) (IB:InB hs rs) {st:ExS} {i:Nat} (h:P32 bs hs rs i st):D32 st:=by
 rcases h with ⟨h1,rfl⟩ | ⟨_,rfl⟩ | ⟨_,tt,F,rfl⟩
 ·exact ⟨(D31.at bs i).inb,.inl (B.dl i h1)⟩
 ·exact ⟨IB,.inl rfl⟩
 ·exact ⟨IB,.inr ⟨tt,rfl,F.1⟩⟩
theorem P32.step (B:Brg rows bs hs rs) (RK:zaR hs rs known=true) {i:Nat} {st st':ExS} {r:Str} (hi:i < (bs++more32).length) (hp:P32 bs hs rs i st) (h:Res st ((bs++more32).getD i .deal) st' r):P32 bs hs rs (i+1) st':=by
 rw [List.length_append,show more32.length=8 from rfl] at hi
 by_cases c:i < bs.length
 ·rcases hp with ⟨_,rfl⟩ | ⟨h1,_⟩ | ⟨h1,_⟩
  ·rw [zas c] at h;obtain ⟨d,hd⟩:=B.br i c;rw [hd] at h;refine .inl ⟨c,?_⟩;rw [zhv c,hd];exact h.bring_inv.1
  ·omega
  ·omega
 ·rw [zb9 (by omega)] at h;obtain ⟨j,rfl⟩:∃ j,i=bs.length+j:=⟨i-bs.length,by omega⟩
  rw [show bs.length+j-bs.length=j by omega] at h;have on:2≤j→st'=st→P32 bs hs rs (bs.length+j+1) st':=fun hj e=>by
   obtain ⟨tt,h1,h2⟩:=hp.on hj;exact .inr (.inr ⟨by omega,tt,h1,by rw [e];exact h2⟩)
  rcases (show j=0∨j=1∨j=2∨j=3∨j=4∨j=5∨j=6∨j=7 by omega) with rfl | rfl | rfl | rfl | rfl | rfl | rfl | rfl
  ·exact .inr (.inl ⟨rfl,by rw [Res.ask_inv (q:=.against) h];exact hp.at B (by decide)⟩)
  ·have e:=hp.at B (by decide);subst e;rcases Res.deal_inv h with ⟨_,z,_⟩ | ⟨tt,_,z,e,_⟩ | ⟨z,_⟩
   ·have:=z known;rw [RK] at this
    cases this
   ·exact .inr (.inr ⟨Nat.le_refl _,tt,z,e⟩)
   ·cases z
  ·exact on (by decide) (Res.ask_inv (q:=.dealing) h)
  ·exact on (by decide) (Res.ask_inv (q:=.due) h)
  ·exact on (by decide) (Res.ask_inv (q:=.left) h)
  ·exact on (by decide) (Res.ask_inv (q:=.marks) h)
  ·exact on (by decide) (Res.ask_inv (q:=.against) h)
  ·refine on (by decide) ?_;obtain ⟨tt,_,h2⟩:=hp.on (by decide);rcases Res.deal_inv h with ⟨z,_⟩ | ⟨tt,z,_⟩ | ⟨_,e,_⟩
   ·rw [h2] at z;cases z
   ·rw [h2] at z;cases z
   ·exact e
theorem zoi {l:List Str} (h:l.length=8):l=[l.getD 0 "",l.getD 1 "",l.getD 2 "",l.getD 3 "",l.getD 4 "",l.getD 5 "",l.getD 6 "",l.getD 7 ""]:=by
 match l,h with
 | [_,_,_,_,_,_,_,_],_=>rfl
def opnR (n:Nat):List Str:=(List.range n).map fun i:Nat=>opnT ((i:Int)+1)
def dueR (rows:List (List Int)):List Str:=rows.map fun r=>dueT (r.getD 0 0) (r.getD 1 0)
def zhx (hs:List Int) (rs tt:List (List Int)):List Str:=["none","dealt",rowT (dltR tt),rowT (dueR (dueB tt [])),rowT ((zbc rs tt).map tS),rowT (opnR hs.length),"none","refused: out of time"]
theorem zoj (B:Brg rows bs hs rs) (RK:zaR hs rs known=true) (IB:InB hs rs) {an:List Str} {st:ExS} (R:RunR ⟨[],[],0,none⟩ (bs++more32) an st) (hl:an.length=bs.length+8):∃ tt,zaZ hs rs (some tt)∧an.drop bs.length=zhx hs rs tt:=by
 have hml:(bs++more32).length=bs.length+8:=by rw [List.length_append];rfl
 obtain ⟨ss,hP,hR⟩:=R.inv (P:=P32 bs hs rs) (.inl ⟨Nat.zero_le _,rfl⟩) fun i s s' r hi hp h=>hp.step B RK (by omega) h;have at':∀ j,j≤7→Res (ss (bs.length+j)) (more32.getD j .deal) (ss (bs.length+(j+1))) ((an.drop bs.length).getD j ""):=fun j hj=>by
  have h1:=hR (bs.length+j) (by omega);rw [zb9 (by omega),show bs.length+j-bs.length=j by omega,← zjG] at h1;exact h1
 have hd:(an.drop bs.length).length=8:=by rw [List.length_drop];omega
 have a0:=at' 0 (by decide);have a1:=at' 1 (by decide);have a2:=at' 2 (by decide);have a3:=at' 3 (by decide);have a4:=at' 4 (by decide);have a5:=at' 5 (by decide);have a6:=at' 6 (by decide);have a7:=at' 7 (by decide);rw [(hP _ (by omega)).at B (by decide)] at a0;rw [(hP _ (by omega)).at B (by decide)] at a1;obtain ⟨tt,F,e2⟩:=(hP (bs.length+2) (by omega)).on (by decide);have e3:=(Res.ask_inv (q:=.dealing) a2).trans e2;have e4:=(Res.ask_inv (q:=.due) a3).trans e3;have e5:=(Res.ask_inv (q:=.left) a4).trans e4;have e6:=(Res.ask_inv (q:=.marks) a5).trans e5;have e7:=(Res.ask_inv (q:=.against) a6).trans e6;have e2:ss (bs.length+(1+1))=_:=e2;have e3:ss (bs.length+(2+1))=_:=e3;rw [show bs.length+2=bs.length+(1+1) from rfl,e2] at a2;rw [show bs.length+3=bs.length+(2+1) from rfl,e3] at a3;rw [show bs.length+4=bs.length+(3+1) from rfl,e4] at a4;rw [show bs.length+5=bs.length+(4+1) from rfl,e5] at a5;rw [show bs.length+6=bs.length+(5+1) from rfl,e6] at a6;rw [show bs.length+7=bs.length+(6+1) from rfl,e7] at a7;have b0:(an.drop bs.length).getD 0 "" = "none":=by
  rcases Res.ag_inv a0 with ⟨_,z⟩ | ⟨ws,_,z,_⟩
  ·exact z
  ·have h1:=(zdc (hs:=hs) (rs:=rs) fun i hi=>(IB.rl i hi).1).mp ⟨known,RK⟩ ws z.1;rw [z.2.1] at h1
   cases h1
 have b1:(an.drop bs.length).getD 1 "" = "dealt":=by
  rcases Res.deal_inv a1 with ⟨_,z,_⟩ | ⟨_,_,_,_,z⟩ | ⟨z,_⟩
  ·have:=z known;rw [RK] at this
   cases this
  ·exact z
  ·cases z
 have b2:(an.drop bs.length).getD 2 "" = rowT (dltR tt):=by
  rcases Res.dealing_inv a2 with ⟨z,_⟩ | ⟨nm,en,z,h⟩
  ·cases z
  ·injection z with z;injection z with z1 z2;rw [h,← z1,zhs F.1]
 have b3:(an.drop bs.length).getD 3 "" = rowT (dueR (dueB tt [])):=Res.due_inv a3;have b4:(an.drop bs.length).getD 4 "" = rowT ((zbc rs tt).map tS):=Res.left_inv a4;have b5:(an.drop bs.length).getD 5 "" = rowT (opnR hs.length):=Res.marks_inv a5;have b6:(an.drop bs.length).getD 6 "" = "none":=by
  rcases Res.ag_inv a6 with ⟨_,z⟩ | ⟨ws,z,_⟩
  ·exact z
  ·cases z
 have b7:(an.drop bs.length).getD 7 "" = "refused: out of time":=by
  rcases Res.deal_inv a7 with ⟨z,_⟩ | ⟨tt,z,_⟩ | ⟨_,_,e⟩
  ·cases z
  ·cases z
  ·exact e
 refine ⟨tt,F,?_⟩;rw [zoi hd,b0,b1,b2,b3,b4,b5,b6,b7];rfl
theorem more32_ok:za8 ([Str.ofString "against",Str.ofString "deal",Str.ofString "dealing",Str.ofString "due",Str.ofString "left",Str.ofString "marks",Str.ofString "against",Str.ofString "deal"]:List Str) more32 :=
 .ask .against (.deal (.ask .dealing (.ask .due (.ask .left (.ask .marks (.ask .against (.deal .nil)))))))
end
end Prf
open PySem PySem.Spec PyProof.Rows L2
local macro_rules | `(tactic| walk_at "ne")=>`(tactic| first | assumption | (exact Ne.symm (by assumption)) | (exact zag (by assumption) (by assumption)) | (exact Ne.symm (zag (by assumption) (by assumption))))
local macro_rules | `(tactic| walk_at "hp")=>`(tactic| first | assumption | (exact zar) | (exact SqL.of zar) | (exact SqL.of (by assumption)) | (exact Eq.trans (zaJ (by walk_at "ne")) (by walk_at "hp")) | (exact SqL.of (Eq.trans (zaJ (by walk_at "ne")) (by walk_at "hp"))))
local macro_rules | `(tactic| walk_at "ty")=>`(tactic| first | (exact TyOf.int _) | (exact TyOf.bl _) | (exact TyOf.non) | (exact TyOf.str _) | (exact TyOf.lst (by walk_at "hp")))
local macro_rules | `(tactic| walk_at "ix")=>`(tactic| first | (exact zeb (by omega) (by omega)) | (exact zj9 (by omega) (by omega)) | (exact rfl))
local macro_rules | `(tactic| walk_at "rd1")=>`(tactic| first
 | (with_reducible refine zmJ ?_) | (with_reducible refine zn4 ?_) | (with_reducible refine zn5 ?_) | (with_reducible refine zn3 ?_) | (with_reducible refine zmK ?_) | (with_reducible refine zmL ?_) | (with_reducible refine r_break ?_) | (with_reducible refine r_intI ?_) | (with_reducible refine znv ?_) | (with_reducible refine zlw ?_)
 | (with_reducible refine r_op ?_) | ((with_reducible refine' zhL ?rv ?_);(case rv=>exact rfl)) | (with_reducible refine r_c ?_)
 | (with_reducible refine r_I0 ?_) | (with_reducible refine zmQ ?_) | (with_reducible refine zno ?_) | (with_reducible refine r_eq2B ?_) | (with_reducible refine znq ?_) | (with_reducible refine r_ne2B ?_) | (with_reducible refine r_eqGI ?_) | (with_reducible refine zkZ ?_) | (with_reducible refine r_eqGB ?_) | (with_reducible refine r_neGB ?_)
 | (with_reducible refine r_cb ?_) | (with_reducible refine ziM ?_) | (with_reducible refine zfu ?_) | (with_reducible refine zkY ?_) | (with_reducible refine zn0 ?_) | (with_reducible refine r_bm ?_)
 | (with_reducible refine zmF ?_) | (with_reducible refine r_orV ?_) | (with_reducible refine zmG ?_) | (with_reducible refine zmH ?_) | (with_reducible refine zmI ?_) | (with_reducible refine r_tB ?_)
 | (with_reducible refine zn1 ?_) | (with_reducible refine r_or ?_) | (with_reducible refine zn2 ?_) | (with_reducible refine r_if ?_) | (with_reducible refine r_tt ?_) | (with_reducible refine zlx ?_) | (with_reducible refine zly ?_)
 | ((with_reducible refine' znu ?h1 ?_);(case h1=>walk_at "hp")) | ((with_reducible refine' r_notIn2I ?h1 ?_);(case h1=>walk_at "hp")) | (with_reducible refine r_forZ ?_)
 | (with_reducible refine zob ?_) | (with_reducible refine r_notN ?_)
 | (with_reducible refine zmX ?_) | (with_reducible refine zmY ?_) | ((with_reducible refine' zmZ ?h1 ?h2 ?_);(case h1=>omega);(case h2=>omega)) | ((with_reducible refine' r_pow ?h1 ?_);(case h1=>exact ⟨by decide,by decide,by decide⟩))
 | ((with_reducible refine' zm3 ?h1 ?_);(case h1=>first | (exact .inl (.inr ⟨by decide,by decide⟩)) | (exact .inl (.inl ⟨by omega,by omega⟩)) | (exact .inl (.inr ⟨by omega,by omega⟩)) | (exact .inr ⟨⟨by omega,by omega⟩,by omega,by omega⟩)))
 | (with_reducible refine r_lr ?_) | (with_reducible refine r_sl ?_) | (with_reducible refine zlJ ?_) | (with_reducible refine zm0 ?_) | (with_reducible refine zlK ?_) | (with_reducible refine zkd ?_) | (with_reducible refine zm1 ?_)
 | (with_reducible refine zmW ?_) | ((with_reducible refine' zkc ?h1 ?_);(case h1=>walk_at "hp"))
 | (with_reducible refine r_for3 ?_) | (with_reducible refine r_tun ?_) | (with_reducible refine r_un ?_)
 | (with_reducible refine zmM ?_) | (with_reducible refine zmN ?_) | (with_reducible refine zmR ?_) | (with_reducible refine zlz ?_) | (with_reducible refine zlA ?_) | (with_reducible refine zlB ?_) | (with_reducible refine zm7 ?_) | (with_reducible refine zlS ?_) | (with_reducible refine zlT ?_)
 | (with_reducible refine zod ?_) | (with_reducible refine zna ?_) | (with_reducible refine znb ?_) | (with_reducible refine znc ?_) | (with_reducible refine znd ?_) | (with_reducible refine zoe ?_) | (with_reducible refine zof ?_) | (with_reducible refine znj ?_) | (with_reducible refine r_dget ?_) | (with_reducible refine znf ?_)
 | ((with_reducible refine' zkp ?h1 ?h2 ?h3 ?h4 ?_);(case h1=>assumption);(case h2=>assumption);(case h3=>assumption);(case h4=>assumption))
 | ((with_reducible refine' zn8 ?h1 ?_);(case h1=>omega)) | ((with_reducible refine' r_div ?h1 ?h2 ?_);(case h1=>omega);(case h2=>omega)) | ((with_reducible refine' r_mul ?h1 ?_);(case h1=>first | (exact .inr ⟨by decide,by decide⟩) | (exact .inl ⟨by omega,by omega⟩) | (exact .inr ⟨by omega,by omega⟩))) | ((with_reducible refine' zn9 ?h1 ?_);(case h1=>walk_at "hp"))
 | ((with_reducible refine' zeo ?h1 ?h2 ?_);(case h1=>walk_at "hp");(case h2=>walk_at "ix"))
 | ((with_reducible refine' zmO ?h1 ?_);(case h1=>walk_at "hp")) | ((with_reducible refine' zmP ?h1 ?_);(case h1=>walk_at "hp")) | ((with_reducible refine' zn6 ?h1 ?_);(case h1=>walk_at "hp"))
 | ((with_reducible refine' zn7 ?h1 ?h2 ?_);(case h1=>walk_at "ty");(case h2=>rfl)))
local macro_rules | `(tactic| walk_at "rd")=>`(tactic| repeat (walk_at "rd1"))
local macro_rules | `(tactic| walk_at "st")=>`(tactic| repeat ((fail_if_success (with_reducible refine zmJ ?_));walk_at "rd1"))
local macro_rules | `(tactic| walk_at "rdk")=>`(tactic| repeat (first | walk_at "rd1" | (with_reducible refine iteF ?_) | (with_reducible refine iteT ?_) | (refine zbL (fun h=>absurd h (by omega)) (fun _=>?_)) | (refine zbL (fun _=>?_) (fun h=>absurd (by omega) h))))
local macro_rules | `(tactic| symm)=>`(tactic| walk_at "rd")
set_option hygiene false
local macro_rules | `(tactic| walk_at "hd")=>`(tactic| (obtain ⟨e,kvs,rfl,hF,I⟩:=E0;have hcl:=T.cl_Exam;have nA:=T.n_Exam_paper_houses;have nB:=T.n_Exam_reader_rows;have nS:=T.n_Exam_widest_step;have nD:=T.n_Exam_is_dealt;have nC:=T.n_Exam_named_readers;have nE:=T.n_Exam_entered_points;have hob:=I.ob;have fA:=@exFs_a (.ref e.a) (.ref e.b) (.int st.step) (.bl st.dl.isSome) (.ref e.c) (.ref e.d);have fB:=@exFs_b (.ref e.a) (.ref e.b) (.int st.step) (.bl st.dl.isSome) (.ref e.c) (.ref e.d);have fS:=@exFs_s (.ref e.a) (.ref e.b) (.int st.step) (.bl st.dl.isSome) (.ref e.c) (.ref e.d);have fD:=@exFs_d (.ref e.a) (.ref e.b) (.int st.step) (.bl st.dl.isSome) (.ref e.c) (.ref e.d);have fC:=@exFs_c (.ref e.a) (.ref e.b) (.int st.step) (.bl st.dl.isSome) (.ref e.c) (.ref e.d);have fE:=@exFs_e (.ref e.a) (.ref e.b) (.int st.step) (.bl st.dl.isSome) (.ref e.c) (.ref e.d);have hha:=I.ha;have hhb:=I.hb;have hhc:=I.hc;have hhd:=I.hd))
set_option hygiene true
namespace Prf
open PySem PySem.Spec PyProof.Rows L2
def top (i:Nat):Stmt:=PySem.Challenge.pw_secondread_k32_desk_dealing.main.body.getD i (.Pass ⟨0,0,0,0⟩)
abbrev s_65:Stmt:=top 67
theorem sc_65:zam ["_law_script","_law_k"] ["_law_script","_law_k"] (zab s_65):=⟨rfl,rfl,rfl,by decide +kernel,rfl,by decide +kernel,by decide +kernel⟩
abbrev s_67:Stmt:=top 69
theorem sc_67:zam ["_law_script","_law_first","_law_least","_law_shape","_law_count","_law_few","_law_spare_here","_law_staff","_law_homes","_law_rows","_law_k","_law_cell","_law_one","_law_two","_law_fit","_law_used"] ["_law_script","_law_first","_law_least"] (zab s_67):=⟨rfl,rfl,rfl,by decide +kernel,rfl,by decide +kernel,by decide +kernel⟩
abbrev s_30:Stmt:=zbb (top 51) 0
theorem sc_30:zam ["self"] ["self"] (zab s_30):=⟨rfl,rfl,rfl,by decide +kernel,rfl,by decide +kernel,by decide +kernel⟩
abbrev s_60:Stmt:=top 61
theorem sc_60:zam ["parts"] ["parts"] (zab s_60):=⟨rfl,rfl,rfl,by decide +kernel,rfl,by decide +kernel,by decide +kernel⟩
abbrev s_61:Stmt:=top 62
theorem sc_61:zam ["paper","first","second"] ["paper","first","second"] (zab s_61):=⟨rfl,rfl,rfl,by decide +kernel,rfl,by decide +kernel,by decide +kernel⟩
abbrev s_58:Stmt:=top 59
theorem sc_58:zam ["rows"] ["rows"] (zab s_58):=⟨rfl,rfl,rfl,by decide +kernel,rfl,by decide +kernel,by decide +kernel⟩
abbrev s_40:Stmt:=zbb (top 51) 10
theorem sc_40:zam ["self"] ["self"] (zab s_40):=⟨rfl,rfl,rfl,by decide +kernel,rfl,by decide +kernel,by decide +kernel⟩
abbrev s_59:Stmt:=top 60
theorem sc_59:zam ["chosen"] ["chosen"] (zab s_59):=⟨rfl,rfl,rfl,by decide +kernel,rfl,by decide +kernel,by decide +kernel⟩
abbrev s_4:Stmt:=top 13
theorem sc_4:zam ["chosen"] ["chosen"] (zab s_4):=⟨rfl,rfl,rfl,by decide +kernel,rfl,by decide +kernel,by decide +kernel⟩
abbrev s_3:Stmt:=top 12
theorem sc_3:zam ["of_one_size","many","larger","chosen","paper"] ["of_one_size","many"] (zab s_3):=⟨rfl,rfl,rfl,by decide +kernel,rfl,by decide +kernel,by decide +kernel⟩
abbrev s_2:Stmt:=top 11
theorem sc_2:zam ["many","told","of_one_size"] ["many"] (zab s_2):=⟨rfl,rfl,rfl,by decide +kernel,rfl,by decide +kernel,by decide +kernel⟩
abbrev s_0:Stmt:=top 8
theorem sc_0:zam ["papers","readers","paper","reader","reader_house"] ["papers","readers","paper","reader"] (zab s_0):=⟨rfl,rfl,rfl,by decide +kernel,rfl,by decide +kernel,by decide +kernel⟩
abbrev s_6:Stmt:=top 16
theorem sc_6:zam ["papers","readers","chosen","reader","limit","may_be_read"] ["papers","readers","chosen","reader"] (zab s_6):=⟨rfl,rfl,rfl,by decide +kernel,rfl,by decide +kernel,by decide +kernel⟩
abbrev s_5:Stmt:=top 15
theorem sc_5:zam ["papers","readers","chosen"] ["papers","readers","chosen"] (zab s_5):=⟨rfl,rfl,rfl,by decide +kernel,rfl,by decide +kernel,by decide +kernel⟩
abbrev s_7:Stmt:=top 17
theorem sc_7:zam ["papers","readers","chosen"] ["papers","readers","chosen"] (zab s_7):=⟨rfl,rfl,rfl,by decide +kernel,rfl,by decide +kernel,by decide +kernel⟩
abbrev s_8:Stmt:=top 18
theorem sc_8:zam ["papers","readers","chosen"] ["papers","readers"] (zab s_8):=⟨rfl,rfl,rfl,by decide +kernel,rfl,by decide +kernel,by decide +kernel⟩
abbrev s_41:Stmt:=zbb (top 51) 11
theorem sc_41:zam ["self"] ["self"] (zab s_41):=⟨rfl,rfl,rfl,by decide +kernel,rfl,by decide +kernel,by decide +kernel⟩
abbrev s_48:Stmt:=zbb (top 51) 18
theorem sc_48:zam ["self","paper","entered"] ["self","paper"] (zab s_48):=⟨rfl,rfl,rfl,by decide +kernel,rfl,by decide +kernel,by decide +kernel⟩
abbrev s_42:Stmt:=zbb (top 51) 12
theorem sc_42:zam ["self","rows","paper"] ["self"] (zab s_42):=⟨rfl,rfl,rfl,by decide +kernel,rfl,by decide +kernel,by decide +kernel⟩
abbrev s_62:Stmt:=top 63
theorem sc_62:zam ["paper","reader"] ["paper","reader"] (zab s_62):=⟨rfl,rfl,rfl,by decide +kernel,rfl,by decide +kernel,by decide +kernel⟩
abbrev s_49:Stmt:=zbb (top 51) 19
theorem sc_49:zam ["self","paper","entered"] ["self","paper"] (zab s_49):=⟨rfl,rfl,rfl,by decide +kernel,rfl,by decide +kernel,by decide +kernel⟩
abbrev s_24:Stmt:=top 42
theorem sc_24:zam ["points","step"] ["points","step"] (zab s_24):=⟨rfl,rfl,rfl,by decide +kernel,rfl,by decide +kernel,by decide +kernel⟩
abbrev s_50:Stmt:=zbb (top 51) 20
theorem sc_50:zam ["self","paper","points","readings"] ["self","paper"] (zab s_50):=⟨rfl,rfl,rfl,by decide +kernel,rfl,by decide +kernel,by decide +kernel⟩
abbrev s_43:Stmt:=zbb (top 51) 13
theorem sc_43:zam ["self"] ["self"] (zab s_43):=⟨rfl,rfl,rfl,by decide +kernel,rfl,by decide +kernel,by decide +kernel⟩
abbrev s_64:Stmt:=top 65
theorem sc_64:zam ["reader","points"] ["reader","points"] (zab s_64):=⟨rfl,rfl,rfl,by decide +kernel,rfl,by decide +kernel,by decide +kernel⟩
abbrev s_63:Stmt:=top 64
theorem sc_63:zam ["paper","mark","top","bottom","readings"] ["paper","mark"] (zab s_63):=⟨rfl,rfl,rfl,by decide +kernel,rfl,by decide +kernel,by decide +kernel⟩
abbrev s_15:Stmt:=top 32
theorem sc_15:zam ["rows","reader"] ["rows","reader"] (zab s_15):=⟨rfl,rfl,rfl,by decide +kernel,rfl,by decide +kernel,by decide +kernel⟩
abbrev s_14:Stmt:=top 31
theorem sc_14:zam ["readers","rows"] ["readers","rows"] (zab s_14):=⟨rfl,rfl,rfl,by decide +kernel,rfl,by decide +kernel,by decide +kernel⟩
abbrev s_44:Stmt:=zbb (top 51) 14
theorem sc_44:zam ["self"] ["self"] (zab s_44):=⟨rfl,rfl,rfl,by decide +kernel,rfl,by decide +kernel,by decide +kernel⟩
abbrev s_57:Stmt:=top 58
theorem sc_57:zam ["exam","question"] ["exam","question"] (zab s_57):=⟨rfl,rfl,rfl,by decide +kernel,rfl,by decide +kernel,by decide +kernel⟩
abbrev s_45:Stmt:=zbb (top 51) 15
theorem sc_45:zam ["self"] ["self"] (zab s_45):=⟨rfl,rfl,rfl,by decide +kernel,rfl,by decide +kernel,by decide +kernel⟩
abbrev s_26:Stmt:=top 45
theorem sc_26:zam ["number","least","most"] ["number","least","most"] (zab s_26):=⟨rfl,rfl,rfl,by decide +kernel,rfl,by decide +kernel,by decide +kernel⟩
abbrev s_28:Stmt:=top 47
theorem sc_28:zam ["many","most"] ["many","most"] (zab s_28):=⟨rfl,rfl,rfl,by decide +kernel,rfl,by decide +kernel,by decide +kernel⟩
abbrev s_31:Stmt:=zbb (top 51) 1
theorem sc_31:zam ["self","house"] ["self","house"] (zab s_31):=⟨rfl,rfl,rfl,by decide +kernel,rfl,by decide +kernel,by decide +kernel⟩
abbrev s_27:Stmt:=top 46
theorem sc_27:zam ["number","most"] ["number","most"] (zab s_27):=⟨rfl,rfl,rfl,by decide +kernel,rfl,by decide +kernel,by decide +kernel⟩
abbrev s_32:Stmt:=zbb (top 51) 2
theorem sc_32:zam ["self","house","limit"] ["self","house","limit"] (zab s_32):=⟨rfl,rfl,rfl,by decide +kernel,rfl,by decide +kernel,by decide +kernel⟩
abbrev s_33:Stmt:=zbb (top 51) 3
theorem sc_33:zam ["self","step"] ["self","step"] (zab s_33):=⟨rfl,rfl,rfl,by decide +kernel,rfl,by decide +kernel,by decide +kernel⟩
abbrev s_35:Stmt:=zbb (top 51) 5
theorem sc_35:zam ["self","paper","reader","points"] ["self","paper","reader","points"] (zab s_35):=⟨rfl,rfl,rfl,by decide +kernel,rfl,by decide +kernel,by decide +kernel⟩
abbrev s_18:Stmt:=top 35
theorem sc_18:zam ["numbers","pairs","place","first","second"] ["numbers"] (zab s_18):=⟨rfl,rfl,rfl,by decide +kernel,rfl,by decide +kernel,by decide +kernel⟩
abbrev s_1:Stmt:=top 9
theorem sc_1:zam ["papers","readers","paper"] ["papers","readers","paper"] (zab s_1):=⟨rfl,rfl,rfl,by decide +kernel,rfl,by decide +kernel,by decide +kernel⟩
abbrev s_13:Stmt:=top 30
theorem sc_13:zam ["readers","rows"] ["readers","rows"] (zab s_13):=⟨rfl,rfl,rfl,by decide +kernel,rfl,by decide +kernel,by decide +kernel⟩
abbrev s_Attempt___init__:Stmt:=zbb (top 28) 0
theorem sc_Attempt___init__:zam ["self","papers","readers"] ["self","papers","readers"] (zab s_Attempt___init__):=⟨rfl,rfl,rfl,by decide +kernel,rfl,by decide +kernel,by decide +kernel⟩
abbrev s_Attempt_free_reading:Stmt:=zbb (top 28) 2
theorem sc_Attempt_free_reading:zam ["self","reader","asked","paper"] ["self","reader","asked"] (zab s_Attempt_free_reading):=⟨rfl,rfl,rfl,by decide +kernel,rfl,by decide +kernel,by decide +kernel⟩
abbrev s_Attempt_find_reader:Stmt:=zbb (top 28) 1
theorem sc_Attempt_find_reader:zam ["self","paper","asked","reader"] ["self","paper","asked"] (zab s_Attempt_find_reader):=⟨rfl,rfl,rfl,by decide +kernel,rfl,by decide +kernel,by decide +kernel⟩
abbrev s_9:Stmt:=top 27
theorem sc_9:zam ["papers","readers","attempt","paper","turn"] ["papers","readers"] (zab s_9):=⟨rfl,rfl,rfl,by decide +kernel,rfl,by decide +kernel,by decide +kernel⟩
abbrev s_20:Stmt:=top 37
theorem sc_20:zam ["readers","limits"] ["readers","limits"] (zab s_20):=⟨rfl,rfl,rfl,by decide +kernel,rfl,by decide +kernel,by decide +kernel⟩
abbrev s_19:Stmt:=top 36
theorem sc_19:zam ["papers","readers","rows"] ["papers","readers","rows"] (zab s_19):=⟨rfl,rfl,rfl,by decide +kernel,rfl,by decide +kernel,by decide +kernel⟩
abbrev s_17:Stmt:=top 34
theorem sc_17:zam ["papers","readers","rows","paper","row"] ["papers","readers","rows"] (zab s_17):=⟨rfl,rfl,rfl,by decide +kernel,rfl,by decide +kernel,by decide +kernel⟩
abbrev s_16:Stmt:=top 33
theorem sc_16:zam ["papers","readers","rows","row"] ["papers","readers"] (zab s_16):=⟨rfl,rfl,rfl,by decide +kernel,rfl,by decide +kernel,by decide +kernel⟩
abbrev s_34:Stmt:=zbb (top 51) 4
theorem sc_34:zam ["self","rows"] ["self"] (zab s_34):=⟨rfl,rfl,rfl,by decide +kernel,rfl,by decide +kernel,by decide +kernel⟩
abbrev s_56:Stmt:=top 57
theorem sc_56:zam ["exam","deed","numbers"] ["exam","deed","numbers"] (zab s_56):=⟨rfl,rfl,rfl,by decide +kernel,rfl,by decide +kernel,by decide +kernel⟩
abbrev s_55:Stmt:=top 56
theorem sc_55:zam ["exam","deed","numbers"] ["exam","deed","numbers"] (zab s_55):=⟨rfl,rfl,rfl,by decide +kernel,rfl,by decide +kernel,by decide +kernel⟩
abbrev s_54:Stmt:=top 55
theorem sc_54:zam ["exam","row","words","numbers"] ["exam","row"] (zab s_54):=⟨rfl,rfl,rfl,by decide +kernel,rfl,by decide +kernel,by decide +kernel⟩
abbrev s_53:Stmt:=top 54
theorem sc_53:zam ["rows","exam"] ["rows"] (zab s_53):=⟨rfl,rfl,rfl,by decide +kernel,rfl,by decide +kernel,by decide +kernel⟩
abbrev s_72:Stmt:=top 74
theorem sc_72:zam ["_law_text","_law_many","_law_count","_law_parts","_law_rows","_law_k","_law_one","_law_two"] ["_law_text","_law_many","_law_count"] (zab s_72):=⟨rfl,rfl,rfl,by decide +kernel,rfl,by decide +kernel,by decide +kernel⟩
abbrev s_70:Stmt:=top 72
theorem sc_70:zam ["_law_told","_law_rival","_law_k","_law_j"] ["_law_told","_law_rival"] (zab s_70):=⟨rfl,rfl,rfl,by decide +kernel,rfl,by decide +kernel,by decide +kernel⟩
abbrev s_66:Stmt:=top 68
theorem sc_66:zam ["_law_found"] ["_law_found"] (zab s_66):=⟨rfl,rfl,rfl,by decide +kernel,rfl,by decide +kernel,by decide +kernel⟩
abbrev s_68:Stmt:=top 70
theorem sc_68:zam ["_law_staff","_law_house","_law_row","_law_one"] ["_law_staff","_law_house","_law_row"] (zab s_68):=⟨rfl,rfl,rfl,by decide +kernel,rfl,by decide +kernel,by decide +kernel⟩
abbrev s_69:Stmt:=top 71
theorem sc_69:zam ["_law_homes","_law_staff","_law_rows","_law_k"] ["_law_homes","_law_staff","_law_rows"] (zab s_69):=⟨rfl,rfl,rfl,by decide +kernel,rfl,by decide +kernel,by decide +kernel⟩
abbrev s_73:Stmt:=top 75
theorem sc_73:zam ["_law_parts"] ["_law_parts"] (zab s_73):=⟨rfl,rfl,rfl,by decide +kernel,rfl,by decide +kernel,by decide +kernel⟩
abbrev s_71:Stmt:=top 73
theorem sc_71:zam ["_law_staff","_law_names","_law_left","_law_k"] ["_law_staff","_law_names"] (zab s_71):=⟨rfl,rfl,rfl,by decide +kernel,rfl,by decide +kernel,by decide +kernel⟩
abbrev s_74:Stmt:=top 76
theorem sc_74:zam ["_law_script","_law_made","_law_asked","_law_people","_law_more","_law_found","_law_one","_law_told","_law_rows","_law_waiting","_law_k","_law_due"] ["_law_script"] (zab s_74):=⟨rfl,rfl,rfl,by decide +kernel,rfl,by decide +kernel,by decide +kernel⟩
set_option genInjectivity false in
set_option genSizeOf false in
structure Adr where
 f_65:Addr
 d_65:FuncData
 f_67:Addr
 d_67:FuncData
 f_30:Addr
 d_30:FuncData
 f_60:Addr
 d_60:FuncData
 f_61:Addr
 d_61:FuncData
 f_58:Addr
 d_58:FuncData
 f_40:Addr
 d_40:FuncData
 f_59:Addr
 d_59:FuncData
 f_4:Addr
 d_4:FuncData
 f_3:Addr
 d_3:FuncData
 f_2:Addr
 d_2:FuncData
 f_0:Addr
 d_0:FuncData
 f_6:Addr
 d_6:FuncData
 f_5:Addr
 d_5:FuncData
 f_7:Addr
 d_7:FuncData
 f_8:Addr
 d_8:FuncData
 f_41:Addr
 d_41:FuncData
 f_48:Addr
 d_48:FuncData
 f_42:Addr
 d_42:FuncData
 f_62:Addr
 d_62:FuncData
 f_49:Addr
 d_49:FuncData
 f_24:Addr
 d_24:FuncData
 f_50:Addr
 d_50:FuncData
 f_43:Addr
 d_43:FuncData
 f_64:Addr
 d_64:FuncData
 f_63:Addr
 d_63:FuncData
 f_15:Addr
 d_15:FuncData
 f_14:Addr
 d_14:FuncData
 f_44:Addr
 d_44:FuncData
 f_57:Addr
 d_57:FuncData
 f_45:Addr
 d_45:FuncData
 f_26:Addr
 d_26:FuncData
 f_28:Addr
 d_28:FuncData
 f_31:Addr
 d_31:FuncData
 f_27:Addr
 d_27:FuncData
 f_32:Addr
 d_32:FuncData
 f_33:Addr
 d_33:FuncData
 f_35:Addr
 d_35:FuncData
 f_18:Addr
 d_18:FuncData
 f_1:Addr
 d_1:FuncData
 f_13:Addr
 d_13:FuncData
 f_Attempt___init__:Addr
 d_Attempt___init__:FuncData
 f_Attempt_free_reading:Addr
 d_Attempt_free_reading:FuncData
 f_Attempt_find_reader:Addr
 d_Attempt_find_reader:FuncData
 f_9:Addr
 d_9:FuncData
 f_20:Addr
 d_20:FuncData
 f_19:Addr
 d_19:FuncData
 f_17:Addr
 d_17:FuncData
 f_16:Addr
 d_16:FuncData
 f_34:Addr
 d_34:FuncData
 f_56:Addr
 d_56:FuncData
 f_55:Addr
 d_55:FuncData
 f_54:Addr
 d_54:FuncData
 f_53:Addr
 d_53:FuncData
 f_72:Addr
 d_72:FuncData
 f_70:Addr
 d_70:FuncData
 f_66:Addr
 d_66:FuncData
 f_68:Addr
 d_68:FuncData
 f_69:Addr
 d_69:FuncData
 f_73:Addr
 d_73:FuncData
 f_71:Addr
 d_71:FuncData
 f_74:Addr
 d_74:FuncData
 C_Attempt:Addr
 C_Exam:Addr
 k_READERS_EACH:Value
 k_MOST_HOUSES:Value
 k_MOST_PAPERS:Value
 k_MOST_LIMIT:Value
 k_MOST_READERS:Value
 k_MOST_STEP:Value
 k_MOST_POINTS:Value
 q_QUESTIONS:Addr
 xa:XAd
set_option genInjectivity false in
set_option genSizeOf false in
structure Txt (K:PySem.W.Frag) (mg:Str→Option Value) (t:Adr):Prop where
 F_65:Fun K "_law_at" "_law_at" s_65 t.f_65 t.d_65
 b_65:Binds K t.d_65 ["_law_script","_law_k"] []
 m_65:mg "_law_at" = some (.ref t.f_65)
 F_67:Fun K "_law_planted" "_law_planted" s_67 t.f_67 t.d_67
 b_67:Binds K t.d_67 ["_law_script","_law_first","_law_least"] []
 m_67:mg "_law_planted" = some (.ref t.f_67)
 F_30:Fun K "__init__" "Exam.__init__" s_30 t.f_30 t.d_30
 b_30:Binds K t.d_30 ["self"] []
 mk_Exam:Mk K t.C_Exam t.f_30
 F_60:Fun K "in_one_row" "in_one_row" s_60 t.f_60 t.d_60
 b_60:Binds K t.d_60 ["parts"] []
 m_60:mg "in_one_row" = some (.ref t.f_60)
 F_61:Fun K "dealing_part" "dealing_part" s_61 t.f_61 t.d_61
 b_61:Binds K t.d_61 ["paper","first","second"] []
 m_61:mg "dealing_part" = some (.ref t.f_61)
 F_58:Fun K "told_dealing" "told_dealing" s_58 t.f_58 t.d_58
 b_58:Binds K t.d_58 ["rows"] []
 m_58:mg "told_dealing" = some (.ref t.f_58)
 F_40:Fun K "dealing" "Exam.dealing" s_40 t.f_40 t.d_40
 b_40:Binds K t.d_40 ["self"] []
 me_40:Meth K t.C_Exam "dealing" t.f_40
 F_59:Fun K "told_against" "told_against" s_59 t.f_59 t.d_59
 b_59:Binds K t.d_59 ["chosen"] []
 m_59:mg "told_against" = some (.ref t.f_59)
 F_4:Fun K "greatest_of" "greatest_of" s_4 t.f_4 t.d_4
 b_4:Binds K t.d_4 ["chosen"] []
 m_4:mg "greatest_of" = some (.ref t.f_4)
 F_3:Fun K "sets_one_larger" "sets_one_larger" s_3 t.f_3 t.d_3
 b_3:Binds K t.d_3 ["of_one_size","many"] []
 m_3:mg "sets_one_larger" = some (.ref t.f_3)
 F_2:Fun K "sets_of" "sets_of" s_2 t.f_2 t.d_2
 b_2:Binds K t.d_2 ["many"] []
 m_2:mg "sets_of" = some (.ref t.f_2)
 F_0:Fun K "may_read" "may_read" s_0 t.f_0 t.d_0
 b_0:Binds K t.d_0 ["papers","readers","paper","reader"] []
 m_0:mg "may_read" = some (.ref t.f_0)
 F_6:Fun K "room_of" "room_of" s_6 t.f_6 t.d_6
 b_6:Binds K t.d_6 ["papers","readers","chosen","reader"] []
 m_6:mg "room_of" = some (.ref t.f_6)
 F_5:Fun K "room" "room" s_5 t.f_5 t.d_5
 b_5:Binds K t.d_5 ["papers","readers","chosen"] []
 m_5:mg "room" = some (.ref t.f_5)
 F_7:Fun K "is_against" "is_against" s_7 t.f_7 t.d_7
 b_7:Binds K t.d_7 ["papers","readers","chosen"] []
 m_7:mg "is_against" = some (.ref t.f_7)
 F_8:Fun K "first_against" "first_against" s_8 t.f_8 t.d_8
 b_8:Binds K t.d_8 ["papers","readers"] []
 m_8:mg "first_against" = some (.ref t.f_8)
 F_41:Fun K "against" "Exam.against" s_41 t.f_41 t.d_41
 b_41:Binds K t.d_41 ["self"] []
 me_41:Meth K t.C_Exam "against" t.f_41
 F_48:Fun K "due_readers" "Exam.due_readers" s_48 t.f_48 t.d_48
 b_48:Binds K t.d_48 ["self","paper"] []
 me_48:Meth K t.C_Exam "due_readers" t.f_48
 F_42:Fun K "due" "Exam.due" s_42 t.f_42 t.d_42
 b_42:Binds K t.d_42 ["self"] []
 me_42:Meth K t.C_Exam "due" t.f_42
 F_62:Fun K "due_part" "due_part" s_62 t.f_62 t.d_62
 b_62:Binds K t.d_62 ["paper","reader"] []
 m_62:mg "due_part" = some (.ref t.f_62)
 F_49:Fun K "points_for" "Exam.points_for" s_49 t.f_49 t.d_49
 b_49:Binds K t.d_49 ["self","paper"] []
 me_49:Meth K t.C_Exam "points_for" t.f_49
 F_24:Fun K "mark_of" "mark_of" s_24 t.f_24 t.d_24
 b_24:Binds K t.d_24 ["points","step"] []
 m_24:mg "mark_of" = some (.ref t.f_24)
 F_50:Fun K "mark_for" "Exam.mark_for" s_50 t.f_50 t.d_50
 b_50:Binds K t.d_50 ["self","paper"] []
 me_50:Meth K t.C_Exam "mark_for" t.f_50
 F_43:Fun K "marks" "Exam.marks" s_43 t.f_43 t.d_43
 b_43:Binds K t.d_43 ["self"] []
 me_43:Meth K t.C_Exam "marks" t.f_43
 F_64:Fun K "reading_part" "reading_part" s_64 t.f_64 t.d_64
 b_64:Binds K t.d_64 ["reader","points"] []
 m_64:mg "reading_part" = some (.ref t.f_64)
 F_63:Fun K "mark_part" "mark_part" s_63 t.f_63 t.d_63
 b_63:Binds K t.d_63 ["paper","mark"] []
 m_63:mg "mark_part" = some (.ref t.f_63)
 F_15:Fun K "times_in" "times_in" s_15 t.f_15 t.d_15
 b_15:Binds K t.d_15 ["rows","reader"] []
 m_15:mg "times_in" = some (.ref t.f_15)
 F_14:Fun K "left_after" "left_after" s_14 t.f_14 t.d_14
 b_14:Binds K t.d_14 ["readers","rows"] []
 m_14:mg "left_after" = some (.ref t.f_14)
 F_44:Fun K "left" "Exam.left" s_44 t.f_44 t.d_44
 b_44:Binds K t.d_44 ["self"] []
 me_44:Meth K t.C_Exam "left" t.f_44
 F_57:Fun K "told_of" "told_of" s_57 t.f_57 t.d_57
 b_57:Binds K t.d_57 ["exam","question"] []
 m_57:mg "told_of" = some (.ref t.f_57)
 F_45:Fun K "refuse_behind_dealing" "Exam.refuse_behind_dealing" s_45 t.f_45 t.d_45
 b_45:Binds K t.d_45 ["self"] []
 me_45:Meth K t.C_Exam "refuse_behind_dealing" t.f_45
 F_26:Fun K "refuse_unknown" "refuse_unknown" s_26 t.f_26 t.d_26
 b_26:Binds K t.d_26 ["number","least","most"] []
 m_26:mg "refuse_unknown" = some (.ref t.f_26)
 F_28:Fun K "refuse_full" "refuse_full" s_28 t.f_28 t.d_28
 b_28:Binds K t.d_28 ["many","most"] []
 m_28:mg "refuse_full" = some (.ref t.f_28)
 F_31:Fun K "bring_paper" "Exam.bring_paper" s_31 t.f_31 t.d_31
 b_31:Binds K t.d_31 ["self","house"] []
 me_31:Meth K t.C_Exam "bring_paper" t.f_31
 F_27:Fun K "refuse_out_of_bounds" "refuse_out_of_bounds" s_27 t.f_27 t.d_27
 b_27:Binds K t.d_27 ["number","most"] []
 m_27:mg "refuse_out_of_bounds" = some (.ref t.f_27)
 F_32:Fun K "bring_reader" "Exam.bring_reader" s_32 t.f_32 t.d_32
 b_32:Binds K t.d_32 ["self","house","limit"] []
 me_32:Meth K t.C_Exam "bring_reader" t.f_32
 F_33:Fun K "set_step" "Exam.set_step" s_33 t.f_33 t.d_33
 b_33:Binds K t.d_33 ["self","step"] []
 me_33:Meth K t.C_Exam "set_step" t.f_33
 F_35:Fun K "enter" "Exam.enter" s_35 t.f_35 t.d_35
 b_35:Binds K t.d_35 ["self","paper","reader","points"] []
 me_35:Meth K t.C_Exam "enter" t.f_35
 F_18:Fun K "pairs_of" "pairs_of" s_18 t.f_18 t.d_18
 b_18:Binds K t.d_18 ["numbers"] []
 m_18:mg "pairs_of" = some (.ref t.f_18)
 F_1:Fun K "readers_for" "readers_for" s_1 t.f_1 t.d_1
 b_1:Binds K t.d_1 ["papers","readers","paper"] []
 m_1:mg "readers_for" = some (.ref t.f_1)
 F_13:Fun K "keeps_to_limits" "keeps_to_limits" s_13 t.f_13 t.d_13
 b_13:Binds K t.d_13 ["readers","rows"] []
 m_13:mg "keeps_to_limits" = some (.ref t.f_13)
 F_Attempt___init__:Fun K "__init__" "Attempt.__init__" s_Attempt___init__ t.f_Attempt___init__ t.d_Attempt___init__
 b_Attempt___init__:Binds K t.d_Attempt___init__ ["self","papers","readers"] []
 mk_Attempt:Mk K t.C_Attempt t.f_Attempt___init__
 F_Attempt_free_reading:Fun K "free_reading" "Attempt.free_reading" s_Attempt_free_reading t.f_Attempt_free_reading t.d_Attempt_free_reading
 b_Attempt_free_reading:Binds K t.d_Attempt_free_reading ["self","reader","asked"] []
 me_Attempt_free_reading:Meth K t.C_Attempt "free_reading" t.f_Attempt_free_reading
 F_Attempt_find_reader:Fun K "find_reader" "Attempt.find_reader" s_Attempt_find_reader t.f_Attempt_find_reader t.d_Attempt_find_reader
 b_Attempt_find_reader:Binds K t.d_Attempt_find_reader ["self","paper","asked"] []
 me_Attempt_find_reader:Meth K t.C_Attempt "find_reader" t.f_Attempt_find_reader
 F_9:Fun K "readers_suffice" "readers_suffice" s_9 t.f_9 t.d_9
 b_9:Binds K t.d_9 ["papers","readers"] []
 m_9:mg "readers_suffice" = some (.ref t.f_9)
 F_20:Fun K "with_limits" "with_limits" s_20 t.f_20 t.d_20
 b_20:Binds K t.d_20 ["readers","limits"] []
 m_20:mg "with_limits" = some (.ref t.f_20)
 F_19:Fun K "can_go_on" "can_go_on" s_19 t.f_19 t.d_19
 b_19:Binds K t.d_19 ["papers","readers","rows"] []
 m_19:mg "can_go_on" = some (.ref t.f_19)
 F_17:Fun K "first_row_behind" "first_row_behind" s_17 t.f_17 t.d_17
 b_17:Binds K t.d_17 ["papers","readers","rows"] []
 m_17:mg "first_row_behind" = some (.ref t.f_17)
 F_16:Fun K "first_dealing" "first_dealing" s_16 t.f_16 t.d_16
 b_16:Binds K t.d_16 ["papers","readers"] []
 m_16:mg "first_dealing" = some (.ref t.f_16)
 F_34:Fun K "deal" "Exam.deal" s_34 t.f_34 t.d_34
 b_34:Binds K t.d_34 ["self"] []
 me_34:Meth K t.C_Exam "deal" t.f_34
 F_56:Fun K "done" "done" s_56 t.f_56 t.d_56
 b_56:Binds K t.d_56 ["exam","deed","numbers"] []
 m_56:mg "done" = some (.ref t.f_56)
 F_55:Fun K "done_or_refused" "done_or_refused" s_55 t.f_55 t.d_55
 b_55:Binds K t.d_55 ["exam","deed","numbers"] []
 m_55:mg "done_or_refused" = some (.ref t.f_55)
 F_54:Fun K "answer_to" "answer_to" s_54 t.f_54 t.d_54
 b_54:Binds K t.d_54 ["exam","row"] []
 m_54:mg "answer_to" = some (.ref t.f_54)
 F_53:Fun K "answers" "answers" s_53 t.f_53 t.d_53
 b_53:Binds K t.d_53 ["rows"] []
 m_53:mg "answers" = some (.ref t.f_53)
 F_72:Fun K "_law_read" "_law_read" s_72 t.f_72 t.d_72
 b_72:Binds K t.d_72 ["_law_text","_law_many","_law_count"] []
 m_72:mg "_law_read" = some (.ref t.f_72)
 F_70:Fun K "_law_not_behind" "_law_not_behind" s_70 t.f_70 t.d_70
 b_70:Binds K t.d_70 ["_law_told","_law_rival"] []
 m_70:mg "_law_not_behind" = some (.ref t.f_70)
 F_66:Fun K "_law_whole" "_law_whole" s_66 t.f_66 t.d_66
 b_66:Binds K t.d_66 ["_law_found"] []
 m_66:mg "_law_whole" = some (.ref t.f_66)
 F_68:Fun K "_law_pair" "_law_pair" s_68 t.f_68 t.d_68
 b_68:Binds K t.d_68 ["_law_staff","_law_house","_law_row"] []
 m_68:mg "_law_pair" = some (.ref t.f_68)
 F_69:Fun K "_law_right" "_law_right" s_69 t.f_69 t.d_69
 b_69:Binds K t.d_69 ["_law_homes","_law_staff","_law_rows"] []
 m_69:mg "_law_right" = some (.ref t.f_69)
 F_73:Fun K "_law_or_none" "_law_or_none" s_73 t.f_73 t.d_73
 b_73:Binds K t.d_73 ["_law_parts"] []
 m_73:mg "_law_or_none" = some (.ref t.f_73)
 F_71:Fun K "_law_spare" "_law_spare" s_71 t.f_71 t.d_71
 b_71:Binds K t.d_71 ["_law_staff","_law_names"] []
 m_71:mg "_law_spare" = some (.ref t.f_71)
 F_74:Fun K "law" "law" s_74 t.f_74 t.d_74
 b_74:Binds K t.d_74 ["_law_script"] []
 m_74:mg "law" = some (.ref t.f_74)
 cl_Attempt:Cls K t.C_Attempt
 mg_Attempt:mg "Attempt" = some (.ref t.C_Attempt)
 n_Attempt_allowed:zbw K t.C_Attempt "allowed"
 n_Attempt_given:zbw K t.C_Attempt "given"
 n_Attempt_spare:zbw K t.C_Attempt "spare"
 cl_Exam:Cls K t.C_Exam
 mg_Exam:mg "Exam" = some (.ref t.C_Exam)
 n_Exam_paper_houses:zbw K t.C_Exam "paper_houses"
 n_Exam_reader_rows:zbw K t.C_Exam "reader_rows"
 n_Exam_widest_step:zbw K t.C_Exam "widest_step"
 n_Exam_is_dealt:zbw K t.C_Exam "is_dealt"
 n_Exam_named_readers:zbw K t.C_Exam "named_readers"
 n_Exam_entered_points:zbw K t.C_Exam "entered_points"
 v_READERS_EACH:mg "READERS_EACH" = some t.k_READERS_EACH
 w_READERS_EACH:RelV (.int 2) t.k_READERS_EACH
 v_MOST_HOUSES:mg "MOST_HOUSES" = some t.k_MOST_HOUSES
 w_MOST_HOUSES:RelV (.int 6) t.k_MOST_HOUSES
 v_MOST_PAPERS:mg "MOST_PAPERS" = some t.k_MOST_PAPERS
 w_MOST_PAPERS:RelV (.int 10) t.k_MOST_PAPERS
 v_MOST_LIMIT:mg "MOST_LIMIT" = some t.k_MOST_LIMIT
 w_MOST_LIMIT:RelV (.int 30) t.k_MOST_LIMIT
 v_MOST_READERS:mg "MOST_READERS" = some t.k_MOST_READERS
 w_MOST_READERS:RelV (.int 8) t.k_MOST_READERS
 v_MOST_STEP:mg "MOST_STEP" = some t.k_MOST_STEP
 w_MOST_STEP:RelV (.int 100) t.k_MOST_STEP
 v_MOST_POINTS:mg "MOST_POINTS" = some t.k_MOST_POINTS
 w_MOST_POINTS:RelV (.int 100) t.k_MOST_POINTS
 v_QUESTIONS:mg "QUESTIONS" = some (.ref t.q_QUESTIONS)
 sq_QUESTIONS:∀ H,SqT K H t.q_QUESTIONS [.str "dealing",.str "against",.str "due",.str "marks",.str "left"]
 mx_OutOfTime:mg "OutOfTime" = some (.ref t.xa.OutOfTime)
 mx_UnknownNumber:mg "UnknownNumber" = some (.ref t.xa.UnknownNumber)
 mx_NotDue:mg "NotDue" = some (.ref t.xa.NotDue)
 mx_OutOfBounds:mg "OutOfBounds" = some (.ref t.xa.OutOfBounds)
 mx_Full:mg "Full" = some (.ref t.xa.Full)
 mx_ReadError:mg "ReadError" = some (.ref t.xa.ReadError)
 xc_OutOfTime:ExcC K t.xa.OutOfTime
 xc_UnknownNumber:ExcC K t.xa.UnknownNumber
 xc_OutOfBounds:ExcC K t.xa.OutOfBounds
 xc_Full:ExcC K t.xa.Full
 x_OutOfTime_OutOfTime:PySem.W.exmOne K (.ref t.xa.OutOfTime) (.ref t.xa.OutOfTime)=some true
 x_OutOfTime_UnknownNumber:PySem.W.exmOne K (.ref t.xa.OutOfTime) (.ref t.xa.UnknownNumber)=some false
 x_OutOfTime_NotDue:PySem.W.exmOne K (.ref t.xa.OutOfTime) (.ref t.xa.NotDue)=some false
 x_OutOfTime_OutOfBounds:PySem.W.exmOne K (.ref t.xa.OutOfTime) (.ref t.xa.OutOfBounds)=some false
 x_OutOfTime_Full:PySem.W.exmOne K (.ref t.xa.OutOfTime) (.ref t.xa.Full)=some false
 x_UnknownNumber_OutOfTime:PySem.W.exmOne K (.ref t.xa.UnknownNumber) (.ref t.xa.OutOfTime)=some false
 x_UnknownNumber_UnknownNumber:PySem.W.exmOne K (.ref t.xa.UnknownNumber) (.ref t.xa.UnknownNumber)=some true
 x_UnknownNumber_NotDue:PySem.W.exmOne K (.ref t.xa.UnknownNumber) (.ref t.xa.NotDue)=some false
 x_UnknownNumber_OutOfBounds:PySem.W.exmOne K (.ref t.xa.UnknownNumber) (.ref t.xa.OutOfBounds)=some false
 x_UnknownNumber_Full:PySem.W.exmOne K (.ref t.xa.UnknownNumber) (.ref t.xa.Full)=some false
 x_OutOfBounds_OutOfTime:PySem.W.exmOne K (.ref t.xa.OutOfBounds) (.ref t.xa.OutOfTime)=some false
 x_OutOfBounds_UnknownNumber:PySem.W.exmOne K (.ref t.xa.OutOfBounds) (.ref t.xa.UnknownNumber)=some false
 x_OutOfBounds_NotDue:PySem.W.exmOne K (.ref t.xa.OutOfBounds) (.ref t.xa.NotDue)=some false
 x_OutOfBounds_OutOfBounds:PySem.W.exmOne K (.ref t.xa.OutOfBounds) (.ref t.xa.OutOfBounds)=some true
 x_OutOfBounds_Full:PySem.W.exmOne K (.ref t.xa.OutOfBounds) (.ref t.xa.Full)=some false
 x_Full_OutOfTime:PySem.W.exmOne K (.ref t.xa.Full) (.ref t.xa.OutOfTime)=some false
 x_Full_UnknownNumber:PySem.W.exmOne K (.ref t.xa.Full) (.ref t.xa.UnknownNumber)=some false
 x_Full_NotDue:PySem.W.exmOne K (.ref t.xa.Full) (.ref t.xa.NotDue)=some false
 x_Full_OutOfBounds:PySem.W.exmOne K (.ref t.xa.Full) (.ref t.xa.OutOfBounds)=some false
 x_Full_Full:PySem.W.exmOne K (.ref t.xa.Full) (.ref t.xa.Full)=some true
 z_abs:mg "abs" = none
 z_all:mg "all" = none
 z_bool:mg "bool" = none
 z_enumerate:mg "enumerate" = none
 z_int:mg "int" = none
 z_isinstance:mg "isinstance" = none
 z_len:mg "len" = none
 z_list:mg "list" = none
 z_max:mg "max" = none
 z_min:mg "min" = none
 z_range:mg "range" = none
 z_sorted:mg "sorted" = none
 z_str:mg "str" = none
 z_sum:mg "sum" = none
 z_zip:mg "zip" = none
end Prf
namespace Prf
open PySem PySem.Spec PyProof.Rows L2
section
variable {P:Program} {w:World} {K:PySem.W.Frag} {mg:Str→Option Value} {base:Heap} {t:Adr}
def zgh (K:PySem.W.Frag):Sp:=fun vs H Q _=>vs.length=2∧∃ (a:Addr) (ns:List Int) (k:Int),vs=[.ref a,.int k]∧SqL K H a (ns.map V.int)∧ns.length≤63∧Q (.int (zbO ns k)) H
theorem zgi (T:Txt K mg t):FnOk P w K mg base CX0 1 t.f_65 t.d_65 ["_law_script","_law_k"] (zgh K):=by
 refine T.F_65.ok sc_65 (fun _ _ _ _ h=>h.1) fun cdv A outer s H vs Q E hr h=>by
  refine ⟨_,(zac (zaX (zat (zb8 (K:=K) rfl hr.units0) (zai (zak (K:=K) rfl) (by rfl) T.z_len (by rfl) (zaa (pv 0) pa_nil)) zae (zaC _))
   (zad (zaj zae)) pss_nil)
   (zad (zaj (zay (op_addG) (zaw (zaf (K:=K) rfl) (pv 0) (zay (op_mod) (pv 1) (zai (zak (K:=K) rfl) (by rfl) T.z_len (by rfl) (zaa (pv 0) pa_nil))) (fun _ _=>rfl)) (zay (op_fdivB) (pv 1) (zai (zak (K:=K) rfl) (by rfl) T.z_len (by rfl) (zaa (pv 0) pa_nil))))))),?_⟩
  obtain ⟨_,a,ns,k,rfl,hS,hl,q⟩:=h;symm;unfold zbO at q;refine zbL (fun h0=>?_) (fun h0=>?_)
  ·rw [if_pos h0] at q;symm;exact q
  ·rw [if_neg h0] at q;have h3:(0:Int) < ns.length:=by omega
   symm;refine zeo hS (zeb (Int.emod_nonneg _ h0) (Int.emod_lt_of_pos _ h3)) ?_;symm;exact q
theorem zhy {H:Hp} {a:Addr} {ns:List Int} {k:Int} {Q:VK} {E:XK} (h:SqL K H a (ns.map V.int)) (hl:ns.length≤63) (q:Q (.int (zbO ns k)) H):zgh K [.ref a,.int k] H Q E:=⟨rfl,a,ns,k,rfl,h,hl,q⟩
local macro_rules | `(tactic| walk_at "rd1")=>`(tactic| ((with_reducible refine' zhy ?h1 ?h2 ?_);(case h1=>walk_at "hp");(case h2=>omega)))
theorem few3 {k:Int} (h0:0≤k) (h1:k < 3):2≤([6,2,3]:List Int).getD k.toNat 0∧([6,2,3]:List Int).getD k.toNat 0≤6:=by
 have:k=0∨k=1∨k=2:=by omega
 rcases this with rfl | rfl | rfl <;> decide
theorem znG {k:Int} (h0:0≤k) (h1:k < 3):1≤([31,1,2]:List Int).getD k.toNat 0∧([31,1,2]:List Int).getD k.toNat 0≤31:=by
 have:k=0∨k=1∨k=2:=by omega
 rcases this with rfl | rfl | rfl <;> decide
structure zdM (B:Hp) (p ph ps pr:Addr) (sa ra:List Addr) (hs:List Int) (rs rows:List (List Int)) (H:Hp):Prop where
 same:Same B H
 at_p:H p=some (.lst [.ref ph,.ref ps,.ref pr])
 at_h:H ph=some (.lst (hs.map V.int))
 at_s:H ps=some (.lst (sa.map V.ref))
 at_r:H pr=some (.lst (ra.map V.ref))
 sl:sa.length=rs.length
 rl:ra.length=rows.length
 s_at:∀ i,i < rs.length→H (sa.getD i 0)=some (.lst ((rs.getD i []).map V.int))
 r_at:∀ i,i < rows.length→H (ra.getD i 0)=some (.lst ((rows.getD i []).map V.int))
 apart:(p::ph::ps::pr::(sa++ra)).Nodup
 new:∀ b∈p::ph::ps::pr::(sa++ra),B b=none
theorem zdM.ls {K:PySem.W.Frag} {B H:Hp} {p ph ps pr:Addr} {sa ra:List Addr} {hs:List Int} {rs rows:List (List Int)} (P:zdM B p ph ps pr sa ra hs rs rows H):LL K H ps rs:=⟨sa,SqL.of P.at_s,P.sl,P.s_at⟩
theorem zdM.lr {K:PySem.W.Frag} {B H:Hp} {p ph ps pr:Addr} {sa ra:List Addr} {hs:List Int} {rs rows:List (List Int)} (P:zdM B p ph ps pr sa ra hs rs rows H):LL K H pr rows:=⟨ra,SqL.of P.at_r,P.rl,P.r_at⟩
def stB (hB lB:Nat→Int) (c i:Nat):List (List Int):=(List.range c).map fun j=>[hB j,if j < i then lB j else 0]
theorem zdN {hB lB:Nat→Int} {c i j:Nat} (h:j < c):(stB hB lB c i).getD j []=[hB j,if j < i then lB j else 0]:=zaz h
theorem zcr {hB lB:Nat→Int} {c i:Nat}:(stB hB lB c i).length=c:=by unfold stB;rw [List.length_map,List.length_range]
theorem zh1 {least:Int} {c:Nat} {hB lB:Nat→Int} {hs:List Int} {rows:List (List Int)} (c2:2≤c) (c8:c≤8) (l0:least≤hs.length) (l1:hs.length≤10) (hl:rows.length=hs.length) (hP:∀ i,i < hs.length→PRow c hB (hs.getD i 0) (rows.getD i []))
  (hh:∀ j,j < c→0≤hB j∧hB j≤6) (hlim:∀ j,j < c→(cntB rows (0+(j:Int)+1):Int)≤lB j∧lB j≤30):zgF least hs (stB hB lB c c) rows:=by
 refine ⟨⟨l1,by rw [zcr];exact c8,fun i hi=>(hP i hi).rng,fun i hi=>?_,fun i hi=>?_,fun i hi=>?_⟩,by rw [zcr];exact c2,hl,l0,fun i hi=>?_,?_⟩
 ·rw [zcr] at hi;rw [zdN hi];rfl
 ·rw [zcr] at hi;rw [zdN hi];exact hh i hi
 ·rw [zcr] at hi;rw [zdN hi,if_pos hi];have:=hlim i hi;show 0≤lB i∧lB i≤30;omega
 ·obtain ⟨⟨x,y,_,_,e,_⟩,_⟩:=hP i (by omega);rw [e];rfl
 ·unfold zaR;rw [decide_eq_true hl,Bool.true_and,zba (fun k hk=>(hP k hk).pair zcr fun j hj=>by rw [zdN hj];rfl),Bool.true_and];refine zba fun k hk=>decide_eq_true ?_;rw [zcr] at hk;rw [zdN hk,if_pos hk];exact (hlim k hk).1
def zc2 (K:PySem.W.Frag):Sp:=fun vs H Q _=>vs.length=3∧∃ (a:Addr) (ns:List Int) (first least:Int),vs=[.ref a,.int first,.int least]∧SqL K H a (ns.map V.int)∧ns.length≤63∧0≤least∧least≤10 ∧
 ∀ (p ph ps pr:Addr) (sa ra:List Addr) (hs:List Int) (rs rows:List (List Int)) (H2:Hp),zdM H p ph ps pr sa ra hs rs rows H2→zgF least hs rs rows→Q (.ref p) H2
theorem ze0 (T:Txt K mg t):FnOk P w K mg base CX0 2 t.f_67 t.d_67 ["_law_script","_law_first","_law_least"] (zc2 K):=by
 have G_65:=zgi (P:=P) (w:=w) (base:=base) T;refine T.F_67.ok sc_67 (fun _ _ _ _ h=>h.1) fun cdv A outer s H vs Q E hr h=>by
  refine ⟨_,(zac (zaE (i:=3) sc_67.nd rfl (Or.inl rfl) (zaq G_65 (hr.mono (by decide)) (by rfl) T.m_65 T.F_65.kp T.b_65 .nil zaD (zaa (pv 0) (zaa (pv 1) pa_nil))))
   (zac (zaE (i:=4) sc_67.nd rfl (Or.inl rfl) (zay (op_addG) zae (zay (op_mod) (pv 3) zae)))
   (zac (zaE (i:=5) sc_67.nd rfl (Or.inr rfl) (zaw (zaf (K:=K) rfl) (zaL (zaa zae (zaa zae (zaa zae pa_nil)))) (zay (op_mod) (zay (op_fdivB) (pv 3) zae) zae) (fun _ _=>rfl)))
   (zac (zaE (i:=6) sc_67.nd rfl (Or.inl rfl) (zaw (zaf (K:=K) rfl) (zaL (zaa zae (zaa zae (zaa zae pa_nil)))) (zay (op_mod) (zay (op_fdivB) (pv 3) zae) zae) (fun _ _=>rfl)))
   (zac (zaE (i:=7) sc_67.nd rfl (Or.inr rfl) (zaN (zah (sc:=zab s_67) (XN:=["_law_script","_law_first","_law_least","_law_shape","_law_count","_law_few","_law_spare_here","_law_staff","_law_homes","_law_rows","_law_k","_law_cell","_law_one","_law_two","_law_fit","_law_used"]) (N:=["_law_k","_law_script","_law_first","_law_few"]) (own:=1) (js:=[0,1,5]) rfl rfl (by decide +kernel)) rfl (za5 (by rfl) T.z_range (zaa (pv 4) pa_nil)) (fun _ _ _ _ _=>(zap (i:=0) (show List.Nodup [(Str.ofString "_law_k"),(Str.ofString "_law_script"),(Str.ofString "_law_first"),(Str.ofString "_law_few")] by decide +kernel) rfl (Or.inl rfl))) (fun _ _ _ _ _=>zaT) (fun _ _ _ _ _=>(zaL (zaa (zay (op_mod) (zay (op_mod) (zaq G_65 (hr.mono (by decide)) (by rfl) T.m_65 T.F_65.kp T.b_65 .nil zaD (zaa (pv 1) (zaa (zay (op_addG) (zay (op_addG) (pv 2) zae) (pv 0)) pa_nil))) zae) (zay (op_addG) (pv 3) zae)) (zaa zae pa_nil))))))
   (zac (zaE (i:=8) sc_67.nd rfl (Or.inl rfl) (zaL pa_nil))
   (zac (zaE (i:=9) sc_67.nd rfl (Or.inl rfl) (zaL pa_nil))
   (zac (za7 PassesOwn.never rfl (za5 (by rfl) T.z_range (zaa (zay (op_addG) (pv 2) (zay (op_mod) (zaq G_65 (hr.mono (by decide)) (by rfl) T.m_65 T.F_65.kp T.b_65 .nil zaD (zaa (pv 0) (zaa (zay (op_addG) (pv 1) zae) pa_nil))) (zay (op_sub) zae (pv 2)))) pa_nil)) (zap (i:=10) sc_67.nd rfl (Or.inr rfl))
   (zac (zaE (i:=11) sc_67.nd rfl (Or.inl rfl) (zaq G_65 (hr.mono (by decide)) (by rfl) T.m_65 T.F_65.kp T.b_65 .nil zaD (zaa (pv 0) (zaa (zay (op_addG) (zay (op_addG) (pv 1) zae) (pv 10)) pa_nil))))
   (zac (zaE (i:=12) sc_67.nd rfl (Or.inr rfl) (zay (op_mod) (pv 11) (pv 4)))
   (zac (zaE (i:=13) sc_67.nd rfl (Or.inr rfl) (zay (op_mod) (zay (op_addG) (zay (op_addG) (pv 12) zae) (zay (op_mod) (zay (op_fdivB) (pv 11) zae) (zay (op_sub) (pv 4) zae))) (pv 4)))
   (zac (zbT (i:=14) sc_67.nd rfl (Or.inl rfl) (by rfl) (zah (sc:=zab s_67) (XN:=["_law_script","_law_first","_law_least","_law_shape","_law_count","_law_few","_law_spare_here","_law_staff","_law_homes","_law_rows","_law_k","_law_cell","_law_one","_law_two","_law_fit","_law_used"]) (N:=["_law_h","_law_staff","_law_one","_law_two"]) (own:=1) (js:=[7,12,13]) rfl rfl (by decide +kernel)) rfl (zbd (by rfl) T.z_range (zaa zae (zaa zae pa_nil))) (fun _ _ _ _ _=>(zap (i:=0) (show List.Nodup [(Str.ofString "_law_h"),(Str.ofString "_law_staff"),(Str.ofString "_law_one"),(Str.ofString "_law_two")] by decide +kernel) rfl (Or.inl rfl))) (fun _ _ _ _ _=>(zcH (zkT (zat (zcQ (K:=K) rfl hr.units0) (pv 0) (zaw (zaf (K:=K) rfl) (zaw (zaf (K:=K) rfl) (pv 1) (pv 2) (fun _ _=>rfl)) zae (fun _ _=>rfl)) (zaC _)) (zin (zat (zcQ (K:=K) rfl hr.units0) (pv 0) (zaw (zaf (K:=K) rfl) (zaw (zaf (K:=K) rfl) (pv 1) (pv 3) (fun _ _=>rfl)) zae (fun _ _=>rfl)) (zaC _)))).pt)) (fun _ _ _ _ _=>(pv 0)))
   (zac (zaX (zat (op_lt) (pv 5) zae (zaC _))
   (zad (zaE (i:=14) sc_67.nd rfl (Or.inl rfl) (zcU (zcV (K:=K) rfl) (pv 14) po_none (zdH zae)))) pss_nil)
   (zac (zaV (zbr (K:=K) rfl PySem.F.plainAttrs_list PySem.F.slot_list_append PySem.F.type_list_append mt_append (pv 8) (zaa (zaw (zaf (K:=K) rfl) (pv 14) (zay (op_mod) (zay (op_fdivB) (pv 11) zae) (zai (zak (K:=K) rfl) (by rfl) T.z_len (by rfl) (zaa (pv 14) pa_nil))) (fun _ _=>rfl)) pa_nil)))
   (zad (zaV (zbr (K:=K) rfl PySem.F.plainAttrs_list PySem.F.slot_list_append PySem.F.type_list_append mt_append (pv 9) (zaa (zaL (zaa (zay (op_addG) (zai (zcW rfl) (by rfl) T.z_min (by rfl) (zaa (pv 12) (zaa (pv 13) pa_nil))) zae) (zaa (zay (op_addG) (zai (zhN rfl) (by rfl) T.z_max (by rfl) (zaa (pv 12) (zaa (pv 13) pa_nil))) zae) pa_nil))) pa_nil)))))))))))
   (zac (za7 PassesOwn.never rfl (za5 (by rfl) T.z_range (zaa (pv 4) pa_nil)) (zap (i:=10) sc_67.nd rfl (Or.inr rfl))
   (zac (zaE (i:=15) sc_67.nd rfl (Or.inl rfl) (zai (zak (K:=K) rfl) (by rfl) T.z_len (by rfl) (zaa (zaN (zah (sc:=zab s_67) (XN:=["_law_script","_law_first","_law_least","_law_shape","_law_count","_law_few","_law_spare_here","_law_staff","_law_homes","_law_rows","_law_k","_law_cell","_law_one","_law_two","_law_fit","_law_used"]) (N:=["_law_row","_law_k"]) (own:=1) (js:=[10]) rfl rfl (by decide +kernel)) rfl (zaB (K:=K) rfl (pv 9)) (fun _ _ _ _ _=>(zap (i:=0) (show List.Nodup [(Str.ofString "_law_row"),(Str.ofString "_law_k")] by decide +kernel) rfl (Or.inl rfl))) (fun _ _ _ _ _=>(zcH (zat (zew (K:=K) rfl (zeX hr)) (zay (op_addG) (pv 1) zae) (pv 0) (by with_unfolding_all rfl)))) (fun _ _ _ _ _=>(pv 0))) pa_nil)))
   (zad (zmo (zai (zcW rfl) (by rfl) T.z_min (by rfl) (zaa zae (zaa (zay (op_addG) (pv 15) (zay (op_mod) (zay (op_fdivB) (zaq G_65 (hr.mono (by decide)) (by rfl) T.m_65 T.F_65.kp T.b_65 .nil zaD (zaa (pv 0) (zaa (zay (op_addG) (zay (op_addG) (pv 1) zae) (pv 10)) pa_nil))) zae) (pv 6))) pa_nil))) (zmn (zaw (zaf (K:=K) rfl) (pv 7) (pv 10) (fun _ _=>rfl)) zae set_list)))))
   (zad (zaj (zaL (zaa (pv 8) (zaa (pv 7) (zaa (pv 9) pa_nil))))))))))))))),?_⟩
  obtain ⟨_,a,ns,first,least,rfl,hS,hl,l0,l1,q⟩:=h;symm;generalize hsh:zbO ns first=shape
  refine zau (by decide) fun p1 H1 f1 s1 e1=>?_;have hS1:=s1.seq hS;symm;have hfew:=few3 (k:=shape / 7 % 3) (by omega) (by omega);refine zeo (SqL.of e1) (zeb (ns:=[6,2,3]) (by omega) (by simp only [List.length_cons,List.length_nil];omega)) ?_;generalize ([6,2,3]:List Int).getD (shape / 7 % 3).toNat 0=few at hfew ⊢;symm;refine zau (by decide) fun p1' H1' f1' s1' e1'=>?_;have hS1':=s1'.seq hS1;symm;have hspare:=znG (k:=shape / 21 % 3) (by omega) (by omega);refine zeo (SqL.of e1') (zeb (ns:=[31,1,2]) (by omega) (by simp only [List.length_cons,List.length_nil];omega)) ?_;generalize ([31,1,2]:List Int).getD (shape / 21 % 3).toNat 0=spare at hspare ⊢;obtain ⟨c,hc⟩:∃ c:Nat,2+shape % 7=(c:Int):=⟨(2+shape % 7).toNat,by omega⟩
  have c2:2≤c:=by omega
  have c8:c≤8:=by omega
  rw [hc];symm;refine zci (by omega) (by omega) ?_;have ecN:((c:Int)).toNat=c:=by omega
  rw [ecN];refine zhM (zbE _ _ _) (zaK (by omega)) (fun i=>[.int (zbO ns (first+2+(0+(i:Int))) % 7 % (few+1)),.int 0]) (fun i H' Q' hi s q'=>?_) fun ps sa H2 f2 s2 hsl hps hsa snd=>?_
  ·have hS':=s.seq hS1';symm;exact ⟨Nat.le_of_lt (zaK (by simp)),q'⟩
  generalize hhB:(fun i:Nat=>zbO ns (first+2+(0+(i:Int))) % 7 % (few+1))=hB;have hhb:∀ j:Nat,zbO ns (first+2+(0+(j:Int))) % 7 % (few+1)=hB j:=fun j=>by rw [← hhB]
  have hBr:∀ j,0≤hB j∧hB j≤6:=fun j=>by
   rw [← hhb];have:=Int.emod_nonneg (zbO ns (first+2+(0+(j:Int))) % 7) (show few+1≠0 by omega);have:=Int.emod_lt_of_pos (zbO ns (first+2+(0+(j:Int))) % 7) (show 0 < few+1 by omega);omega
  have s02:Same H H2:=(s1.trans s1').trans s2;have s01:Same H H1':=s1.trans s1';have hS2:=s2.seq hS1';have hsa':∀ j,j < c→H2 (sa.getD j 0)=some (.lst [.int (hB j),.int 0]):=fun j hj=>by rw [← hhb];exact (hsa j hj).1
  symm;refine zau (by decide) fun ph H3 f3 s3 e3=>?_;symm;refine zau (by decide) fun pr H4 f4 s4 e4=>?_;have hS4:=s4.seq (s3.seq hS2);have s24:Same H2 H4:=s3.trans s4;have npr:ph≠pr:=zag e3 f4;have f4':H2 pr=none:=s3.free f4;symm;have hm1:=Int.emod_nonneg (zbO ns (first+1)) (show 11-least≠0 by omega);have hm2:=Int.emod_lt_of_pos (zbO ns (first+1)) (show 0 < 11-least by omega);refine zci (by omega) (by omega) ?_;obtain ⟨n,hn⟩:∃ n:Nat,least+zbO ns (first+1) % (11-least)=(n:Int):=⟨(least+zbO ns (first+1) % (11-least)).toNat,by omega⟩
  rw [hn];have enN:((n:Int)).toNat=n:=by omega
  rw [enN];have n10:n≤10:=by omega
  refine zbM (fun i σ H'=>∃ v10 v11 v12 v13 v14 hs rows ra,σ=[some (.ref a),some (.int first),some (.int least),some (.int shape),some (.int c),some (.int few),some (.int spare),some (.ref ps),some (.ref ph),some (.ref pr),v10,v11,v12,v13,v14,none] ∧
   Same H2 H'∧hs.length=i∧rows.length=i∧H' ph=some (.lst (hs.map V.int))∧H' pr=some (.lst (ra.map V.ref))∧ra.length=i∧ra.Nodup∧(∀ j,j < i→H' (ra.getD j 0)=some (.lst ((rows.getD j []).map V.int))∧H2 (ra.getD j 0)=none∧ra.getD j 0≠pr∧ra.getD j 0≠ph)∧(∀ j,j < i→PRow c hB (hs.getD j 0) (rows.getD j [])))
   ⟨none,none,none,none,none,[],[],[],rfl,s24,rfl,rfl,s4 _ _ e3,e4,rfl,List.nodup_nil,fun j hj=>absurd hj (by omega),fun j hj=>absurd hj (by omega)⟩ ?_ ?_
  ·rintro i σ H' hi ⟨v10,v11,v12,v13,v14,hs,rows,ra,rfl,s',lh,lr,hph,hpr,lra,ndr,hra,hP⟩;have hS':=s'.seq hS2;have hps':=s' _ _ hps;have ho1:=Int.emod_nonneg (zbO ns (first+10+(0+(i:Int)))) (show (c:Int)≠0 by omega);have ho2:=Int.emod_lt_of_pos (zbO ns (first+10+(0+(i:Int)))) (show 0 < (c:Int) by omega);have hq1:=Int.emod_nonneg (zbO ns (first+10+(0+(i:Int))) / 8) (show (c:Int)-1≠0 by omega);have hq2:=Int.emod_lt_of_pos (zbO ns (first+10+(0+(i:Int))) / 8) (show 0 < (c:Int)-1 by omega);symm;generalize zbO ns (first+10+(0+(i:Int)))=cell at ho1 ho2 hq1 hq2 ⊢;generalize cell % (c:Int)=one at ho1 ho2 ⊢;generalize cell / 8 % ((c:Int)-1)=gap at hq1 hq2 ⊢;have ht:(one+1+gap) % (c:Int)=if one+1+gap < c then one+1+gap else one+1+gap-c:=by
    split
    ·exact Int.emod_eq_of_lt (by omega) (by omega)
    ·rw [← Int.sub_emod_right];exact Int.emod_eq_of_lt (by omega) (by omega)
   have ht1:0≤(one+1+gap) % (c:Int)∧(one+1+gap) % (c:Int) < c∧(one+1+gap) % (c:Int)≠one:=by
    rw [ht];split <;> omega
   generalize (one+1+gap) % (c:Int)=two at ht1 ⊢;obtain ⟨ht1,ht2,ht3⟩:=ht1;have h1':=s' _ _ (hsa' one.toNat (by omega));have h2':=s' _ _ (hsa' two.toNat (by omega));symm;refine zcJ ⟨by omega,by omega,by omega,by omega⟩ ?_;refine zfZ (zbE _ _ _) (by decide) (fun i=>!decide (1+(i:Int)=hB one.toNat) && !decide (1+(i:Int)=hB two.toNat)) (fun i=>1+(i:Int)) (fun i H5 Q' hi s5 q'=>?_) (fun i H5 Q' hi s5 hc q'=>?_) fun pf H5 f5 s5 e5=>?_
   ·have hps5:=s5 _ _ hps';have h15:=s5 _ _ h1';have h25:=s5 _ _ h2';symm;refine ziP (d:=!decide (1+(i:Int)=hB two.toNat)) (fun _ Q3 q3=>?_) q';symm;exact q3
   ·symm;exact q'
   change H5 pf=some (.lst ((fitB (hB one.toNat) (hB two.toNat)).map V.int)) at e5;have hS5:=s5.seq hS';symm;refine zmS (fun σ' H6=>∃ (pf:Addr) (fs:List Int),σ'=[some (.ref a),some (.int first),some (.int least),some (.int shape),some (.int c),some (.int few),some (.int spare),some (.ref ps),some (.ref ph),some (.ref pr),some (.int (0+(i:Int))),some (.int cell),some (.int one),some (.int two),some (.ref pf),none]∧Same H' H6 ∧
    H6 pf=some (.lst (fs.map V.int))∧0 < fs.length∧fs.length≤6∧∀ x∈fs,x∈fitB (hB one.toNat) (hB two.toNat)) (fun _ nx hnx=>?_) (fun _ nx hnx=>?_) ?_
   ·symm;refine zbU (SqL.of e5) fun pg H6 f6 s6 e6=>?_;have e2:cutV ((fitB (hB one.toNat) (hB two.toNat)).map V.int) none (some 2)=((fitB (hB one.toNat) (hB two.toNat)).take 2).map V.int:=by
     rw [show (some (2:Int))=some ((2:Nat):Int) from rfl,ziU,List.map_take]
    rw [e2] at e6;have l1:=zhi (hB one.toNat) (hB two.toNat);refine hnx _ _ ⟨pg,_,rfl,s5.trans s6,e6,by rw [List.length_take];omega,by rw [List.length_take];omega,fun x hx=>List.mem_of_mem_take hx⟩
   ·symm;exact hnx _ _ ⟨pf,_,rfl,s5,e5,zhi _ _,zlM _ _,fun x hx=>hx⟩
   clear e5 hS5 s5 f5;rintro σ' H6 ⟨pf,fs,rfl,s6,e6,lf1,lf2,hfs⟩;have hm1:=Int.emod_nonneg (cell / 64) (show (fs.length:Int)≠0 by omega);have hm2:=Int.emod_lt_of_pos (cell / 64) (show (0:Int) < fs.length by omega);have hph6:=s6 _ _ hph;have hpr6:=s6 _ _ hpr;symm;have hh:=hfs _ (getD_mem (d:=0) (show (cell / 64 % (fs.length:Int)).toNat < fs.length by omega));generalize fs.getD (cell / 64 % (fs.length:Int)).toNat 0=hou at hh ⊢;obtain ⟨g1,g2,g3,g4⟩:=zkf hh;refine zaW hph6 (by rw [List.length_map];omega) fun H7 b7 e7=>?_;have hpr7:H7 pr=some (.lst (ra.map V.ref)):=by rw [b7 _ npr.symm];exact hpr6
   have s7:Same H2 H7:=(s'.trans s6).but b7 f3;symm;refine zau (by simp) fun pw H8 f8 s8 e8=>?_;symm;refine zaW (s8 _ _ hpr7) (by rw [List.length_map];omega) fun H9 b9 e9=>?_;symm;have s9:Same H2 H9:=(s7.trans s8).but b9 f4';have npw:pw≠pr:=(zag hpr7 f8).symm;have npw2:pw≠ph:=(zag e7 f8).symm;refine ⟨_,_,_,_,_,hs++[hou],rows++[[(if two < one then two else one)+1,(if two > one then two else one)+1]],ra++[pw],rfl,s9,by simp [lh],by simp [lr],?_,by rw [e9,List.map_append];rfl,by simp [lra],?_,fun j hj=>?_,fun j hj=>?_⟩
   ·rw [b9 _ npr,List.map_append];exact s8 _ _ e7
   ·refine List.nodup_append.mpr ⟨ndr,by simp,fun x hx y hy=>?_⟩;have hy':y=pw:=by simpa using hy
    subst hy';obtain ⟨k,hk,ek⟩:=mem_getD (d:=0) hx;have hrk:=hra k (by omega);rw [ek] at hrk;exact zag (show H7 x=_ by rw [b7 _ hrk.2.2.2];exact s6 _ _ hrk.1) f8
   ·by_cases hlt:j < i
    ·obtain ⟨r1,r2,r3,r4⟩:=hra j hlt;rw [zas (by omega),zas (by omega)];refine ⟨?_,r2,r3,r4⟩;rw [b9 _ r3];refine s8 _ _ ?_;rw [b7 _ r4];exact s6 _ _ r1
    ·have ej:j=i:=by omega
     subst ej;have ea:(ra++[pw]).getD j 0=pw:=by rw [← lra];exact zax
     have eb:(rows++[[(if two < one then two else one)+1,(if two > one then two else one)+1]]).getD j []=[(if two < one then two else one)+1,(if two > one then two else one)+1]:=by rw [← lr];exact zax
     rw [ea,eb];refine ⟨?_,s7.free f8,npw,npw2⟩;rw [b9 _ npw];exact e8
   ·by_cases hlt:j < i
    ·rw [zas (by omega),zas (by omega)];exact hP j hlt
    ·have ej:j=i:=by omega
     subst ej;have ea:(hs++[hou]).getD j 0=hou:=by rw [← lh];exact zax
     have eb:(rows++[[(if two < one then two else one)+1,(if two > one then two else one)+1]]).getD j []=[(if two < one then two else one)+1,(if two > one then two else one)+1]:=by rw [← lr];exact zax
     rw [ea,eb]
     by_cases hlt2:two < one
     ·rw [if_pos hlt2,if_neg (by omega)];exact ⟨⟨two.toNat,one.toNat,by omega,by omega,by rw [Int.toNat_of_nonneg ht1,Int.toNat_of_nonneg ho1],g4,g3⟩,g1,g2⟩
     ·rw [if_neg hlt2,if_pos (by omega)];exact ⟨⟨one.toNat,two.toNat,by omega,by omega,by rw [Int.toNat_of_nonneg ht1,Int.toNat_of_nonneg ho1],g3,g4⟩,g1,g2⟩
  rintro σ H5 ⟨v10,v11,v12,v13,v14,hs,rows,ra,rfl,s5,lh,lr,hph,hpr,lra,ndr,hra,hP⟩;symm;refine zci (by omega) (by omega) ?_;rw [ecN];generalize hlB:(fun j:Nat=>if (cntB rows (0+(j:Int)+1):Int)+zbO ns (first+2+(0+(j:Int))) / 7 % spare < 30 then (cntB rows (0+(j:Int)+1):Int)+zbO ns (first+2+(0+(j:Int))) / 7 % spare else 30)=lB;have hlb:∀ j:Nat,(if (cntB rows (0+(j:Int)+1):Int)+zbO ns (first+2+(0+(j:Int))) / 7 % spare < 30 then (cntB rows (0+(j:Int)+1):Int)+zbO ns (first+2+(0+(j:Int))) / 7 % spare else 30)=lB j:=fun j=>by rw [← hlB]
  have hlim:∀ j,j < c→(cntB rows (0+(j:Int)+1):Int)≤lB j∧lB j≤30:=fun j _=>by
   have h1:=Int.emod_nonneg (zbO ns (first+2+(0+(j:Int))) / 7) (show spare≠0 by omega);have h2:=zlN rows (0+(j:Int)+1);rw [← hlb];split <;> omega
  have inS:∀ b,b∈sa→∃ j,j < c∧sa.getD j 0=b:=fun b hb=>by
   obtain ⟨k,hk,ek⟩:=mem_getD (d:=0) hb;exact ⟨k,by omega,ek⟩
  have nS:∀ b,H2 b=none→b∉sa:=fun b hb z=>by
   obtain ⟨k,hk,ek⟩:=inS b z;have:=hsa' k hk;rw [ek,hb] at this
   cases this
  have oldS:∀ b o,H b=some o→b∉sa:=fun b o hb z=>by
   obtain ⟨k,hk,ek⟩:=inS b z;have:=s01.free (hsa k hk).2.1;rw [ek,hb] at this
   cases this
  have psS:ps∉sa:=fun z=>by
   obtain ⟨k,hk,ek⟩:=inS ps z;exact (hsa k hk).2.2 ek
  have raS:∀ j,j < n→ra.getD j 0∉sa:=fun j hj=>nS _ (hra j hj).2.1;refine zbM (fun i σ H'=>∃ v10 v15,σ=[some (.ref a),some (.int first),some (.int least),some (.int shape),some (.int c),some (.int few),some (.int spare),some (.ref ps),some (.ref ph),some (.ref pr),v10,v11,v12,v13,v14,v15] ∧
   (∀ b o,b∉sa→H5 b=some o→H' b=some o)∧∀ j,j < c→H' (sa.getD j 0)=some (.lst [.int (hB j),.int (if j < i then lB j else 0)])) ⟨v10,none,rfl,fun b o _ e=>e,fun j hj=>by rw [if_neg (by omega)];exact s5 _ _ (hsa' j hj)⟩ ?_ ?_
  ·rintro i σ H' hi ⟨v10,v15,rfl,kp,hst⟩;have sH:Same H H':=fun b o e=>kp b o (oldS b o e) ((s02.trans s5) b o e);have hS':=sH.seq hS;have hps':=kp _ _ psS (s5 _ _ hps);have hpr':=kp _ _ (nS _ f4') hpr;symm;refine zaO (SqL.of hpr') ?_;refine zed (rows:=rows) (x:=0+(i:Int)+1) (SqL.of hpr') (by omega) (by omega) (fun j H6 Q' hj s6 q'=>?_) fun pz H6 zs f6 s6 e6 z6=>?_
   ·have hrj:=s6 _ _ (kp _ _ (raS j (by omega)) (hra j (by omega)).1);symm;exact q'
   have hS6:=s6.seq hS';have hps6:=s6 _ _ hps';symm;rw [z6];have ei:(0+(i:Int)).toNat=i:=by omega
   rw [hlb i,ei];have hi6:=s6 _ _ (hst i hi);refine zhh hi6 (by decide) (by simp) fun H7 b7 e7=>?_;have en7:∀ j,j < c→j≠i→sa.getD j 0≠sa.getD i 0:=fun j hj hji z=>hji (by
    have h1:sa[j]? = some (sa.getD j 0):=by rw [List.getD_eq_getElem?_getD,List.getElem?_eq_getElem (by omega)];rfl
    have h2:sa[i]? = some (sa.getD i 0):=by rw [List.getD_eq_getElem?_getD,List.getElem?_eq_getElem (by omega)];rfl
    rw [z] at h1;obtain ⟨a1,a2⟩:=List.getElem?_eq_some_iff.mp h1;obtain ⟨b1,b2⟩:=List.getElem?_eq_some_iff.mp h2;exact (List.getElem_inj snd).mp (a2.trans b2.symm))
   refine ⟨_,_,rfl,fun b o hb e=>?_,fun j hj=>?_⟩
   ·rw [b7 _ (fun z=>hb (by rw [z];exact getD_mem (by omega)))];exact s6 _ _ (kp b o hb e)
   ·by_cases e:j=i
    ·subst e;rw [e7,if_neg (Nat.lt_irrefl j),if_pos (Nat.lt_succ_self j)];rfl
    ·rw [b7 _ (en7 j hj e),s6 _ _ (hst j hj)]
     by_cases hlt:j < i
     ·rw [if_pos hlt,if_pos (by omega)]
     ·rw [if_neg hlt,if_neg (by omega)]
  rintro σ H6 ⟨v10',v15,rfl,kp,hst⟩;have sH:Same H H6:=fun b o e=>kp b o (oldS b o e) ((s02.trans s5) b o e);have hps6:=kp _ _ psS (s5 _ _ hps);have hpr6:=kp _ _ (nS _ f4') hpr;have hph6:=kp _ _ (nS _ f3) hph;have hra6:∀ j,j < n→H6 (ra.getD j 0)=some (.lst ((rows.getD j []).map V.int)):=fun j hj=>kp _ _ (raS j hj) (hra j hj).1;symm;refine zau (by simp) fun p H7 f7 s7 e7=>?_;have hrlen:rows.length=n:=lr;refine q p ph ps pr sa ra hs (stB hB lB c c) rows H7 ⟨sH.trans s7,e7,s7 _ _ hph6,s7 _ _ hps6,s7 _ _ hpr6,by rw [zcr];omega,by omega,fun j hj=>?_,fun j hj=>s7 _ _ (hra6 j (by omega)),?_,fun b hb=>?_⟩ (zh1 c2 c8 (by omega) (by omega) (by omega) (fun j hj=>hP j (by omega)) (fun j _=>hBr j) hlim)
  ·rw [zcr] at hj;rw [zdN hj];exact s7 _ _ (hst j hj)
  ·have inR:∀ b,b∈ra→∃ j,j < n∧ra.getD j 0=b:=fun b hb=>by
    obtain ⟨k,hk,ek⟩:=mem_getD (d:=0) hb;exact ⟨k,by omega,ek⟩
   have nps:ps≠ph:=zag hps f3;have nps2:ps≠pr:=zag hps f4';have nraps:∀ b∈ra,b≠ps:=fun b hb z=>by
    obtain ⟨k,hk,ek⟩:=inR b hb;have:=(hra k hk).2.1;rw [ek,z,hps] at this
    cases this
   refine List.nodup_cons.mpr ⟨fun z=>?_,List.nodup_cons.mpr ⟨fun z=>?_,List.nodup_cons.mpr ⟨fun z=>?_,List.nodup_cons.mpr ⟨fun z=>?_,List.nodup_append.mpr ⟨snd,ndr,fun x hx y hy=>?_⟩⟩⟩⟩⟩
   ·have:∃ o,H6 p=some o:=by
     rcases List.mem_cons.mp z with z | z
     ·exact ⟨_,z▸hph6⟩
     rcases List.mem_cons.mp z with z | z
     ·exact ⟨_,z▸hps6⟩
     rcases List.mem_cons.mp z with z | z
     ·exact ⟨_,z▸hpr6⟩
     rcases List.mem_append.mp z with z | z
     ·obtain ⟨k,hk,ek⟩:=inS p z;exact ⟨_,ek▸hst k hk⟩
     ·obtain ⟨k,hk,ek⟩:=inR p z;exact ⟨_,ek▸hra6 k hk⟩
    obtain ⟨o,ho⟩:=this;rw [f7] at ho
    cases ho
   ·rcases List.mem_cons.mp z with z | z
    ·exact nps z.symm
    rcases List.mem_cons.mp z with z | z
    ·exact npr z
    rcases List.mem_append.mp z with z | z
    ·exact nS _ f3 z
    ·obtain ⟨k,hk,ek⟩:=inR ph z;exact (hra k hk).2.2.2 ek
   ·rcases List.mem_cons.mp z with z | z
    ·exact nps2 z
    rcases List.mem_append.mp z with z | z
    ·exact psS z
    ·exact nraps ps z rfl
   ·rcases List.mem_append.mp z with z | z
    ·exact nS _ f4' z
    ·obtain ⟨k,hk,ek⟩:=inR pr z;exact (hra k hk).2.2.1 ek
   ·rintro rfl;obtain ⟨k,hk,ek⟩:=inR x hy;exact raS k hk (by rw [ek];exact hx)
  ·rcases List.mem_cons.mp hb with z | z
   ·rw [z];exact sH.free f7
   rcases List.mem_cons.mp z with z | z
   ·rw [z];exact s02.free f3
   rcases List.mem_cons.mp z with z | z
   ·rw [z];exact s01.free f2
   rcases List.mem_cons.mp z with z | z
   ·rw [z];exact s02.free f4'
   rcases List.mem_append.mp z with z | z
   ·obtain ⟨k,hk,ek⟩:=inS b z;rw [← ek];exact s01.free (hsa k hk).2.1
   ·obtain ⟨k,hk,ek⟩:=mem_getD (d:=0) z;rw [← ek];exact s02.free (hra k (by omega)).2.1
theorem zfH {H:Hp} {a:Addr} {ns:List Int} {first least:Int} {Q:VK} {E:XK} (h1:SqL K H a (ns.map V.int)) (h2:ns.length≤63) (l0:0≤least) (l1:least≤10)
  (q:∀ (p ph ps pr:Addr) (sa ra:List Addr) (hs:List Int) (rs rows:List (List Int)) (H2:Hp),zdM H p ph ps pr sa ra hs rs rows H2→zgF least hs rs rows→Q (.ref p) H2):zc2 K [.ref a,.int first,.int least] H Q E:=⟨rfl,a,ns,first,least,rfl,h1,h2,l0,l1,q⟩
def zcx (K:PySem.W.Frag) (C:Addr):Sp:=fun vs H Q _=>vs.length=1∧∃ (x dx:Addr),vs=[.ref x]∧H x=some (.ins C dx [])∧∀ H' F,(∀ b o,H b=some o→b≠x→b≠dx→H' b=some o)→(∀ b,F b→b=x∨b=dx∨H b=none)→ExAt C H' x F ⟨[],[],0,none⟩→Q .non H'
theorem zd3 (T:Txt K mg t):FnOk P w K mg base CX0 1 t.f_30 t.d_30 ["self"] (zcx K t.C_Exam):=by
 refine T.F_30.ok sc_30 (fun _ _ _ _ h=>h.1) fun cdv A outer s H vs Q E hr h=>by
  refine ⟨_,(zac (zbF (K:=K) rfl (pv 0) (zaL pa_nil))
   (zac (zbF (K:=K) rfl (pv 0) (zaL pa_nil))
   (zac (zbF (K:=K) rfl (pv 0) zae)
   (zac (zbF (K:=K) rfl (pv 0) zbJ)
   (zac (zbF (K:=K) rfl (pv 0) (zaL pa_nil))
   (zad (zbF (K:=K) rfl (pv 0) (zaL pa_nil)))))))),?_⟩
  obtain ⟨_,x,dx,rfl,hx,q⟩:=h;have hcl:=T.cl_Exam;have nA:=T.n_Exam_paper_houses;have nB:=T.n_Exam_reader_rows;have nS:=T.n_Exam_widest_step;have nD:=T.n_Exam_is_dealt;have nC:=T.n_Exam_named_readers;have nE:=T.n_Exam_entered_points;symm;refine zau (by decide) fun a H1 f1 s1 e1=>?_;have x1:=s1 _ _ hx;symm;refine za6 x1 hcl nA (Nat.lt_of_lt_of_le (show 0 < 1 by decide) (by decide)) fun H2 b2 x2=>?_;have xa:=zag hx f1;symm;refine zau (by decide) fun b H3 f3 s3 e3=>?_;have x3:=s3 _ _ x2;symm;have e2:H2 a=some (.lst []):=by rw [b2 _ xa.symm];exact e1
  have ab:=zag e2 f3;have xb:=zag x2 f3;refine za6 x3 hcl nB (Nat.lt_of_lt_of_le (zbQ (show 0 < 1 by decide)) (by decide)) fun H4 b4 x4=>?_;symm;refine za6 x4 hcl nS (Nat.lt_of_lt_of_le (zbQ (zbQ (show 0 < 1 by decide))) (by decide)) fun H5 b5 x5=>?_;symm;refine za6 x5 hcl nD (Nat.lt_of_lt_of_le (zbQ (zbQ (zbQ (show 0 < 1 by decide)))) (by decide)) fun H6 b6 x6=>?_;symm;refine zau (by decide) fun c H7 f7 s7 e7=>?_;have x7:=s7 _ _ x6;have a6:H6 a=some (.lst []):=by rw [b6 _ xa.symm,b5 _ xa.symm,b4 _ xa.symm];exact s3 _ _ e2
  have b6':H6 b=some (.lst []):=by rw [b6 _ xb.symm,b5 _ xb.symm,b4 _ xb.symm];exact e3
  have ac:=zag a6 f7;have bc:=zag b6' f7;have xc:=zag x6 f7;symm;refine za6 x7 hcl nC (Nat.lt_of_lt_of_le (zbQ (zbQ (zbQ (zbQ (show 0 < 1 by decide))))) (by decide)) fun H8 b8 x8=>?_;have a8:H8 a=some (.lst []):=by rw [b8 _ xa.symm];exact s7 _ _ a6
  have b8':H8 b=some (.lst []):=by rw [b8 _ xb.symm];exact s7 _ _ b6'
  have c8:H8 c=some (.lst []):=by rw [b8 _ xc.symm];exact e7
  symm;refine zau (by decide) fun d H9 f9 s9 e9=>?_;have x9:=s9 _ _ x8;have ad:=zag a8 f9;have bd:=zag b8' f9;have cd:=zag c8 f9;have xd:=zag x8 f9;symm;refine za6 x9 hcl nE (Nat.lt_of_lt_of_le (zbQ (zbQ (zbQ (zbQ (zbQ (show 0 < 1 by decide)))))) (by decide)) fun H10 b10 x10=>?_;symm;rw [exFs_mk] at x10;have kp:∀ b o,H b=some o→b≠x→H10 b=some o:=fun z o h n=>by
   rw [b10 _ n];refine s9 _ _ ?_;rw [b8 _ n];refine s7 _ _ ?_;rw [b6 _ n,b5 _ n,b4 _ n];refine s3 _ _ ?_;rw [b2 _ n];exact s1 _ _ h
  have nn:∀ b,H2 b=none→H b=none:=fun z h=>by
   cases hz:H z with
   | none=>rfl
   | some o =>
     by_cases n:z=x
     ·rw [n,x2] at h;cases h
     ·rw [b2 _ n,s1 _ _ hz] at h;cases h
  have nn6:∀ b,H6 b=none→H b=none:=fun z h=>nn z (by
   cases hz:H2 z with
   | none=>rfl
   | some o =>
     by_cases n:z=x
     ·rw [n,x6] at h;cases h
     ·rw [b6 _ n,b5 _ n,b4 _ n,s3 _ _ hz] at h;cases h)
  have nn8:∀ b,H8 b=none→H b=none:=fun z h=>nn6 z (by
   cases hz:H6 z with
   | none=>rfl
   | some o =>
     by_cases n:z=x
     ·rw [n,x8] at h;cases h
     ·rw [b8 _ n,s7 _ _ hz] at h;cases h)
  have J:ExIn t.C_Exam H10 ⟨x,dx,a,b,c,d,[],[],[]⟩ ⟨[],[],0,none⟩ []:=by
   refine ⟨x10,by show H10 a=_;rw [b10 _ xa.symm];exact s9 _ _ a8,by show H10 b=_;rw [b10 _ xb.symm];exact s9 _ _ b8',by show H10 c=_;rw [b10 _ xc.symm];exact s9 _ _ c8,by show H10 d=_;rw [b10 _ xd.symm];exact e9,rfl,rfl,rfl,fun i hi=>absurd hi (by simp),fun i hi=>absurd hi (by simp [ExS.nm]),fun i hi=>absurd hi (by simp [ExS.nm]),fun i hi=>absurd hi (by simp [ExS.nm]),fun i hi=>absurd hi (by simp [ExS.nm]),rfl,?_,⟨fun z=>(by cases z),fun k hk=>absurd hk (by simp [ExS.nm]),fun k r p z=>(by cases z),by decide⟩⟩;unfold ExAd.own;simp only [List.nodup_cons,List.mem_cons,List.append_nil,List.not_mem_nil,not_or,not_false_iff,List.nodup_nil,and_true];exact ⟨⟨xa,xb,xc,xd⟩,⟨ab,ac,ad⟩,⟨bc,bd⟩,cd⟩
  refine q H10 _ (fun z o h n _=>kp z o h n) (fun z h=>?_) J.at;unfold ExAd.own at h;simp only [List.mem_cons,List.append_nil,List.not_mem_nil,or_false] at h;rcases h with h | h | h | h | h
  ·exact .inl h
  ·exact .inr (.inr (h▸f1))
  ·exact .inr (.inr (h▸nn _ f3))
  ·exact .inr (.inr (h▸nn6 _ f7))
  ·exact .inr (.inr (h▸nn8 _ f9))
theorem zgP {K:PySem.W.Frag} {C x dx:Addr} {H:Hp} {Q:VK} {E:XK} (h:H x=some (.ins C dx [])) (q:∀ H' F,(∀ b o,H b=some o→b≠x→b≠dx→H' b=some o)→(∀ b,F b→b=x∨b=dx∨H b=none)→ExAt C H' x F ⟨[],[],0,none⟩→Q .non H'):zcx K C [.ref x] H Q E:=⟨rfl,x,dx,rfl,h,q⟩
local macro_rules | `(tactic| walk_at "rd1")=>`(tactic| (with_reducible refine zk6 ?_))
local macro_rules | `(tactic| walk_at "rd1")=>`(tactic| (with_reducible refine zht ?_))
local macro_rules | `(tactic| walk_at "rd1")=>`(tactic| (with_reducible refine r_fs ?_))
local macro_rules | `(tactic| walk_at "rd1")=>`(tactic| (with_reducible refine r_je ?_))
local macro_rules | `(tactic| walk_at "sz")=>`(tactic| (simp only [zaP,len_emp,sizeLine_eq,ll_paper,ll_reader,ll_step,ll_enter,ll_open,ll_sp,ll_col,ll_plus];omega))
local macro_rules | `(tactic| walk_at "rd1")=>`(tactic| ((with_reducible refine' r_jl ?h1 ?_);(case h1=>walk_at "sz")))
local macro_rules | `(tactic| walk_at "rd1")=>`(tactic| ((with_reducible refine' r_jn ?h1 ?_);(case h1=>walk_at "sz")))
local macro_rules | `(tactic| walk_at "rd1")=>`(tactic| ((with_reducible refine' zjx ?h1 ?h2 ?_);(case h1=>exact zjv (by assumption));(case h2=>walk_at "sz")))
local macro_rules | `(tactic| walk_at "rds")=>`(tactic| repeat (first | walk_at "rd1" | (with_reducible refine iteF ?_) | (with_reducible refine iteT ?_) | (refine zbL (fun h=>absurd h (by decide +kernel)) (fun _=>?_)) | (refine zbL (fun _=>?_) (fun h=>absurd (by decide +kernel) h))))
def zdq (K:PySem.W.Frag):Sp:=fun vs H Q _=>vs.length=1∧∃ (a:Addr) (xs:List Str),vs=[.ref a]∧SqL K H a (xs.map V.str)∧(∀ x∈xs,x.length≤1000)∧xs.length≤1000∧Q (.str (rowT xs)) H
theorem zcs (T:Txt K mg t):FnOk P w K mg base CX0 1 t.f_60 t.d_60 ["parts"] (zdq K):=by
 refine T.F_60.ok sc_60 (fun _ _ _ _ h=>h.1) fun cdv A outer s H vs Q E hr h=>by
  refine ⟨_,(zac (zaX (zat (zb8 (K:=K) rfl hr.units0) (zai (zak (K:=K) rfl) (by rfl) T.z_len (by rfl) (zaa (pv 0) pa_nil)) zae (zaC _))
   (zad (zaj zaQ)) pss_nil)
   (zad (zaj (zbr (K:=K) rfl PySem.F.plainAttrs_str PySem.F.slot_str_join PySem.F.type_str_join (zgN (K:=K) rfl) zaQ (zaa (pv 0) pa_nil))))),?_⟩
  obtain ⟨_,a,xs,rfl,ha,hx,hl,q⟩:=h;symm;rw [List.length_map]
  cases xs with
  | nil =>
    refine zbL (fun _=>?_) (fun z=>absurd rfl z);symm;exact q
  | cons p ps =>
    refine zbL (fun z=>absurd z (by rw [List.length_cons];omega)) (fun _=>?_);symm;exact zgg ha (zdp hx hl).1 (zdp hx hl).2 q
theorem zbs {H:Hp} {a:Addr} {xs:List Str} {Q:VK} {E:XK} (h:SqL K H a (xs.map V.str)) (hx:∀ x∈xs,x.length≤1000) (hl:xs.length≤1000) (q:Q (.str (rowT xs)) H):zdq K [.ref a] H Q E:=⟨rfl,a,xs,rfl,h,hx,hl,q⟩
def zcR (K:PySem.W.Frag):Sp:=fun vs H Q _=>vs.length=3∧∃ k x y:Int,vs=[.int k,.int x,.int y]∧k.natAbs < 10 ^ 40∧x.natAbs < 10 ^ 40∧y.natAbs < 10 ^ 40∧Q (.str (dltT k x y)) H
theorem zeA (T:Txt K mg t):FnOk P w K mg base CX0 1 t.f_61 t.d_61 ["paper","first","second"] (zcR K):=by
 refine T.F_61.ok sc_61 (fun _ _ _ _ h=>h.1) fun cdv A outer s H vs Q E hr h=>by
  refine ⟨_,(zad (zaj (zcg (zbk (pv 0) (zbR (zbk (pv 1) (zbR (zbk (pv 2) pj_nil)))))))),?_⟩;obtain ⟨_,k,x,y,rfl,n1,n2,n3,q⟩:=h;have l1:(Str.ofString (toString k)).length≤41:=za3 n1;have l2:(Str.ofString (toString x)).length≤41:=za3 n2;have l3:(Str.ofString (toString y)).length≤41:=za3 n3;symm;exact q
theorem ze1 {H:Hp} {k x y:Int} {Q:VK} {E:XK} (n1:k.natAbs < 10 ^ 40) (n2:x.natAbs < 10 ^ 40) (n3:y.natAbs < 10 ^ 40) (q:Q (.str (dltT k x y)) H):zcR K [.int k,.int x,.int y] H Q E:=⟨rfl,k,x,y,rfl,n1,n2,n3,q⟩
def zeB (K:PySem.W.Frag):Sp:=fun vs H Q _=>vs.length=1∧∃ v:V,vs=[v]∧((v=.non∧Q (.str "not dealt") H)∨∃ p rows,v=.ref p∧LL K H p rows∧Sml rows∧rows.length≤10∧∀ H',Same H H'→Q (.str (rowT (dltR rows))) H')
theorem zeC (T:Txt K mg t):FnOk P w K mg base CX0 2 t.f_58 t.d_58 ["rows"] (zeB K):=by
 have G_60:=zcs (P:=P) (w:=w) (base:=base) T;have G_61:=zeA (P:=P) (w:=w) (base:=base) T;refine T.F_58.ok sc_58 (fun _ _ _ _ h=>h.1) fun cdv A outer s H vs Q E hr h=>by
  refine ⟨_,(zac (zaX (zat (op_isNN) (pv 0) zb5 (zaC _))
   (zad (zaj zaQ)) pss_nil)
   (zad (zaj (zaq G_60 (hr.mono (by decide)) (by rfl) T.m_60 T.F_60.kp T.b_60 .nil zaD (zaa (zaN (zah (sc:=zab s_58) (XN:=["rows"]) (N:=["paper","row"]) (own:=2) (js:=[]) rfl rfl (by decide +kernel)) rfl (zfy (K:=K) rfl (by rfl) T.z_enumerate (zaa (pv 0) pa_nil)) (fun _ _ _ _ _=>(zdI (K:=K) (n:=2) rfl rfl (zbm (zap (i:=0) (show List.Nodup [(Str.ofString "paper"),(Str.ofString "row")] by decide +kernel) rfl (Or.inl rfl)) (zbm (zap (i:=1) (show List.Nodup [(Str.ofString "paper"),(Str.ofString "row")] by decide +kernel) rfl (Or.inl rfl)) pgs_nil)))) (fun _ _ _ _ _=>zaT) (fun _ _ _ _ _=>(zaq G_61 (hr.mono (by decide)) (by rfl) T.m_61 T.F_61.kp T.b_61 .nil zaD (zaa (pv 0) (zaa (zaw (zaf (K:=K) rfl) (pv 1) zae (fun _ _=>rfl)) (zaa (zaw (zaf (K:=K) rfl) (pv 1) zae (fun _ _=>rfl)) pa_nil)))))) pa_nil))))),?_⟩
  obtain ⟨_,v,rfl,⟨rfl,q⟩ | ⟨p,rows,rfl,hp,S,hl,q⟩⟩:=h
  ·symm;rw [decide_eq_true (rfl:V.non=V.non)];refine iteT ?_;symm;exact q
  ·obtain ⟨ps,sq,pl,pr⟩:=hp;symm;rw [decide_eq_false (show ¬V.ref p=V.non by intro z;cases z)];refine iteF ?_;symm;refine zef sq ?_;refine zbX (zbP.enum sq) (by rw [List.length_map];omega) (fun _=>true) (fun i=>.str (dltT ((i:Int)+1) ((rows.getD i []).getD 0 0) ((rows.getD i []).getD 1 0))) (fun i H' Q' _ _ q'=>q' _ (Same.refl _)) (fun i H' Q' hi s _ q'=>?_) fun p2 H2 f s e=>?_
   ·rw [List.length_map] at hi;have ex:((ps.map V.ref).getD i .non)=.ref (ps.getD i 0):=by rw [List.getD_eq_getElem?_getD,List.getElem?_map,List.getElem?_eq_getElem hi,List.getD_eq_getElem?_getD,List.getElem?_eq_getElem hi];rfl
    rw [ex];show (_:TE) (some (.int (1+(i:Int)))::some (.ref _)::_) _ _;have hrow:=s _ _ (pr i (by omega));obtain ⟨h2,n1,n2⟩:=S i (by omega);symm;refine ze1 (by omega) n1 n2 ?_;rw [show (1:Int)+(i:Int)=(i:Int)+1 by omega];exact q' _ (Same.refl _)
   rw [List.filter_eq_self.mpr (fun _ _=>rfl),List.length_map,pl] at e;have e:H2 p2=some (.lst ((dltR rows).map V.str)):=by rw [e];unfold dltR;rw [List.map_map];rfl
   symm;refine zbs (SqL.of e) (fun x hx=>?_) (by rw [zfG];omega) (q H2 s);obtain ⟨i,hi,rfl⟩:=List.mem_map.mp hx;have hi:=List.mem_range.mp hi;obtain ⟨_,n1,n2⟩:=S i hi;have:=zl6 (k:=(i:Int)+1) (by omega) n1 n2;omega
def zbZ (K:PySem.W.Frag) (C:Addr):Sp:=fun vs H Q _=>vs.length=1∧∃ (x:Addr) (F:Addr→Prop) (st:ExS),vs=[.ref x]∧ExAt C H x F st∧InB st.hs st.rs∧((st.dl=none→∀ H',Same H H'→Q .non H')∧∀ nm en,st.dl=some (nm,en)→∀ p H',RowsAt H p (nm.map (List.take 2)) H'→Q (.ref p) H')
theorem zeD (T:Txt K mg t):FnOk P w K mg base CX0 1 t.f_40 t.d_40 ["self"] (zbZ K t.C_Exam):=by
 refine T.F_40.ok sc_40 (fun _ _ _ _ h=>h.1) fun cdv A outer s H vs Q E hr h=>by
  refine ⟨_,(zac (zaX (zcw (zaF (K:=K) rfl (zaG (K:=K) rfl (pv 0)) (fun _=>rfl)))
   (zad (zaj zb5)) pss_nil)
   (zad (zaj (zaN (zah (sc:=zab s_40) (XN:=["self"]) (N:=["named"]) (own:=1) (js:=[]) rfl rfl (by decide +kernel)) rfl (zaB (K:=K) rfl (zaG (K:=K) rfl (pv 0))) (fun _ _ _ _ _=>(zap (i:=0) (show List.Nodup [(Str.ofString "named")] by decide +kernel) rfl (Or.inl rfl))) (fun _ _ _ _ _=>zaT) (fun _ _ _ _ _=>(zcU (zcV (K:=K) rfl) (pv 0) po_none (zdH zae))))))),?_⟩
  obtain ⟨_,x,F,st,rfl,E0,BB,q⟩:=h;have B1:=BB.lp;have B2:=BB.lr;walk_at "hd";obtain ⟨q0,q1⟩:=q;have lq:=I.lq;have l10:=I.wf.n10 BB;symm
  cases hdl:st.dl with
  | none =>
    refine iteT ?_;symm;exact q0 hdl H (Same.refl H)
  | some d =>
    obtain ⟨nm,en⟩:=d;refine iteF ?_;rw [hdl] at hob;have fC:=@exFs_c (.ref e.a) (.ref e.b) (.int st.step) (.bl (some (nm,en)).isSome) (.ref e.c) (.ref e.d);have enm:st.nm=nm:=by unfold ExS.nm;rw [hdl];rfl
    rw [enm] at lq l10;have rq:=I.rq;rw [enm] at rq;symm;refine zaO (SqL.of hhc) ?_;have hl:=q1;refine zbH (zcN (zbP.one (zaU (SqL.of hhc))) (by rw [List.length_map];omega) (fun i=>(nm.getD i []).take 2) (fun i H' Q' hi s q'=>?_) fun p H2 R=>?_)
    ·rw [List.length_map,lq] at hi;have ex:(e.qs.map V.ref).getD i .non=.ref (e.qs.getD i 0):=by
      rw [List.getD_eq_getElem?_getD,List.getElem?_map,List.getElem?_eq_getElem (by omega),List.getD_eq_getElem?_getD,List.getElem?_eq_getElem (by omega)];rfl
     rw [ex];have hrow:=s _ _ (rq i hi);show (_:TE) (some (.ref (e.qs.getD i 0))::_) _ _;symm;refine zbU (SqL.of hrow) fun p2 H2 f2 s2 e2=>?_;rw [show cutV ((nm.getD i []).map V.int) none (some 2)=((nm.getD i []).map V.int).take 2 from ziU 2,← List.map_take] at e2;exact q' p2 H2 f2 s2 e2
    ·rw [List.length_map,lq] at R;have em:(List.range nm.length).map (fun i=>(nm.getD i []).take 2)=nm.map (List.take 2):=by
      refine List.ext_getElem (by simp) fun i h1 h2=>?_;simp at h1 ⊢;rw [List.getElem?_eq_getElem h1];rfl
     rw [em] at R;exact q1 nm en hdl p H2 R
theorem ze2 {K:PySem.W.Frag} {C x:Addr} {H:Hp} {F:Addr→Prop} {st:ExS} {Q:VK} {E:XK} (h:ExAt C H x F st) (B:InB st.hs st.rs) (q:((st.dl=none→∀ H',Same H H'→Q .non H')∧∀ nm en,st.dl=some (nm,en)→∀ p H',RowsAt H p (nm.map (List.take 2)) H'→Q (.ref p) H')):zbZ K C [.ref x] H Q E:=⟨rfl,x,F,st,rfl,h,B,q⟩
theorem ze3 {K:PySem.W.Frag} {C x:Addr} {H:Hp} {F:Addr→Prop} {st:ExS} {Q:VK} {E:XK} {σ:L2.St} (h:ExAt C H x F st) (B:InB st.hs st.rs) (q:((st.dl=none→∀ H',Same H H'→Q .non H')∧∀ nm en,st.dl=some (nm,en)→∀ p H',RowsAt H p (nm.map (List.take 2)) H'→Q (.ref p) H')):zbI C "dealing" (zbZ K C) E tNil σ (.ref x) H Q:=by
 obtain ⟨dx,fs,e,l⟩:=h.ob;exact za0 e (l _ (by decide +kernel)) (zfu (ze2 h B q))
def zeE (K:PySem.W.Frag):Sp:=fun vs H Q _=>vs.length=1∧∃ v:V,vs=[v]∧((v=.non∧∀ H',Same H H'→Q (.str "none") H')∨∃ (p:Addr) (xs:List Int),v=.ref p∧H p=some (.lst (xs.map V.int))∧xs.length≤1000∧(∀ x∈xs,x.natAbs < 10 ^ 40)∧∀ H',Same H H'→Q (.str (rowT (xs.map tS))) H')
theorem zeF (T:Txt K mg t):FnOk P w K mg base CX0 2 t.f_59 t.d_59 ["chosen"] (zeE K):=by
 have G_60:=zcs (P:=P) (w:=w) (base:=base) T;refine T.F_59.ok sc_59 (fun _ _ _ _ h=>h.1) fun cdv A outer s H vs Q E hr h=>by
  refine ⟨_,(zac (zaX (zat (op_isNN) (pv 0) zb5 (zaC _))
   (zad (zaj (zaq G_60 (hr.mono (by decide)) (by rfl) T.m_60 T.F_60.kp T.b_60 .nil zaD (zaa (zaL pa_nil) pa_nil)))) pss_nil)
   (zad (zaj (zaq G_60 (hr.mono (by decide)) (by rfl) T.m_60 T.F_60.kp T.b_60 .nil zaD (zaa (zaN (zah (sc:=zab s_59) (XN:=["chosen"]) (N:=["paper"]) (own:=1) (js:=[]) rfl rfl (by decide +kernel)) rfl (zaB (K:=K) rfl (pv 0)) (fun _ _ _ _ _=>(zap (i:=0) (show List.Nodup [(Str.ofString "paper")] by decide +kernel) rfl (Or.inl rfl))) (fun _ _ _ _ _=>zaT) (fun _ _ _ _ _=>(zbx (zbY (K:=K) rfl) (by rfl) T.z_str (by rfl) (zaa (pv 0) pa_nil)))) pa_nil))))),?_⟩
  obtain ⟨_,v,rfl,⟨rfl,q⟩ | ⟨p,xs,rfl,hp,hl,hb,q⟩⟩:=h
  ·symm;rw [decide_eq_true (rfl:V.non=V.non)];refine iteT ?_;symm;refine zau (by decide) fun p1 H1 f1 s1 e1=>?_;symm;exact zbs (xs:=[]) (SqL.of e1) (fun x hx=>absurd hx (by simp)) (by decide) (q H1 s1)
  ·symm;rw [decide_eq_false (show ¬V.ref p=V.non by intro z;cases z)];refine iteF ?_;symm;refine zaO (SqL.of hp) ?_;refine zbe (zaU (SqL.of hp)) (zaK (by rw [List.length_map];omega)) (fun _=>true) (fun i=>.str (tS (xs.getD i 0))) (fun i H' Q' hi s q'=>q') (fun i H' Q' hi s _ q'=>?_) fun p2 hp2=>?_
   ·rw [List.length_map] at hi;have ex:((xs.map V.int).getD i .non)=.int (xs.getD i 0):=zck hi;rw [ex];show (_:TE) (some (.int _)::_) _ _;symm;exact zfi (hb _ (getD_mem hi)) q'
   rw [List.filter_eq_self.mpr (fun _ _=>rfl),List.length_map];have em:(List.range xs.length).map (fun i=>V.str (tS (xs.getD i 0)))=(xs.map tS).map V.str:=by
    conv=>rhs;rw [← zbi xs 0]
    rw [List.map_map,List.map_map];rfl
   rw [em];have e2:(upd H p2 (.lst ((xs.map tS).map V.str))) p2=some (.lst ((xs.map tS).map V.str)):=zar;symm;refine zbs (SqL.of e2) (fun x hx=>?_) (by rw [List.length_map];exact hl) (q _ (zaH hp2));obtain ⟨y,hy,rfl⟩:=List.mem_map.mp hx;have:=za3 (hb y hy);omega
def zbN (ns:List Int):Int:=(mxOf none ns).getD 0
def zc3 (K:PySem.W.Frag):Sp:=fun vs H Q _=>vs.length=1∧∃ (a:Addr) (ns:List Int),vs=[.ref a]∧SqL K H a (ns.map V.int)∧Q (.int (zbN ns)) H
theorem ze4 (T:Txt K mg t):FnOk P w K mg base CX0 1 t.f_4 t.d_4 ["chosen"] (zc3 K):=by
 refine T.F_4.ok sc_4 (fun _ _ _ _ h=>h.1) fun cdv A outer s H vs Q E hr h=>by
  refine ⟨_,(zad (zaj (zeZ (K:=K) rfl rfl (by rfl) T.z_max (pv 0) zae))),?_⟩;obtain ⟨_,a,ns,rfl,ha,q⟩:=h;symm;exact q
theorem zfI {H:Hp} {a:Addr} {ns:List Int} {Q:VK} {E:XK} (h:SqL K H a (ns.map V.int)) (q:Q (.int (zbN ns)) H):zc3 K [.ref a] H Q E:=⟨rfl,a,ns,rfl,h,q⟩
def extB (m:Int) (c:List Int):List (List Int):=(List.range (m+1-(zbN c+1)).toNat).map fun i:Nat=>c++[zbN c+1+(i:Int)]
def za1 (m:Int) (L:List (List Int)):List (List Int):=L.flatMap (extB m)
theorem zdV (m:Int) (L:List (List Int)) (i:Nat) (h:i < L.length):za1 m (L.take (i+1))=za1 m (L.take i)++extB m (L.getD i []):=by
 unfold za1;rw [List.take_add_one,List.getElem?_eq_getElem h,List.flatMap_append,List.getD_eq_getElem?_getD,List.getElem?_eq_getElem h];simp
theorem zh2 (m:Int) (L:List (List Int)) (i:Nat):(za1 m (L.take i)).length≤(za1 m L).length:=by
 have e:za1 m L=za1 m (L.take i)++za1 m (L.drop i):=by
  unfold za1;rw [← List.flatMap_append,List.take_append_drop]
 rw [e,List.length_append];omega
def zca (K:PySem.W.Frag):Sp:=fun vs H Q _=>vs.length=2∧∃ (a:Addr) (L:List (List Int)) (m:Int),vs=[.ref a,.int m]∧LL K H a L∧0≤m∧m≤10∧(za1 m L).length≤1000∧(∀ i,i < L.length→(L.getD i []).length≤100∧0≤zbN (L.getD i [])∧zbN (L.getD i [])≤10)∧∀ (p:Addr) (H2:Hp),RowsAt H p (za1 m L) H2→Q (.ref p) H2
theorem zdr (T:Txt K mg t):FnOk P w K mg base CX0 2 t.f_3 t.d_3 ["of_one_size","many"] (zca K):=by
 have G_4:=ze4 (P:=P) (w:=w) (base:=base) T;refine T.F_3.ok sc_3 (fun _ _ _ _ h=>h.1) fun cdv A outer s H vs Q E hr h=>by
  refine ⟨_,(zac (zaE (i:=2) sc_3.nd rfl (Or.inl rfl) (zaL pa_nil))
   (zac (za7 PassesOwn.never rfl (zaB (K:=K) rfl (pv 0)) (zap (i:=3) sc_3.nd rfl (Or.inl rfl))
   (zad (za7 PassesOwn.never rfl (zbd (by rfl) T.z_range (zaa (zay (op_addG) (zaq G_4 (hr.mono (by decide)) (by rfl) T.m_4 T.F_4.kp T.b_4 .nil zaD (zaa (pv 3) pa_nil)) zae) (zaa (zay (op_addG) (pv 1) zae) pa_nil))) (zap (i:=4) sc_3.nd rfl (Or.inl rfl))
   (zad (zaV (zbr (K:=K) rfl PySem.F.plainAttrs_list PySem.F.slot_list_append PySem.F.type_list_append mt_append (pv 2) (zaa (zay (op_addG) (pv 3) (zaL (zaa (pv 4) pa_nil))) pa_nil)))))))
   (zad (zaj (pv 2))))),?_⟩
  obtain ⟨_,a,L,m,rfl,hL,m0,m1,hz,hg,q⟩:=h;obtain ⟨ps,hb,hl,hrow⟩:=id hL;symm;refine zau (by decide) fun p1 H1 f1 s1 e1=>?_;symm;refine zaO (s1.seq hb) ?_;refine zdb (xs:=ps.map V.ref) (fun i σ H'=>∃ v w,σ=[some (.ref a),some (.int m),some (.ref p1),v,w]∧RowsAt H p1 (za1 m (L.take i)) H') ⟨none,none,rfl,RowsAt.start f1 s1 e1⟩ ?_ ?_ ?_
  ·rintro i σ H' _ ⟨v,w,rfl,R⟩;exact R.same.seq hb
  ·rintro i x σ H' hx ⟨v,w,rfl,R⟩;have hi:i < ps.length:=by
    have:=(List.getElem?_eq_some_iff.mp hx).1;simpa using this
   have ex:x=.ref (ps.getD i 0):=by
    rw [List.getElem?_map,List.getElem?_eq_getElem hi] at hx;rw [List.getD_eq_getElem?_getD,List.getElem?_eq_getElem hi];exact (Option.some.inj hx).symm
   subst ex;have hc:=R.same _ _ (hrow i (by omega));obtain ⟨g1,g2,g3⟩:=hg i (by omega);symm;refine zfI (SqL.of hc) ?_;symm;refine zcJ ⟨by omega,by omega,by omega,by omega⟩ ?_;refine zbM (fun j σ H'=>∃ w,σ=[some (.ref a),some (.int m),some (.ref p1),some (.ref (ps.getD i 0)),w]∧RowsAt H p1 (za1 m (L.take i)++(extB m (L.getD i [])).take j) H') ⟨w,rfl,by rw [List.take_zero,List.append_nil];exact R⟩ ?_ ?_
   ·rintro j σ H3 hj ⟨w,rfl,R3⟩;have hc3:=R3.same _ _ (hrow i (by omega));obtain ⟨zs,hz3,hzl⟩:=R3.lst;have hlen:zs.length≤1000:=by
     rw [hzl,List.length_append];have e1:=zh2 m L (i+1);rw [zdV m L i (by omega),List.length_append] at e1;have e2:((extB m (L.getD i [])).take j).length≤(extB m (L.getD i [])).length:=by rw [List.length_take];omega
     omega
    symm;refine zau (by simp) fun q1 H4 f4 s4 e4=>?_;refine zco (s4 _ _ hc3) e4 (by rw [List.length_map];simp only [List.length_cons,List.length_nil];omega) fun q2 H5 f5 s5 e5=>?_;symm;have s45:=s4.trans s5;refine zaW (s45 _ _ hz3) (by omega) fun H6 b6 e6=>?_;symm;refine ⟨_,rfl,?_⟩;have ej:(extB m (L.getD i [])).take (j+1)=(extB m (L.getD i [])).take j++[L.getD i []++[zbN (L.getD i [])+1+(j:Int)]]:=by
     have hjl:j < (extB m (L.getD i [])).length:=by unfold extB;rw [List.length_map,List.length_range];exact hj
     rw [List.take_add_one,List.getElem?_eq_getElem hjl];unfold extB;simp
    rw [ej,← List.append_assoc];refine R3.push (s4.free f5) s45 ?_ (s45 _ _ hz3) b6 e6;rw [e5,List.map_append];rfl
   ·rintro σ H3 ⟨w,rfl,R3⟩;refine ⟨_,_,rfl,?_⟩;rw [zdV m L i (by omega)];have et:(extB m (L.getD i [])).take (m+1-(zbN (L.getD i [])+1)).toNat=extB m (L.getD i []):=by
     refine List.take_of_length_le ?_;unfold extB;rw [List.length_map,List.length_range];exact Nat.le_refl _
    rw [et] at R3;exact R3
  ·rintro σ H' ⟨v,w,rfl,R⟩;rw [List.length_map,hl,List.take_length] at R;symm;exact q p1 H' R
theorem zdO {H:Hp} {a:Addr} {L:List (List Int)} {m:Int} {Q:VK} {E:XK} (h1:LL K H a L) (m0:0≤m) (m1:m≤10) (hz:(za1 m L).length≤1000) (hg:∀ i,i < L.length→(L.getD i []).length≤100∧0≤zbN (L.getD i [])∧zbN (L.getD i [])≤10)
  (q:∀ (p:Addr) (H2:Hp),RowsAt H p (za1 m L) H2→Q (.ref p) H2):zca K [.ref a,.int m] H Q E:=⟨rfl,a,L,m,rfl,h1,m0,m1,hz,hg,q⟩
def aheadAll:List (List Int)→Bool
 | a::b::r=>zcZ a b && aheadAll (b::r)
 | _=>true
def zgQ (m:Int):Nat→List (List Int)→Bool
 | 0,L=>L.isEmpty
 | n+1,L=>decide ((za1 m L).length≤1000) && L.all (fun c=>decide (c.length≤100) && decide (0≤zbN c) && decide (zbN c≤10)) && zgQ m n (za1 m L)
def allFrom (m:Int):Nat→List (List Int)→List (List Int)
 | 0,_=>[]
 | n+1,L=>L++allFrom m n (za1 m L)
def zch (m:Int):List (List Int):=allFrom m 11 [[]]
def chk (m:Nat):Bool:=zgQ m 11 [[]] && (let S:=zch m;decide (S.length=2 ^ m) && S.all (zf3 m 0) && aheadAll S)
theorem chk_all:(List.range 11).all chk=true:=by decide +kernel
theorem zk9 {m:Int} (h0:0≤m) (h1:m≤10):zgQ m 11 [[]]=true∧(zch m).length=2 ^ m.toNat∧(∀ xs∈zch m,zf3 m 0 xs=true)∧aheadAll (zch m)=true:=by
 obtain ⟨n,rfl⟩:=Int.eq_ofNat_of_zero_le h0;have:=List.all_eq_true.mp chk_all n (List.mem_range.mpr (by omega));unfold chk at this;simp only [Bool.and_eq_true,decide_eq_true_eq,List.all_eq_true] at this;obtain ⟨a,⟨b,c⟩,d⟩:=this;exact ⟨a,b,c,d⟩
theorem zeG (m:Int):∀ n,allFrom m n []=[]
 | 0=>rfl
 | n+1=>zeG m n
structure Told (B:Hp) (p:Addr) (rs:List (List Int)) (H:Hp):Prop where
 same:Same B H
 new:B p=none
 rows:∃ ps:List Addr,H p=some (.lst (ps.map V.ref))∧ps.length=rs.length∧∀ i,i < rs.length→H (ps.getD i 0)=some (.lst ((rs.getD i []).map V.int))∧B (ps.getD i 0)=none∧ps.getD i 0≠p
theorem Told.ll {K:PySem.W.Frag} {B H:Hp} {p:Addr} {rs:List (List Int)} (R:Told B p rs H):LL K H p rs:=by
 obtain ⟨sb,hp,ps,h1,h2,h3⟩:=R;exact ⟨ps,SqL.of h1,h2,fun i hi=>(h3 i hi).1⟩
theorem Told.mono {B H H':Hp} {p:Addr} {rs:List (List Int)} (R:Told B p rs H) (s:Same H H'):Told B p rs H':=by
 obtain ⟨sb,hp,ps,h1,h2,h3⟩:=R;exact ⟨sb.trans s,hp,ps,s _ _ h1,h2,fun i hi=>⟨s _ _ (h3 i hi).1,(h3 i hi).2⟩⟩
theorem Told.ext {B H H3:Hp} {p:Addr} {rs rs2:List (List Int)} {ps qs:List Addr} (sb:Same B H) (hp:B p=none) (h1:H p=some (.lst (ps.map V.ref))) (h2:ps.length=rs.length)
  (h3:∀ i,i < rs.length→H (ps.getD i 0)=some (.lst ((rs.getD i []).map V.int))∧B (ps.getD i 0)=none∧ps.getD i 0≠p)
  (k2:qs.length=rs2.length) (k3:∀ i,i < rs2.length→H (qs.getD i 0)=some (.lst ((rs2.getD i []).map V.int))∧B (qs.getD i 0)=none∧qs.getD i 0≠p)
  (b:But p H H3) (e:H3 p=some (.lst (ps.map V.ref++qs.map V.ref))):Told B p (rs++rs2) H3:=by
 refine ⟨sb.but b hp,hp,ps++qs,by rw [e,List.map_append],by rw [List.length_append,List.length_append,h2,k2],fun i hi=>?_⟩;rw [List.length_append] at hi
 by_cases hlt:i < rs.length
 ·rw [zas (by omega),zas hlt];obtain ⟨a1,a2,a3⟩:=h3 i hlt;exact ⟨by rw [b _ a3];exact a1,a2,a3⟩
 ·obtain ⟨j,rfl⟩:∃ j,i=rs.length+j:=⟨i-rs.length,by omega⟩
  have e1:(ps++qs).getD (rs.length+j) 0=qs.getD j 0:=by
   rw [List.getD_eq_getElem?_getD,List.getD_eq_getElem?_getD,List.getElem?_append_right (by omega)]
   congr 2;omega
  have e2:(rs++rs2).getD (rs.length+j) []=rs2.getD j []:=by
   rw [List.getD_eq_getElem?_getD,List.getD_eq_getElem?_getD,List.getElem?_append_right (by omega)]
   congr 2;omega
  rw [e1,e2];obtain ⟨a1,a2,a3⟩:=k3 j (by omega);exact ⟨by rw [b _ a3];exact a1,a2,a3⟩
theorem zgR {H:Hp} {Q:VK} {p b:Addr} {xs ys:List V} (h:H p=some (.lst xs)) (h':H b=some (.lst ys)) (hz:xs.length+ys.length≤1000000) (q:∀ H2,But p H H2→H2 p=some (.lst (xs++ys))→Q .non H2):rExtend (.ref p) [.ref b] H Q :=
 ⟨p,b,xs,ys,rfl,rfl,h,h',by rw [sizeLine_eq];omega,q _ But.upd zar⟩
def zfj (K:PySem.W.Frag):Sp:=fun vs H Q _=>vs.length=1∧∃ (m:Int),vs=[.int m]∧0≤m∧m≤10∧∀ (p:Addr) (H2:Hp),Told H p (zch m) H2→Q (.ref p) H2
theorem zh3 (T:Txt K mg t):FnOk P w K mg base CX0 3 t.f_2 t.d_2 ["many"] (zfj K):=by
 have G_3:=zdr (P:=P) (w:=w) (base:=base) T;refine T.F_2.ok sc_2 (fun _ _ _ _ h=>h.1) fun cdv A outer s H vs Q E hr h=>by
  refine ⟨_,(zac (zaE (i:=1) sc_2.nd rfl (Or.inl rfl) (zaL pa_nil))
   (zac (zaE (i:=2) sc_2.nd rfl (Or.inl rfl) (zaL (zaa (zaL pa_nil) pa_nil)))
   (zac (zhc PassesOwn.never (zat (op_gt) (zai (zak (K:=K) rfl) (by rfl) T.z_len (by rfl) (zaa (pv 2) pa_nil)) zae (zaC _))
   (zac (zaV (zbr (K:=K) rfl PySem.F.plainAttrs_list PySem.F.slot_list_extend PySem.F.type_list_extend mt_extend (pv 1) (zaa (pv 2) pa_nil)))
   (zad (zaE (i:=2) sc_2.nd rfl (Or.inl rfl) (zaq G_3 (hr.mono (by decide)) (by rfl) T.m_3 T.F_3.kp T.b_3 .nil zaD (zaa (pv 2) (zaa (pv 0) pa_nil)))))))
   (zad (zaj (pv 1)))))),?_⟩
  obtain ⟨_,m,rfl,m0,m1,q⟩:=h;obtain ⟨c1,c2,c3,c4⟩:=zk9 m0 m1;symm;refine zau (by decide) fun p1 H1 f1 s1 e1=>?_;symm;refine zau (by decide) fun p2 H2 f2 s2 e2=>?_;symm;refine zau (by simp) fun p3 H3 f3 s3 e3=>?_;symm;have f2':H p2=none:=s1.free f2;have f3':H p3=none:=(s1.trans s2).free f3;refine ⟨fun n σ H'=>∃ pc told cur,σ=[some (.int m),some (.ref p1),some (.ref pc)]∧Told H p1 told H'∧Told H pc cur H'∧pc≠p1∧(∃ qs:List Addr,H' pc=some (.lst (qs.map V.ref))∧∀ i,i < cur.length→qs.getD i 0≠p1)∧told++allFrom m n cur=zch m∧zgQ m n cur=true,⟨11,p3,[],[[]],rfl,?_,?_,?_,?_,rfl,c1⟩,?_⟩
  ·exact ⟨(s1.trans s2).trans s3,f1,[],s3 _ _ (s2 _ _ e1),rfl,fun i hi=>absurd hi (by simp)⟩
  ·refine ⟨(s1.trans s2).trans s3,f3',[p2],e3,rfl,fun i hi=>?_⟩;have hi0:i=0:=by simpa using hi
   subst hi0;exact ⟨s3 _ _ e2,f2',zag e2 f3⟩
  ·exact (zag (s2 _ _ e1) f3).symm
  ·refine ⟨[p2],e3,fun i hi=>?_⟩;have hi0:i=0:=by simpa using hi
   subst hi0;exact (zag e1 f2).symm
  rintro n σ H' ⟨pc,told,cur,rfl,R1,R2,hne,⟨qs',hq',hqn⟩,hall,hlev⟩;obtain ⟨sb,hp,ps,h1,h2,h3⟩:=id R1;obtain ⟨_,hpc,qs,k1,k2,k3⟩:=id R2;have eqs:qs'=qs:=by
   rw [hq'] at k1;have:=HO.lst.inj (Option.some.inj k1);exact map_ref_inj this
  subst eqs;symm;refine zbL (fun h0=>?_) (fun h0=>?_)
  ·cases n with
   | zero =>
     have:cur=[]:=by simpa [zgQ] using hlev
     rw [this] at k2;rw [k2] at h0;exact absurd h0 (by simp)
   | succ n =>
     unfold zgQ at hlev;simp only [Bool.and_eq_true,decide_eq_true_eq,List.all_eq_true] at hlev;obtain ⟨⟨g1,g2⟩,g3⟩:=hlev;refine ⟨fun σ H'=>∃ pc told cur,σ=[some (.int m),some (.ref p1),some (.ref pc)]∧Told H p1 told H'∧Told H pc cur H'∧pc≠p1∧(∃ qs:List Addr,H' pc=some (.lst (qs.map V.ref))∧∀ i,i < cur.length→qs.getD i 0≠p1)∧told++allFrom m n cur=zch m∧zgQ m n cur=true,
      fun σ' H' z=>⟨n,by omega,z⟩,?_⟩
     have htot:told.length+cur.length≤1024:=by
      have e1:=congrArg List.length hall;rw [c2,List.length_append] at e1;unfold allFrom at e1;rw [List.length_append] at e1;have e2:2 ^ m.toNat≤2 ^ 10:=Nat.pow_le_pow_right (by decide) (by omega);omega
     symm;refine zgR h1 k1 (by rw [List.length_map,List.length_map];omega) fun H4 b4 e4=>?_;have T4:Told H p1 (told++cur) H4:=Told.ext sb hp h1 h2 h3 k2 (fun i hi=>⟨(k3 i hi).1,(k3 i hi).2.1,hqn i hi⟩) b4 e4;have C4:Told H pc cur H4:=by
      refine ⟨T4.same,hpc,qs',by rw [b4 _ hne];exact k1,k2,fun i hi=>?_⟩;obtain ⟨a1,a2,a3⟩:=k3 i hi;exact ⟨by rw [b4 _ (hqn i hi)];exact a1,a2,a3⟩
     symm;refine zdO C4.ll m0 m1 g1 (fun i hi=>?_) fun p5 H5 R5=>?_
     ·have:=g2 (cur.getD i []) (by rw [List.getD_eq_getElem?_getD,List.getElem?_eq_getElem hi];exact List.getElem_mem hi);exact ⟨this.1.1,this.1.2,this.2⟩
     symm;obtain ⟨s5,n5,qs5,w1,w2,wnd,w3⟩:=R5;obtain ⟨_,_,ps4,v1,_,_⟩:=id T4;refine ⟨p5,told++cur,za1 m cur,rfl,T4.mono s5,⟨T4.same.trans s5,T4.same.free n5,qs5,w1,w2,fun i hi=>?_⟩,(zag v1 n5).symm,⟨qs5,w1,fun i hi=>?_⟩,?_,g3⟩
     ·obtain ⟨a1,a2,a3⟩:=w3 i hi;exact ⟨a1,T4.same.free a2,a3⟩
     ·exact (zag v1 (w3 i hi).2.1).symm
     ·rw [← hall,List.append_assoc];rfl
  ·have hc:cur=[]:=by
    cases cur with
    | nil=>rfl
    | cons x r=>rw [List.length_cons] at k2;exact absurd (show (0:Int) < qs'.length by omega) h0
   rw [hc,zeG,List.append_nil] at hall;rw [hall] at R1;symm;exact q p1 H' R1
theorem zjJ {H:Hp} {m:Int} {Q:VK} {E:XK} (m0:0≤m) (m1:m≤10) (q:∀ (p:Addr) (H2:Hp),Told H p (zch m) H2→Q (.ref p) H2):zfj K [.int m] H Q E:=⟨rfl,m,rfl,m0,m1,q⟩
def zeH (K:PySem.W.Frag):Sp:=fun vs H Q _=>vs.length=4∧∃ (a b:Addr) (k j:Int) (hs:List Int) (rs:List (List Int)),vs=[.ref a,.ref b,.int k,.int j]∧SqL K H a (hs.map V.int)∧LL K H b rs∧1≤k∧k≤hs.length∧1≤j∧j≤rs.length∧(∀ i,i < rs.length→(rs.getD i []).length=2) ∧
 Q (.bl (!decide ((rs.getD (j-1).toNat []).getD 0 0=hs.getD (k-1).toNat 0))) H
theorem zeI (T:Txt K mg t):FnOk P w K mg base CX0 1 t.f_0 t.d_0 ["papers","readers","paper","reader"] (zeH K):=by
 refine T.F_0.ok sc_0 (fun _ _ _ _ h=>h.1) fun cdv A outer s H vs Q E hr h=>by
  refine ⟨_,(zac (zaE (i:=4) sc_0.nd rfl (Or.inl rfl) (zaw (zaf (K:=K) rfl) (zaw (zaf (K:=K) rfl) (pv 1) (zay (op_sub) (pv 3) zae) (fun _ _=>rfl)) zae (fun _ _=>rfl)))
   (zad (zaj (zdG (zcQ (K:=K) rfl hr.units0) (pv 4) (zaw (zaf (K:=K) rfl) (pv 0) (zay (op_sub) (pv 2) zae) (fun _ _=>rfl)) (zaC _))))),?_⟩
  obtain ⟨_,a,b,k,j,hs,rs,rfl,ha,⟨ps,hb,hl,hr⟩,k1,k2,j1,j2,h2,q⟩:=h;have hj:(j-1).toNat < rs.length:=by omega
  have hr':=hr _ hj;have h2':=h2 _ hj;symm;exact q
theorem zfk {H:Hp} {a b:Addr} {k j:Int} {hs:List Int} {rs:List (List Int)} {Q:VK} {E:XK} (h1:SqL K H a (hs.map V.int)) (h2:LL K H b rs) (k1:1≤k) (k2:k≤hs.length) (j1:1≤j) (j2:j≤rs.length) (h3:∀ i,i < rs.length→(rs.getD i []).length=2)
  (q:Q (.bl (!decide ((rs.getD (j-1).toNat []).getD 0 0=hs.getD (k-1).toNat 0))) H):zeH K [.ref a,.ref b,.int k,.int j] H Q E:=⟨rfl,a,b,k,j,hs,rs,rfl,h1,h2,k1,k2,j1,j2,h3,q⟩
def zfl (K:PySem.W.Frag):Sp:=fun vs H Q _=>vs.length=4∧∃ (a b c:Addr) (j:Int) (hs:List Int) (rs:List (List Int)) (xs:List Int),vs=[.ref a,.ref b,.ref c,.int j]∧SqL K H a (hs.map V.int)∧LL K H b rs∧SqL K H c (xs.map V.int)∧InB hs rs∧SetM hs.length xs∧1≤j∧j≤rs.length∧∀ H',Same H H'→Q (.int (zbB hs (rs.getD (j-1).toNat []) xs)) H'
theorem zh4 (T:Txt K mg t):FnOk P w K mg base CX0 2 t.f_6 t.d_6 ["papers","readers","chosen","reader"] (zfl K):=by
 have G_0:=zeI (P:=P) (w:=w) (base:=base) T;refine T.F_6.ok sc_6 (fun _ _ _ _ h=>h.1) fun cdv A outer s H vs Q E hr h=>by
  refine ⟨_,(zac (zaE (i:=4) sc_6.nd rfl (Or.inl rfl) (zaw (zaf (K:=K) rfl) (zaw (zaf (K:=K) rfl) (pv 1) (zay (op_sub) (pv 3) zae) (fun _ _=>rfl)) zae (fun _ _=>rfl)))
   (zac (zbT (i:=5) sc_6.nd rfl (Or.inl rfl) (by rfl) (zah (sc:=zab s_6) (XN:=["papers","readers","chosen","reader","limit","may_be_read"]) (N:=["paper","papers","readers","reader"]) (own:=1) (js:=[0,1,3]) rfl rfl (by decide +kernel)) rfl (zaB (K:=K) rfl (pv 2)) (fun _ _ _ _ _=>(zap (i:=0) (show List.Nodup [(Str.ofString "paper"),(Str.ofString "papers"),(Str.ofString "readers"),(Str.ofString "reader")] by decide +kernel) rfl (Or.inl rfl))) (fun _ _ _ _ _=>(zcH (zaF (K:=K) rfl (zaq G_0 (hr.mono (by decide)) (by rfl) T.m_0 T.F_0.kp T.b_0 .nil zaD (zaa (pv 1) (zaa (pv 2) (zaa (pv 0) (zaa (pv 3) pa_nil))))) (fun _=>rfl)))) (fun _ _ _ _ _=>(pv 0)))
   (zad (zaj (zai (zcW rfl) (by rfl) T.z_min (by rfl) (zaa (pv 4) (zaa (zai (zak (K:=K) rfl) (by rfl) T.z_len (by rfl) (zaa (pv 5) pa_nil)) pa_nil))))))),?_⟩
  obtain ⟨_,a,b,c,j,hs,rs,xs,rfl,ha,L,hc,B,X,j1,j2,q⟩:=h;obtain ⟨ps,hb,hl,hr⟩:=id L;have hj:(j-1).toNat < rs.length:=by omega
  have hr':=hr _ hj;have h2':=B.r2 _ hj;have hx:=X.few (by omega);have B1:=B.lp;have hlim:=B.rl _ hj;symm;refine zaO hc ?_;generalize er:rs.getD (j-1).toNat []=r at *;refine zf2 hc (by rw [List.length_map];omega) (neV hs (r.getD 0 0)) (fun i H' Q' hi s q'=>?_) fun p H2 f s e=>?_
  ·rw [List.length_map] at hi;have ex:(xs.map V.int).getD i .non=.int (xs.getD i 0):=by
    rw [List.getD_eq_getElem?_getD,List.getElem?_map,List.getElem?_eq_getElem hi,List.getD_eq_getElem?_getD,List.getElem?_eq_getElem hi];rfl
   rw [ex] at q' ⊢;have hm:=X.rng (xs.getD i 0) (by rw [List.getD_eq_getElem?_getD,List.getElem?_eq_getElem hi];exact List.getElem_mem hi);symm;refine zfk (s.seq ha) (L.same s) (by omega) (by omega) j1 j2 B.r2 ?_;symm;rw [er];have es:neV hs (r.getD 0 0) (V.int (xs.getD i 0)) = !decide (r.getD 0 0=hs.getD (xs.getD i 0-1).toNat 0):=by
    show (!decide _)=(!decide _)
    congr 1
    exact decide_eq_decide.mpr ⟨Eq.symm,Eq.symm⟩
   rw [es] at q';exact q'
  symm;have et:zbB hs r xs=min (r.getD 1 0) (((xs.map V.int).filter (neV hs (r.getD 0 0))).length:Int):=by
   match r,h2' with
   | [h,l],_=>exact zf4 hs h l xs hlim.1
  have em:(if (((xs.map V.int).filter (neV hs (r.getD 0 0))).length:Int) < r.getD 1 0 then (((xs.map V.int).filter (neV hs (r.getD 0 0))).length:Int) else r.getD 1 0)=zbB hs r xs:=by
   rw [et];split <;> omega
  have em':(if (((xs.map V.int).filter (neV hs (r.getD 0 0))).length:Int) < r.getD (Int.toNat 1) 0 then (((xs.map V.int).filter (neV hs (r.getD 0 0))).length:Int) else r.getD (Int.toNat 1) 0)=zbB hs r xs:=em;rw [em'];exact q _ s
theorem zjK {H:Hp} {a b c:Addr} {j:Int} {hs:List Int} {rs:List (List Int)} {xs:List Int} {Q:VK} {E:XK} (h1:SqL K H a (hs.map V.int)) (h2:LL K H b rs) (h3:SqL K H c (xs.map V.int)) (h4:InB hs rs) (h5:SetM hs.length xs) (j1:1≤j) (j2:j≤rs.length)
  (q:∀ H',Same H H'→Q (.int (zbB hs (rs.getD (j-1).toNat []) xs)) H'):zfl K [.ref a,.ref b,.ref c,.int j] H Q E:=⟨rfl,a,b,c,j,hs,rs,xs,rfl,h1,h2,h3,h4,h5,j1,j2,q⟩
theorem zgj (hs:List Int) (rs:List (List Int)) (xs:List Int):((List.range rs.length).map fun i=>zbB hs (rs.getD i []) xs).sum=zc0 hs rs xs:=by
 have key:∀ n,n≤rs.length→((List.range n).map fun i=>zbB hs (rs.getD i []) xs).sum=zc0 hs (rs.take n) xs:=by
  intro n
  induction n with
  | zero=>intro _;rfl
  | succ n ih =>
    intro hn;rw [List.range_succ,List.map_append,List.sum_append,ih (by omega),zer _ _ _ _ (by omega)];simp
 rw [key _ (Nat.le_refl _),List.take_length]
theorem zh5 {hs r xs:List Int} (h2:r.length=2) (h0:0≤r.getD 1 0):0≤zbB hs r xs∧zbB hs r xs≤r.getD 1 0:=by
 match r,h2 with
 | [h,l],_ =>
   rw [zf4 hs h l xs h0];have h0':0≤l:=h0;show _∧_≤l;omega
def zjL (K:PySem.W.Frag):Sp:=fun vs H Q _=>vs.length=3∧∃ (a b c:Addr) (hs:List Int) (rs:List (List Int)) (xs:List Int),vs=[.ref a,.ref b,.ref c]∧SqL K H a (hs.map V.int)∧LL K H b rs∧SqL K H c (xs.map V.int)∧InB hs rs∧SetM hs.length xs∧∀ H',Same H H'→Q (.int (zc0 hs rs xs)) H'
theorem zl9 (T:Txt K mg t):FnOk P w K mg base CX0 3 t.f_5 t.d_5 ["papers","readers","chosen"] (zjL K):=by
 have G_6:=zh4 (P:=P) (w:=w) (base:=base) T;refine T.F_5.ok sc_5 (fun _ _ _ _ h=>h.1) fun cdv A outer s H vs Q E hr h=>by
  refine ⟨_,(zad (zaj (zai (zi6 (K:=K) rfl rfl) (by rfl) T.z_sum (by rfl) (zaa (zaN (zah (sc:=zab s_5) (XN:=["papers","readers","chosen"]) (N:=["reader","papers","readers","chosen"]) (own:=1) (js:=[0,1,2]) rfl rfl (by decide +kernel)) rfl (zbd (by rfl) T.z_range (zaa zae (zaa (zay (op_addG) (zai (zak (K:=K) rfl) (by rfl) T.z_len (by rfl) (zaa (pv 1) pa_nil)) zae) pa_nil))) (fun _ _ _ _ _=>(zap (i:=0) (show List.Nodup [(Str.ofString "reader"),(Str.ofString "papers"),(Str.ofString "readers"),(Str.ofString "chosen")] by decide +kernel) rfl (Or.inl rfl))) (fun _ _ _ _ _=>zaT) (fun _ _ _ _ _=>(zaq G_6 (hr.mono (by decide)) (by rfl) T.m_6 T.F_6.kp T.b_6 .nil zaD (zaa (pv 1) (zaa (pv 2) (zaa (pv 3) (zaa (pv 0) pa_nil))))))) pa_nil)))),?_⟩;obtain ⟨_,a,b,c,hs,rs,xs,rfl,ha,L,hc,B,X,q⟩:=h;obtain ⟨ps,hb,hl,hr⟩:=id L;have B2:=B.lr;symm;refine zcJ ⟨by omega,by omega,by omega,by omega⟩ ?_;have en:((ps.length:Int)+1-1).toNat=rs.length:=by omega
  rw [en];refine zbH (zbX (zbP.one (zbE _ _ _)) (by omega) (fun _=>true) (fun i=>.int (zbB hs (rs.getD i []) xs)) (fun i H' Q' _ _ q'=>q' _ (Same.refl _)) (fun i H' Q' hi s _ q'=>?_) fun p H2 f s e=>?_)
  ·show (_:TE) (some (.int (1+(i:Int)))::_) _ _;symm;refine zjK (s.seq ha) (L.same s) (s.seq hc) B X (by omega) (by omega) fun H3 s3=>?_;have e:(1+(i:Int)-1).toNat=i:=by omega
   rw [e];exact q' _ s3
  have ef:((List.range rs.length).filter fun _=>true).map (fun i=>V.int (zbB hs (rs.getD i []) xs))=((List.range rs.length).map fun i=>zbB hs (rs.getD i []) xs).map V.int:=by
   rw [List.filter_eq_self.mpr (fun _ _=>rfl),List.map_map];rfl
  rw [ef] at e;refine zkk (SqL.of e) (fun x hx=>?_) (by rw [List.length_map,List.length_range];omega) ?_
  ·obtain ⟨i,hi,rfl⟩:=List.mem_map.mp hx;have hi':=List.mem_range.mp hi;have:=zh5 (hs:=hs) (xs:=xs) (B.r2 i hi') (B.rl i hi').1;have:=B.rl i hi';omega
  rw [zgj];exact q _ s
theorem znH {H:Hp} {a b c:Addr} {hs:List Int} {rs:List (List Int)} {xs:List Int} {Q:VK} {E:XK} (h1:SqL K H a (hs.map V.int)) (h2:LL K H b rs) (h3:SqL K H c (xs.map V.int)) (h4:InB hs rs) (h5:SetM hs.length xs)
  (q:∀ H',Same H H'→Q (.int (zc0 hs rs xs)) H'):zjL K [.ref a,.ref b,.ref c] H Q E:=⟨rfl,a,b,c,hs,rs,xs,rfl,h1,h2,h3,h4,h5,q⟩
def zds (K:PySem.W.Frag):Sp:=fun vs H Q _=>vs.length=3∧∃ (a b c:Addr) (hs:List Int) (rs:List (List Int)) (xs:List Int),vs=[.ref a,.ref b,.ref c]∧SqL K H a (hs.map V.int)∧LL K H b rs∧SqL K H c (xs.map V.int)∧InB hs rs∧SetM hs.length xs∧∀ H',Same H H'→Q (.bl (agB hs rs xs)) H'
theorem zfJ (T:Txt K mg t):FnOk P w K mg base CX0 4 t.f_7 t.d_7 ["papers","readers","chosen"] (zds K):=by
 have G_5:=zl9 (P:=P) (w:=w) (base:=base) T;refine T.F_7.ok sc_7 (fun _ _ _ _ h=>h.1) fun cdv A outer s H vs Q E hr h=>by
  refine ⟨_,(zad (zaj (zdG (op_lt) (zaq G_5 (hr.mono (by decide)) (by rfl) T.m_5 T.F_5.kp T.b_5 .nil zaD (zaa (pv 0) (zaa (pv 1) (zaa (pv 2) pa_nil)))) (zay (op_mulB) zae (zai (zak (K:=K) rfl) (by rfl) T.z_len (by rfl) (zaa (pv 2) pa_nil))) (zaC _)))),?_⟩;obtain ⟨_,a,b,c,hs,rs,xs,rfl,ha,L,hc,B,X,q⟩:=h;have B1:=B.lp;have hx:=X.few (by omega);symm;refine znH ha L hc B X fun H1 s1=>?_;have hc1:=s1.seq hc;symm;exact q _ s1
theorem zgk {H:Hp} {a b c:Addr} {hs:List Int} {rs:List (List Int)} {xs:List Int} {Q:VK} {E:XK} (h1:SqL K H a (hs.map V.int)) (h2:LL K H b rs) (h3:SqL K H c (xs.map V.int)) (h4:InB hs rs) (h5:SetM hs.length xs)
  (q:∀ H',Same H H'→Q (.bl (agB hs rs xs)) H'):zds K [.ref a,.ref b,.ref c] H Q E:=⟨rfl,a,b,c,hs,rs,xs,rfl,h1,h2,h3,h4,h5,q⟩
theorem znI {x:Int}:∀ (ns:List Int) (o:Option Int),(∀ y∈ns,y < x)→(∀ y,o=some y→y < x)→∀ y,mxOf o ns=some y→y < x
 | [],o,_,ho,y,h=>ho y h
 | n::ns,o,hn,ho,y,h=>by
   have h':mxOf (zdT o n) ns=some y:=h;refine znI ns (zdT o n) (fun z hz=>hn z (List.mem_cons_of_mem _ hz)) (fun z hz=>?_) y h';have h0:=hn n List.mem_cons_self
   cases o with
   | none=>unfold zdT at hz;simp at hz;omega
   | some w =>
     have:=ho w rfl;unfold zdT at hz;simp only at hz;split at hz <;> · have:=Option.some.inj hz;omega
theorem zkN {x:Int} {ns:List Int} (h:∀ y∈ns,y < x) (h0:0 < x):zbN ns < x:=by
 unfold zbN
 cases e:mxOf none ns with
 | none=>exact h0
 | some y=>exact znI ns none h (fun y z=>by cases z) y e
def levB (m:Int):Nat→List (List Int)
 | 0=>[[]]
 | k+1=>za1 m (levB m k)
theorem zjM {m:Int}:∀ (k:Nat) {xs:List Int},xs.length=k→xs.Pairwise (· < ·)→(∀ x∈xs,1≤x∧x≤m)→xs∈levB m k
 | 0,xs,h,_,_=>by
   have:xs=[]:=List.eq_nil_of_length_eq_zero h;subst this;exact List.mem_singleton.mpr rfl
 | k+1,xs,h,hp,hb=>by
   have hne:xs≠[]:=by rintro rfl;simp at h
   have ex:=(List.dropLast_concat_getLast hne).symm;generalize xs.dropLast=ys at ex;generalize xs.getLast hne=x at ex;subst ex;obtain ⟨p1,_,p3⟩:=List.pairwise_append.mp hp;have hx:=hb x (by simp);have hy:ys∈levB m k:=zjM k (by simpa using h) p1 fun y hy=>hb y (List.mem_append_left _ hy);show ys++[x]∈za1 m (levB m k);unfold za1;refine List.mem_flatMap.mpr ⟨ys,hy,?_⟩;unfold extB;have hg:=zkN (ns:=ys) (x:=x) (fun y hy=>p3 y hy x (by simp)) (by omega);refine List.mem_map.mpr ⟨(x-(zbN ys+1)).toNat,List.mem_range.mpr (by omega),?_⟩;have:zbN ys+1+((x-(zbN ys+1)).toNat:Int)=x:=by omega
   rw [this]
theorem zeJ {m:Int}:∀ (n k j:Nat) {xs:List Int},xs∈levB m (j+k)→k < n→xs∈allFrom m n (levB m j)
 | 0,k,j,xs,_,hk=>by omega
 | n+1,0,j,xs,h,_=>List.mem_append_left _ h
 | n+1,k+1,j,xs,h,hk=>by
   refine List.mem_append_right _ ?_;have:za1 m (levB m j)=levB m (j+1):=rfl;rw [this];refine zeJ n k (j+1) ?_ (by omega);have e:j+1+k=j+(k+1):=by omega
   rw [e];exact h
theorem zgl {m:Int} {xs:List Int} (m0:0≤m) (m1:m≤10) (h:SetM m xs):xs∈zch m:=by
 have hl:=h.few m0;have:=zjM (m:=m) xs.length rfl h.up h.rng;refine zeJ (m:=m) 11 xs.length 0 ?_ (by omega);rw [Nat.zero_add];exact this
theorem ahead_pw:∀ {L:List (List Int)},aheadAll L=true→L.Pairwise fun a b=>zcZ a b=true
 | [],_=>List.Pairwise.nil
 | [a],_=>by simp
 | a::b::r,h=>by
   unfold aheadAll at h;simp only [Bool.and_eq_true] at h;have ih:=ahead_pw h.2;refine List.pairwise_cons.mpr ⟨fun c hc=>?_,ih⟩;rcases List.mem_cons.mp hc with rfl | hc
   ·exact h.1
   ·exact zdU h.1 ((List.pairwise_cons.mp ih).1 c hc)
theorem zkO {hs:List Int} {rs:List (List Int)} {i:Nat} (hl:hs.length≤10) (hM:∀ xs∈zch hs.length,SetM hs.length xs) (hA:aheadAll (zch hs.length)=true) (hi:i < (zch hs.length).length)
  (h1:agB hs rs ((zch hs.length).getD i [])=true) (h0:∀ j,j < i→agB hs rs ((zch hs.length).getD j [])=false):zbg hs rs (some ((zch hs.length).getD i [])):=by
 refine ⟨hM _ (getD_mem hi),h1,fun ys hy hag=>?_⟩;obtain ⟨j,hj,rfl⟩:=mem_getD (d:=[]) (zgl (by omega) (by omega) hy)
 by_cases hlt:j < i
 ·rw [h0 j hlt] at hag;cases hag
 ·by_cases e:j=i
  ·subst e;exact zet _
  ·have hp:=ahead_pw hA;rw [Bool.eq_false_iff];intro z;have h2:zcZ ((zch hs.length).getD i []) ((zch hs.length).getD j [])=true:=by
    rw [List.getD_eq_getElem?_getD,List.getElem?_eq_getElem hi,List.getD_eq_getElem?_getD,List.getElem?_eq_getElem hj];exact List.pairwise_iff_getElem.mp hp i j hi hj (by omega)
   have:=zdU h2 z;rw [zet] at this
   cases this
theorem none_of {hs:List Int} {rs:List (List Int)} (hl:hs.length≤10) (h0:∀ j,j < (zch hs.length).length→agB hs rs ((zch hs.length).getD j [])=false):zbg hs rs none:=by
 intro ys hy;obtain ⟨j,hj,rfl⟩:=mem_getD (d:=[]) (zgl (by omega) (by omega) hy);exact h0 j hj
def zcy (K:PySem.W.Frag):Sp:=fun vs H Q _=>vs.length=2∧∃ (a b:Addr) (hs:List Int) (rs:List (List Int)),vs=[.ref a,.ref b]∧SqL K H a (hs.map V.int)∧LL K H b rs∧InB hs rs∧(zbg hs rs none→∀ H',Same H H'→Q .non H')∧∀ xs,zbg hs rs (some xs)→∀ p H',H p=none→Same H H'→H' p=some (.lst (xs.map V.int))→Q (.ref p) H'
theorem zd4 (T:Txt K mg t):FnOk P w K mg base CX0 5 t.f_8 t.d_8 ["papers","readers"] (zcy K):=by
 have G_2:=zh3 (P:=P) (w:=w) (base:=base) T;have G_7:=zfJ (P:=P) (w:=w) (base:=base) T;refine T.F_8.ok sc_8 (fun _ _ _ _ h=>h.1) fun cdv A outer s H vs Q E hr h=>by
  refine ⟨_,(zac (za7 PassesOwn.never rfl (zaB (K:=K) rfl (zaq G_2 (hr.mono (by decide)) (by rfl) T.m_2 T.F_2.kp T.b_2 .nil zaD (zaa (zai (zak (K:=K) rfl) (by rfl) T.z_len (by rfl) (zaa (pv 0) pa_nil)) pa_nil))) (zap (i:=2) sc_8.nd rfl (Or.inl rfl))
   (zad (zaX (zaF (K:=K) rfl (zaq G_7 (hr.mono (by decide)) (by rfl) T.m_7 T.F_7.kp T.b_7 .nil zaD (zaa (pv 0) (zaa (pv 1) (zaa (pv 2) pa_nil)))) (fun _=>rfl))
   (zad (zaj (pv 2))) pss_nil)))
   (zad (zaj zb5))),?_⟩
  obtain ⟨_,a,b,hs,rs,rfl,ha,L,B,q0,q1⟩:=h;have B1:=B.lp;symm;refine zjJ (by omega) (by omega) fun p H1 T1=>?_;obtain ⟨_,_,c3,hA⟩:=zk9 (m:=(hs.length:Int)) (by omega) (by omega);have hM:∀ xs∈zch hs.length,SetM hs.length xs:=fun xs hx=>⟨(zdK (c3 xs hx)).1,fun x h=>by have:=(zdK (c3 xs hx)).2 x h;omega⟩
  obtain ⟨s1,f1,ps,e1,hl1,hr1⟩:=id T1;generalize eS:zch (hs.length:Int)=S at *;symm;refine zaO (SqL.of e1) ?_;refine zdb (xs:=ps.map V.ref) (fun i σ H'=>Same H1 H'∧(∃ v,σ=[some (.ref a),some (.ref b),v])∧∀ j,j < i→agB hs rs (S.getD j [])=false) ⟨Same.refl _,⟨none,rfl⟩,fun j hj=>absurd hj (by omega)⟩ ?_ ?_ ?_
  ·rintro i σ H' _ ⟨s,_,_⟩;exact SqL.of (s _ _ e1)
  ·rintro i x σ H' hx ⟨s,⟨v,rfl⟩,h0⟩;obtain ⟨hi,rfl⟩:=ziT hx;obtain ⟨g1,g2,g3⟩:=hr1 i (by omega);have sH:=s1.trans s;have hm:SetM hs.length (S.getD i []):=hM _ (getD_mem (by omega));symm;refine zgk (sH.seq ha) (L.same sH) (SqL.of (s _ _ g1)) B hm fun H3 s3=>?_;symm
   cases eg:agB hs rs (S.getD i []) with
   | true =>
     refine iteT ?_;symm;refine q1 (S.getD i []) ?_ _ _ g2 (sH.trans s3) (s3 _ _ (s _ _ g1));subst eS;exact zkO B1 hM hA (by omega) eg h0
   | false =>
     refine iteF ?_;symm;refine ⟨s.trans s3,⟨_,rfl⟩,fun j hj=>?_⟩
     by_cases e:j=i
     ·subst e;exact eg
     ·exact h0 j (by omega)
  ·rintro σ H' ⟨s,⟨v,rfl⟩,h0⟩;symm;refine q0 ?_ _ (s1.trans s);subst eS;exact none_of B1 fun j hj=>h0 j (by rw [List.length_map];omega)
theorem zeK {H:Hp} {a b:Addr} {hs:List Int} {rs:List (List Int)} {Q:VK} {E:XK} (h1:SqL K H a (hs.map V.int)) (h2:LL K H b rs) (h4:InB hs rs) (q0:zbg hs rs none→∀ H',Same H H'→Q .non H') (q1:∀ xs,zbg hs rs (some xs)→∀ p H',H p=none→Same H H'→H' p=some (.lst (xs.map V.int))→Q (.ref p) H'):zcy K [.ref a,.ref b] H Q E:=⟨rfl,a,b,hs,rs,rfl,h1,h2,h4,q0,q1⟩
def zb0 (K:PySem.W.Frag) (C:Addr):Sp:=fun vs H Q _=>vs.length=1∧∃ (x:Addr) (F:Addr→Prop) (st:ExS),vs=[.ref x]∧ExAt C H x F st∧InB st.hs st.rs∧((st.dl≠none∨zbg st.hs st.rs none→∀ H',Same H H'→Q .non H')∧∀ xs,st.dl=none→zbg st.hs st.rs (some xs)→∀ p H',H p=none→Same H H'→H' p=some (.lst (xs.map V.int))→Q (.ref p) H')
theorem zeL (T:Txt K mg t):FnOk P w K mg base CX0 6 t.f_41 t.d_41 ["self"] (zb0 K t.C_Exam):=by
 have G_8:=zd4 (P:=P) (w:=w) (base:=base) T;refine T.F_41.ok sc_41 (fun _ _ _ _ h=>h.1) fun cdv A outer s H vs Q E hr h=>by
  refine ⟨_,(zac (zaX (zaF (K:=K) rfl (zaG (K:=K) rfl (pv 0)) (fun _=>rfl))
   (zad (zaj zb5)) pss_nil)
   (zad (zaj (zaq G_8 (hr.mono (by decide)) (by rfl) T.m_8 T.F_8.kp T.b_8 .nil zaD (zaa (zaG (K:=K) rfl (pv 0)) (zaa (zaG (K:=K) rfl (pv 0)) pa_nil)))))),?_⟩
  obtain ⟨_,x,F,st,rfl,E0,BB,q⟩:=h;have B1:=BB.lp;have B2:=BB.lr;walk_at "hd";obtain ⟨q0,q1⟩:=q;have L:LL K H e.b st.rs:=⟨e.ps,SqL.of hhb,I.lp,I.rp⟩
  symm
  cases hdl:st.dl with
  | some d =>
    refine iteT ?_;symm;exact q0 (.inl (by rw [hdl];simp)) H (Same.refl H)
  | none =>
    refine iteF ?_;rw [hdl] at hob;have fA:=@exFs_a (.ref e.a) (.ref e.b) (.int st.step) (.bl (none:Option (List (List Int)×List (List Int))).isSome) (.ref e.c) (.ref e.d);have fB:=@exFs_b (.ref e.a) (.ref e.b) (.int st.step) (.bl (none:Option (List (List Int)×List (List Int))).isSome) (.ref e.c) (.ref e.d);symm;refine zeK (SqL.of hha) L BB (fun F H8 s8=>?_) (fun xs F pf H8 ff s8 ef=>?_)
    ·exact q0 (.inr F) H8 s8
    ·exact q1 xs hdl F pf H8 ff s8 ef
theorem ze5 {K:PySem.W.Frag} {C x:Addr} {H:Hp} {F:Addr→Prop} {st:ExS} {Q:VK} {E:XK} (h:ExAt C H x F st) (B:InB st.hs st.rs) (q:((st.dl≠none∨zbg st.hs st.rs none→∀ H',Same H H'→Q .non H')∧∀ xs,st.dl=none→zbg st.hs st.rs (some xs)→∀ p H',H p=none→Same H H'→H' p=some (.lst (xs.map V.int))→Q (.ref p) H')):zb0 K C [.ref x] H Q E:=⟨rfl,x,F,st,rfl,h,B,q⟩
theorem ze6 {K:PySem.W.Frag} {C x:Addr} {H:Hp} {F:Addr→Prop} {st:ExS} {Q:VK} {E:XK} {σ:L2.St} (h:ExAt C H x F st) (B:InB st.hs st.rs) (q:((st.dl≠none∨zbg st.hs st.rs none→∀ H',Same H H'→Q .non H')∧∀ xs,st.dl=none→zbg st.hs st.rs (some xs)→∀ p H',H p=none→Same H H'→H' p=some (.lst (xs.map V.int))→Q (.ref p) H')):zbI C "against" (zb0 K C) E tNil σ (.ref x) H Q:=by
 obtain ⟨dx,fs,e,l⟩:=h.ob;exact za0 e (l _ (by decide +kernel)) (zfu (ze5 h B q))
def zbp (K:PySem.W.Frag) (C:Addr):Sp:=fun vs H Q _=>vs.length=2∧∃ (x:Addr) (F:Addr→Prop) (st:ExS) (k:Int),vs=[.ref x,.int k]∧ExAt C H x F st∧InB st.hs st.rs∧1≤k∧k≤st.nm.length∧(∀ p H',H p=none→Same H H'→H' p=some (.lst ((zbu st.nm st.en (k-1).toNat).map V.int))→Q (.ref p) H')
theorem zb1 (T:Txt K mg t):FnOk P w K mg base CX0 1 t.f_48 t.d_48 ["self","paper"] (zbp K t.C_Exam):=by
 refine T.F_48.ok sc_48 (fun _ _ _ _ h=>h.1) fun cdv A outer s H vs Q E hr h=>by
  refine ⟨_,(zac (zaE (i:=2) sc_48.nd rfl (Or.inr rfl) (zaw (zaf (K:=K) rfl) (zaG (K:=K) rfl (pv 0)) (zay (op_sub) (pv 1) zae) (fun _ _=>rfl)))
   (zad (zaj (zaN (zah (sc:=zab s_48) (XN:=["self","paper","entered"]) (N:=["reader","entered"]) (own:=1) (js:=[2]) rfl rfl (by decide +kernel)) rfl (zaB (K:=K) rfl (zaw (zaf (K:=K) rfl) (zaG (K:=K) rfl (pv 0)) (zay (op_sub) (pv 1) zae) (fun _ _=>rfl))) (fun _ _ _ _ _=>(zap (i:=0) (show List.Nodup [(Str.ofString "reader"),(Str.ofString "entered")] by decide +kernel) rfl (Or.inl rfl))) (fun _ _ _ _ _=>(zcH (zkS (ziL (zeX hr) (pv 0) (pv 1))))) (fun _ _ _ _ _=>(pv 0)))))),?_⟩
  obtain ⟨_,x,F,st,k,rfl,E0,BB,k1,k2,q⟩:=h;have B1:=BB.lp;have B2:=BB.lr;have E0':=E0;walk_at "hd";have lq:=I.lq;have ld:=I.ld;have l10:=I.wf.n10 BB;have hk:(k-1).toNat < st.nm.length:=by omega
  have hdic:=I.rd _ hk;have hrow:=I.rq _ hk;have hvk:=I.vk _ hk;have hlr:=(I.wf.row _ hk).len;symm;refine zaO (SqL.of hrow) ?_;refine zf2 (SqL.of hrow) (by rw [List.length_map];omega) (fun v=>match v with | .int r=>(zdn st.en (k-1).toNat r).isNone | _=>false) (fun i H' Q' hi s q'=>?_) fun p H2 f s e2=>?_
  ·rw [List.length_map] at hi;have ex:((st.nm.getD (k-1).toNat []).map V.int).getD i .non=.int ((st.nm.getD (k-1).toNat []).getD i 0):=zck hi;rw [ex] at q' ⊢;symm;refine zjh (s _ _ hdic) ?_;rw [hvk];have eb:(!((zdn st.en (k-1).toNat ((st.nm.getD (k-1).toNat []).getD i 0)).map V.int).isSome)=(zdn st.en (k-1).toNat ((st.nm.getD (k-1).toNat []).getD i 0)).isNone:=by
    cases zdn st.en (k-1).toNat ((st.nm.getD (k-1).toNat []).getD i 0) <;> rfl
   symm;rw [eb];exact q'
  ·have ew:((st.nm.getD (k-1).toNat []).map V.int).filter (fun v=>match v with | .int r=>(zdn st.en (k-1).toNat r).isNone | _=>false)=(zbu st.nm st.en (k-1).toNat).map V.int:=by
    unfold zbu;rw [List.filter_map];rfl
   rw [ew] at e2;exact q p H2 f s e2
theorem zdt {K:PySem.W.Frag} {C x:Addr} {H:Hp} {F:Addr→Prop} {st:ExS} {k:Int} {Q:VK} {E:XK} (h:ExAt C H x F st) (B:InB st.hs st.rs) (k1:1≤k) (k2:k≤st.nm.length) (q:(∀ p H',H p=none→Same H H'→H' p=some (.lst ((zbu st.nm st.en (k-1).toNat).map V.int))→Q (.ref p) H')):zbp K C [.ref x,.int k] H Q E:=⟨rfl,x,F,st,k,rfl,h,B,k1,k2,q⟩
theorem zcb {K:PySem.W.Frag} {C x:Addr} {H:Hp} {F:Addr→Prop} {st:ExS} {k:Int} {Q:VK} {E:XK} {σ:L2.St} {tk:TE} (h:ExAt C H x F st) (B:InB st.hs st.rs) (k1:1≤k) (k2:k≤st.nm.length) (hk:∀ Q:VK,Q (.int k) H→tk σ H Q) (q:(∀ p H',H p=none→Same H H'→H' p=some (.lst ((zbu st.nm st.en (k-1).toNat).map V.int))→Q (.ref p) H')):zbI C "due_readers" (zbp K C) E (zgA tk tNil) σ (.ref x) H Q:=by
 obtain ⟨dx,fs,e,l⟩:=h.ob;exact za0 e (l _ (by decide +kernel)) (ziM (hk _ (zfu (zdt h B k1 k2  q))))
def zdd (K:PySem.W.Frag) (C:Addr):Sp:=fun vs H Q _=>vs.length=1∧∃ (x:Addr) (F:Addr→Prop) (st:ExS),vs=[.ref x]∧ExAt C H x F st∧InB st.hs st.rs∧(∀ p H',RowsAt H p (dueS st) H'→Q (.ref p) H')
theorem zgS (T:Txt K mg t):FnOk P w K mg base CX0 2 t.f_42 t.d_42 ["self"] (zdd K t.C_Exam):=by
 have G_48:=zb1 (P:=P) (w:=w) (base:=base) T;refine T.F_42.ok sc_42 (fun _ _ _ _ h=>h.1) fun cdv A outer s H vs Q E hr h=>by
  refine ⟨_,(zac (zaE (i:=1) sc_42.nd rfl (Or.inl rfl) (zaL pa_nil))
   (zac (za7 PassesOwn.never rfl (zbd (by rfl) T.z_range (zaa zae (zaa (zay (op_addG) (zai (zak (K:=K) rfl) (by rfl) T.z_len (by rfl) (zaa (zaG (K:=K) rfl (pv 0)) pa_nil)) zae) pa_nil))) (zap (i:=2) sc_42.nd rfl (Or.inr rfl))
   (zad (zaV (zbr (K:=K) rfl PySem.F.plainAttrs_list PySem.F.slot_list_extend PySem.F.type_list_extend mt_extend (pv 1) (zaa (zaN (zah (sc:=zab s_42) (XN:=["self","rows","paper"]) (N:=["reader","paper"]) (own:=1) (js:=[2]) rfl rfl (by decide +kernel)) rfl (zaB (K:=K) rfl (zbV (pv 0) T.cl_Exam T.me_48 G_48 (hr.mono (by decide)) T.b_48 .nil zaD (zaa (pv 2) pa_nil))) (fun _ _ _ _ _=>(zap (i:=0) (show List.Nodup [(Str.ofString "reader"),(Str.ofString "paper")] by decide +kernel) rfl (Or.inl rfl))) (fun _ _ _ _ _=>zaT) (fun _ _ _ _ _=>(zaL (zaa (pv 1) (zaa (pv 0) pa_nil))))) pa_nil)))))
   (zad (zaj (pv 1))))),?_⟩
  obtain ⟨_,x,F,st,rfl,E0,BB,q⟩:=h;have B1:=BB.lp;have B2:=BB.lr;have E0':=E0;walk_at "hd";have lq:=I.lq;have l10:=I.wf.n10 BB;symm;refine zau (by decide) fun p1 H1 f1 s1 e1=>?_;have hob1:=s1 _ _ hob;have hhc1:=s1 _ _ hhc;symm;refine zcJ ⟨by omega,by omega,by omega,by omega⟩ ?_;have en:((e.qs.length:Int)+1-1).toNat=st.nm.length:=by omega
  rw [en];refine zbM (fun i σ H'=>(∃ v,σ=[some (.ref e.x),some (.ref p1),v])∧RowsAt H p1 ((List.range i).flatMap fun k=>(zbu st.nm st.en k).map fun r=>[(k:Int)+1,r]) H'∧((List.range i).flatMap fun k=>(zbu st.nm st.en k).map fun r=>[(k:Int)+1,r]).length≤3 * i) ⟨⟨none,rfl⟩,RowsAt.start f1 s1 e1,by simp⟩ ?_ ?_
  ·rintro i σ H' hi ⟨⟨v,rfl⟩,R,hlen⟩;have E':=E0'.same R.same;have ek:(1+(i:Int)-1).toNat=i:=by omega
   have hw:=zjl st.nm st.en i;have hlr:=(I.wf.row i hi).len;obtain ⟨zs',z',_⟩:=R.lst;symm;refine zcb E' BB (k:=1+(i:Int)) (by omega) (by omega) (fun Q z=>zhL (i:=2) rfl z) fun p2 H2 f2 s2 e2=>?_;rw [ek] at e2;refine zaO (SqL.of e2) ?_;refine zbH (zcN (zbP.one (zaU (SqL.of e2))) (by rw [List.length_map];omega) (fun j=>[(i:Int)+1,(zbu st.nm st.en i).getD j 0]) (fun j H3 Q' hj s3 q'=>?_) fun p3 H3 R3=>?_)
   ·rw [List.length_map] at hj;have ex:((zbu st.nm st.en i).map V.int).getD j .non=.int ((zbu st.nm st.en i).getD j 0):=zck hj;rw [ex];show (_:TE) (some (.int _)::some (.int (1+(i:Int)))::_) _ _;symm;rw [Int.add_comm 1 (i:Int)];refine zau (by simp) fun p4 H4 f4 s4 e4=>?_;exact q' p4 H4 f4 s4 e4
   ·have er:(List.range ((zbu st.nm st.en i).map V.int).length).map (fun j=>[(i:Int)+1,(zbu st.nm st.en i).getD j 0])=(zbu st.nm st.en i).map fun r=>[(i:Int)+1,r]:=by
     rw [List.length_map]
     conv=>rhs;rw [← zbi (zbu st.nm st.en i) 0]
     rw [List.map_map];rfl
    rw [er] at R3;have R':RowsAt H p1 _ H2:=⟨R.same.trans s2,R.new,by obtain ⟨ps,a1,a2,a3,a4⟩:=R.rows;exact ⟨ps,s2 _ _ a1,a2,a3,fun j hj=>⟨s2 _ _ (a4 j hj).1,(a4 j hj).2⟩⟩⟩
    obtain ⟨zs,zs2,z1,z2,z3,z4,zz⟩:=R'.ext (H3:=H3) R3;rw [List.length_map] at z4;obtain ⟨zs,zs2,z1,z2,z3,z4,_⟩:=R'.ext (H3:=H3) R3;rw [List.length_map] at z4;symm;refine zkw z1 z2 (by omega) fun H4 b4 e4=>?_;obtain ⟨ys,ys2,y1,y2,y3,y4,yy⟩:=R'.ext (H3:=H4) R3;have eq1:ys=zs:=by rw [y1] at z1;exact HO.lst.inj (Option.some.inj z1)
    have eq2:ys2=zs2:=by rw [y2] at z2;exact HO.lst.inj (Option.some.inj z2)
    rw [eq1,eq2] at yy;symm;refine ⟨⟨_,rfl⟩,?_,?_⟩
    ·rw [zcP _ _ _ hi];exact yy b4 e4
    ·rw [zcP _ _ _ hi,List.length_append,List.length_map];omega
  ·rintro σ H' ⟨⟨v,rfl⟩,R,_⟩;symm;exact q p1 H' R
theorem zh6 {K:PySem.W.Frag} {C x:Addr} {H:Hp} {F:Addr→Prop} {st:ExS} {Q:VK} {E:XK} (h:ExAt C H x F st) (B:InB st.hs st.rs) (q:(∀ p H',RowsAt H p (dueS st) H'→Q (.ref p) H')):zdd K C [.ref x] H Q E:=⟨rfl,x,F,st,rfl,h,B,q⟩
theorem zh7 {K:PySem.W.Frag} {C x:Addr} {H:Hp} {F:Addr→Prop} {st:ExS} {Q:VK} {E:XK} {σ:L2.St} (h:ExAt C H x F st) (B:InB st.hs st.rs) (q:(∀ p H',RowsAt H p (dueS st) H'→Q (.ref p) H')):zbI C "due" (zdd K C) E tNil σ (.ref x) H Q:=by
 obtain ⟨dx,fs,e,l⟩:=h.ob;exact za0 e (l _ (by decide +kernel)) (zfu (zh6 h B q))
def zeM (K:PySem.W.Frag):Sp:=fun vs H Q _=>vs.length=2∧∃ k x:Int,vs=[.int k,.int x]∧k.natAbs < 10 ^ 40∧x.natAbs < 10 ^ 40∧Q (.str (dueT k x)) H
theorem zgT (T:Txt K mg t):FnOk P w K mg base CX0 1 t.f_62 t.d_62 ["paper","reader"] (zeM K):=by
 refine T.F_62.ok sc_62 (fun _ _ _ _ h=>h.1) fun cdv A outer s H vs Q E hr h=>by
  refine ⟨_,(zad (zaj (zcg (zbk (pv 0) (zbR (zbk (pv 1) pj_nil)))))),?_⟩;obtain ⟨_,k,x,rfl,n1,n2,q⟩:=h;have l1:(Str.ofString (toString k)).length≤41:=za3 n1;have l2:(Str.ofString (toString x)).length≤41:=za3 n2;symm;exact q
theorem zh8 {H:Hp} {k x:Int} {Q:VK} {E:XK} (n1:k.natAbs < 10 ^ 40) (n2:x.natAbs < 10 ^ 40) (q:Q (.str (dueT k x)) H):zeM K [.int k,.int x] H Q E:=⟨rfl,k,x,rfl,n1,n2,q⟩
def zdu (K:PySem.W.Frag) (C:Addr):Sp:=fun vs H Q _=>vs.length=2∧False
theorem zdv (T:Txt K mg t):FnOk P w K mg base CX0 1 t.f_49 t.d_49 ["self","paper"] (zdu K t.C_Exam):=by
 exact T.F_49.ok sc_49 (fun _ _ _ _ h=>h.1) fun _ _ _ _ _ _ _ _ _ h=>h.2.elim
def zh9 (K:PySem.W.Frag):Sp:=fun vs H Q _=>vs.length=2∧False
theorem zia (T:Txt K mg t):FnOk P w K mg base CX0 1 t.f_24 t.d_24 ["points","step"] (zh9 K):=by
 exact T.F_24.ok sc_24 (fun _ _ _ _ h=>h.1) fun _ _ _ _ _ _ _ _ _ h=>h.2.elim
def zcz (K:PySem.W.Frag) (C:Addr):Sp:=fun vs H Q _=>vs.length=2∧∃ (x:Addr) (F:Addr→Prop) (st:ExS) (k:Int),vs=[.ref x,.int k]∧ExAt C H x F st∧InB st.hs st.rs∧1≤k∧k≤st.nm.length∧zbu st.nm st.en (k-1).toNat≠[]∧(∀ H',Same H H'→Q .non H')
theorem zd5 (T:Txt K mg t):FnOk P w K mg base CX0 2 t.f_50 t.d_50 ["self","paper"] (zcz K t.C_Exam):=by
 have G_48:=zb1 (P:=P) (w:=w) (base:=base) T;have G_49:=zdv (P:=P) (w:=w) (base:=base) T;have G_24:=zia (P:=P) (w:=w) (base:=base) T;refine T.F_50.ok sc_50 (fun _ _ _ _ h=>h.1) fun cdv A outer s H vs Q E hr h=>by
  refine ⟨_,(zac (zaX (zat (op_gt) (zai (zak (K:=K) rfl) (by rfl) T.z_len (by rfl) (zaa (zbV (pv 0) T.cl_Exam T.me_48 G_48 (hr.mono (by decide)) T.b_48 .nil zaD (zaa (pv 1) pa_nil)) pa_nil)) zae (zaC _))
   (zad (zaj zb5)) pss_nil)
   (zac (zaE (i:=2) sc_50.nd rfl (Or.inl rfl) (zbV (pv 0) T.cl_Exam T.me_49 G_49 (hr.mono (by decide)) T.b_49 .nil zaD (zaa (pv 1) pa_nil)))
   (zac (zbT (i:=3) sc_50.nd rfl (Or.inl rfl) (by rfl) (zah (sc:=zab s_50) (XN:=["self","paper","points","readings"]) (N:=["reader","given"]) (own:=2) (js:=[]) rfl rfl (by decide +kernel)) rfl (ziR (K:=K) rfl (by rfl) T.z_zip (zaa (zaw (zaf (K:=K) rfl) (zaG (K:=K) rfl (pv 0)) (zay (op_sub) (pv 1) zae) (fun _ _=>rfl)) (zaa (pv 2) pa_nil))) (fun _ _ _ _ _=>(zdI (K:=K) (n:=2) rfl rfl (zbm (zap (i:=0) (show List.Nodup [(Str.ofString "reader"),(Str.ofString "given")] by decide +kernel) rfl (Or.inl rfl)) (zbm (zap (i:=1) (show List.Nodup [(Str.ofString "reader"),(Str.ofString "given")] by decide +kernel) rfl (Or.inl rfl)) pgs_nil)))) (fun _ _ _ _ _=>zaT) (fun _ _ _ _ _=>(zaL (zaa (pv 0) (zaa (pv 1) pa_nil)))))
   (zad (zaj (zay (op_addG) (zaq G_24 (hr.mono (by decide)) (by rfl) T.m_24 T.F_24.kp T.b_24 .nil zaD (zaa (pv 2) (zaa (zaG (K:=K) rfl (pv 0)) pa_nil))) (zaL (zaa (pv 3) pa_nil)))))))),?_⟩
  obtain ⟨_,x,F,st,k,rfl,E0,BB,k1,k2,hw,q⟩:=h;have hwl:=List.length_pos_iff.mpr hw;symm;refine zcb E0 BB k1 k2 (fun Q z=>zhL (i:=1) rfl z) fun p1 H1 f1 s1 e1=>?_;symm;refine zbL (fun h0=>?_) (fun h0=>absurd (by omega) h0);symm;exact q _ s1
theorem zeN {K:PySem.W.Frag} {C x:Addr} {H:Hp} {F:Addr→Prop} {st:ExS} {k:Int} {Q:VK} {E:XK} {σ:L2.St} {tk:TE} (h:ExAt C H x F st) (B:InB st.hs st.rs) (k1:1≤k) (k2:k≤st.nm.length) (hw:zbu st.nm st.en (k-1).toNat≠[]) (hk:∀ Q:VK,Q (.int k) H→tk σ H Q) (q:(∀ H',Same H H'→Q .non H')):zbI C "mark_for" (zcz K C) E (zgA tk tNil) σ (.ref x) H Q:=by
 obtain ⟨dx,fs,e,l⟩:=h.ob;exact za0 e (l _ (by decide +kernel)) (ziM (hk _ (zfu ⟨rfl,x,F,st,k,rfl,h,B,k1,k2,hw,q⟩)))
def zdw (K:PySem.W.Frag) (C:Addr):Sp:=fun vs H Q _=>vs.length=1∧∃ (x:Addr) (F:Addr→Prop) (st:ExS),vs=[.ref x]∧ExAt C H x F st∧D32 st∧(∀ p H',H p=none→Same H H'→H' p=some (.lst ((List.range st.hs.length).map fun _=>V.non))→Q (.ref p) H')
theorem zfK (T:Txt K mg t):FnOk P w K mg base CX0 3 t.f_43 t.d_43 ["self"] (zdw K t.C_Exam):=by
 have G_50:=zd5 (P:=P) (w:=w) (base:=base) T;refine T.F_43.ok sc_43 (fun _ _ _ _ h=>h.1) fun cdv A outer s H vs Q E hr h=>by
  refine ⟨_,(zac (zaX (zcw (zaF (K:=K) rfl (zaG (K:=K) rfl (pv 0)) (fun _=>rfl)))
   (zad (zaj (zaN (zah (sc:=zab s_43) (XN:=["self"]) (N:=["house"]) (own:=1) (js:=[]) rfl rfl (by decide +kernel)) rfl (zaB (K:=K) rfl (zaG (K:=K) rfl (pv 0))) (fun _ _ _ _ _=>(zap (i:=0) (show List.Nodup [(Str.ofString "house")] by decide +kernel) rfl (Or.inl rfl))) (fun _ _ _ _ _=>zaT) (fun _ _ _ _ _=>zb5)))) pss_nil)
   (zad (zaj (zaN (zah (sc:=zab s_43) (XN:=["self"]) (N:=["paper","self"]) (own:=1) (js:=[0]) rfl rfl (by decide +kernel)) rfl (zbd (by rfl) T.z_range (zaa zae (zaa (zay (op_addG) (zai (zak (K:=K) rfl) (by rfl) T.z_len (by rfl) (zaa (zaG (K:=K) rfl (pv 0)) pa_nil)) zae) pa_nil))) (fun _ _ _ _ _=>(zap (i:=0) (show List.Nodup [(Str.ofString "paper"),(Str.ofString "self")] by decide +kernel) rfl (Or.inl rfl))) (fun _ _ _ _ _=>zaT) (fun _ _ _ _ _=>(zbV (pv 1) T.cl_Exam T.me_50 G_50 (hr.mono (by decide)) T.b_50 .nil zaD (zaa (pv 0) pa_nil))))))),?_⟩
  obtain ⟨_,x,F,st,rfl,E0,DD,q⟩:=h;have BB:=DD.inb;have hwt:=DD.want;have B1:=BB.lp;have B2:=BB.lr;have E0':=E0;walk_at "hd";symm
  cases hdl:st.dl with
  | none =>
    refine iteT ?_;rw [hdl] at hob;have fA:=@exFs_a (.ref e.a) (.ref e.b) (.int st.step) (.bl (none:Option (List (List Int)×List (List Int))).isSome) (.ref e.c) (.ref e.d);symm;refine zaO (SqL.of hha) ?_;refine zbe (zaU (SqL.of hha)) (zaK (by rw [List.length_map];omega)) (fun _=>true) (fun _=>.non) (fun i H' Q' hi s q'=>q') (fun i H' Q' hi s _ q'=>q') fun p hp=>?_;rw [List.filter_eq_self.mpr (fun _ _=>rfl),List.length_map];exact q p _ hp (zaH hp) zar
  | some d =>
    refine iteF ?_;have hln:=I.wf.ln (by rw [hdl];rfl);rw [hdl] at hob;have fA:=@exFs_a (.ref e.a) (.ref e.b) (.int st.step) (.bl (some d).isSome) (.ref e.c) (.ref e.d);symm;refine zcJ ⟨by omega,by omega,by omega,by omega⟩ ?_;have en':((st.hs.length:Int)+1-1).toNat=st.hs.length:=by omega
    rw [en'];refine zbH (zbX (zbP.one (zbE 1 st.hs.length H)) (by omega) (fun _=>true) (fun _=>.non) (fun i H' Q' _ _ q'=>q' _ (Same.refl _)) (fun i H' Q' hi s _ q'=>?_) fun p2 H2 f2 s2 e2=>?_)
    ·have E':=E0'.same s;have ek:(1+(i:Int)-1).toNat=i:=by omega
     show (_:TE) (some (.int (1+(i:Int)))::_) _ _;symm;refine zeN E' BB (k:=1+(i:Int)) (by omega) (by omega) (by rw [ek];exact hwt i (by omega)) (fun Q z=>zhL (i:=0) rfl z) fun H3 s3=>?_;exact q' _ s3
    ·rw [List.filter_eq_self.mpr (fun _ _=>rfl)] at e2;exact q p2 H2 f2 s2 e2
theorem zgm {K:PySem.W.Frag} {C x:Addr} {H:Hp} {F:Addr→Prop} {st:ExS} {Q:VK} {E:XK} {σ:L2.St} (h:ExAt C H x F st) (D:D32 st) (q:(∀ p H',H p=none→Same H H'→H' p=some (.lst ((List.range st.hs.length).map fun _=>V.non))→Q (.ref p) H')):zbI C "marks" (zdw K C) E tNil σ (.ref x) H Q:=by
 obtain ⟨dx,fs,e,l⟩:=h.ob;exact za0 e (l _ (by decide +kernel)) (zfu ⟨rfl,x,F,st,rfl,h,D,q⟩)
def zeO (K:PySem.W.Frag):Sp:=fun vs H Q _=>vs.length=2∧False
theorem zeP (T:Txt K mg t):FnOk P w K mg base CX0 1 t.f_64 t.d_64 ["reader","points"] (zeO K):=by
 exact T.F_64.ok sc_64 (fun _ _ _ _ h=>h.1) fun _ _ _ _ _ _ _ _ _ h=>h.2.elim
def zdW (K:PySem.W.Frag):Sp:=fun vs H Q _=>vs.length=2∧∃ n:Int,vs=[.int n,.non]∧n.natAbs < 10 ^ 40∧Q (.str (opnT n)) H
theorem zgn (T:Txt K mg t):FnOk P w K mg base CX0 2 t.f_63 t.d_63 ["paper","mark"] (zdW K):=by
 have G_64:=zeP (P:=P) (w:=w) (base:=base) T;refine T.F_63.ok sc_63 (fun _ _ _ _ h=>h.1) fun cdv A outer s H vs Q E hr h=>by
  refine ⟨_,(zac (zaX (zat (op_isNN) (pv 1) zb5 (zaC _))
   (zad (zaj (zcg (zbk (pv 0) (zbR pj_nil))))) pss_nil)
   (zac (zaE (i:=2) sc_63.nd rfl (Or.inl rfl) (zaw (zaf (K:=K) rfl) (pv 1) zae (fun _ _=>rfl)))
   (zac (zaE (i:=3) sc_63.nd rfl (Or.inl rfl) (zaw (zaf (K:=K) rfl) (pv 1) zae (fun _ _=>rfl)))
   (zac (zaE (i:=4) sc_63.nd rfl (Or.inl rfl) (zbr (K:=K) rfl PySem.F.plainAttrs_str PySem.F.slot_str_join PySem.F.type_str_join (zgN (K:=K) rfl) zaQ (zaa (zaN (zah (sc:=zab s_63) (XN:=["paper","mark","top","bottom","readings"]) (N:=["row"]) (own:=1) (js:=[]) rfl rfl (by decide +kernel)) rfl (zaB (K:=K) rfl (zaw (zaf (K:=K) rfl) (pv 1) zae (fun _ _=>rfl))) (fun _ _ _ _ _=>(zap (i:=0) (show List.Nodup [(Str.ofString "row")] by decide +kernel) rfl (Or.inl rfl))) (fun _ _ _ _ _=>zaT) (fun _ _ _ _ _=>(zaq G_64 (hr.mono (by decide)) (by rfl) T.m_64 T.F_64.kp T.b_64 .nil zaD (zaa (zaw (zaf (K:=K) rfl) (pv 0) zae (fun _ _=>rfl)) (zaa (zaw (zaf (K:=K) rfl) (pv 0) zae (fun _ _=>rfl)) pa_nil))))) pa_nil)))
   (zad (zaj (zcg (zbk (pv 0) (zbR (zbk (pv 2) (zbR (zbk (pv 3) (zbR (zbk (pv 4) (zbR pj_nil))))))))))))))),?_⟩
  obtain ⟨_,n,rfl,hn,q⟩:=h;have htl:(Str.ofString (toString n)).length≤41:=za3 hn;symm;rw [decide_eq_true (rfl:V.non=V.non)];refine iteT ?_;symm;exact q
theorem zgU {H:Hp} {n:Int} {Q:VK} {E:XK} (hn:n.natAbs < 10 ^ 40) (q:Q (.str (opnT n)) H):zdW K [.int n,.non] H Q E:=⟨rfl,n,rfl,hn,q⟩
def zeQ (K:PySem.W.Frag):Sp:=fun vs H Q _=>vs.length=2∧∃ (b:Addr) (rows:List (List Int)) (x:Int),vs=[.ref b,.int x]∧LL K H b rows∧rows.length≤20∧∀ H',Same H H'→Q (.int (cntB rows x:Int)) H'
theorem zgV (T:Txt K mg t):FnOk P w K mg base CX0 1 t.f_15 t.d_15 ["rows","reader"] (zeQ K):=by
 refine T.F_15.ok sc_15 (fun _ _ _ _ h=>h.1) fun cdv A outer s H vs Q E hr h=>by
  refine ⟨_,(zad (zaj (zai (zak (K:=K) rfl) (by rfl) T.z_len (by rfl) (zaa (zaN (zah (sc:=zab s_15) (XN:=["rows","reader"]) (N:=["row","reader"]) (own:=1) (js:=[1]) rfl rfl (by decide +kernel)) rfl (zaB (K:=K) rfl (pv 0)) (fun _ _ _ _ _=>(zap (i:=0) (show List.Nodup [(Str.ofString "row"),(Str.ofString "reader")] by decide +kernel) rfl (Or.inl rfl))) (fun _ _ _ _ _=>(zcH (zat (zew (K:=K) rfl (zeX hr)) (pv 1) (pv 0) (by with_unfolding_all rfl)))) (fun _ _ _ _ _=>(pv 0))) pa_nil)))),?_⟩;obtain ⟨_,b,rows,x,rfl,L,hl,q⟩:=h;obtain ⟨ps,hb,hpl,hr⟩:=id L;symm;refine zaO hb ?_;refine zed hb hpl (by omega) (x:=x) (fun i H' Q' hi s q'=>?_) fun p H2 zs f s e ez=>?_
  ·have hrow:=s _ _ (hr i hi);symm;exact q'
  symm;rw [ez];exact q _ s
theorem zib {H:Hp} {b:Addr} {rows:List (List Int)} {x:Int} {Q:VK} {E:XK} (h:LL K H b rows) (hl:rows.length≤20) (q:∀ H',Same H H'→Q (.int (cntB rows x:Int)) H'):zeQ K [.ref b,.int x] H Q E:=⟨rfl,b,rows,x,rfl,h,hl,q⟩
theorem zkP (rs rows:List (List Int)) (n:Nat) (hn:n=rs.length):((List.range n).filter fun _=>true).map (fun i=>V.int ((rs.getD i []).getD 1 0-(cntB rows (1+(i:Int)):Int)))=(zbc rs rows).map V.int:=by
 subst hn;rw [List.filter_eq_self.mpr (fun _ _=>rfl)];unfold zbc;rw [List.map_map];refine List.map_congr_left fun i _=>?_;show V.int _=V.int _;rw [Int.add_comm 1 (i:Int)]
def zdx (K:PySem.W.Frag):Sp:=fun vs H Q _=>vs.length=2∧∃ (a b:Addr) (rs rows:List (List Int)),vs=[.ref a,.ref b]∧LL K H a rs∧LL K H b rows∧rs.length≤8∧rows.length≤20∧(∀ i,i < rs.length→(rs.getD i []).length=2)∧∀ p H',H p=none→Same H H'→H' p=some (.lst ((zbc rs rows).map V.int))→Q (.ref p) H'
theorem zct (T:Txt K mg t):FnOk P w K mg base CX0 2 t.f_14 t.d_14 ["readers","rows"] (zdx K):=by
 have G_15:=zgV (P:=P) (w:=w) (base:=base) T;refine T.F_14.ok sc_14 (fun _ _ _ _ h=>h.1) fun cdv A outer s H vs Q E hr h=>by
  refine ⟨_,(zad (zaj (zaN (zah (sc:=zab s_14) (XN:=["readers","rows"]) (N:=["reader","row","rows"]) (own:=2) (js:=[1]) rfl rfl (by decide +kernel)) rfl (zfy (K:=K) rfl (by rfl) T.z_enumerate (zaa (pv 0) pa_nil)) (fun _ _ _ _ _=>(zdI (K:=K) (n:=2) rfl rfl (zbm (zap (i:=0) (show List.Nodup [(Str.ofString "reader"),(Str.ofString "row"),(Str.ofString "rows")] by decide +kernel) rfl (Or.inl rfl)) (zbm (zap (i:=1) (show List.Nodup [(Str.ofString "reader"),(Str.ofString "row"),(Str.ofString "rows")] by decide +kernel) rfl (Or.inl rfl)) pgs_nil)))) (fun _ _ _ _ _=>zaT) (fun _ _ _ _ _=>(zay (op_sub) (zaw (zaf (K:=K) rfl) (pv 1) zae (fun _ _=>rfl)) (zaq G_15 (hr.mono (by decide)) (by rfl) T.m_15 T.F_15.kp T.b_15 .nil zaD (zaa (pv 2) (zaa (pv 0) pa_nil)))))))),?_⟩;obtain ⟨_,a,b,rs,rows,rfl,L1,L2,l1,l2,r2,q⟩:=h;obtain ⟨ps,ha,hpl,hpr⟩:=id L1;have en:(ps.map V.ref).length=rs.length:=by rw [List.length_map];exact hpl
  symm;refine zef ha ?_;refine zbX (zbP.enum ha) (by omega) (fun _=>true) (fun i=>.int ((rs.getD i []).getD 1 0-(cntB rows (1+(i:Int)):Int))) (fun i H' Q' _ _ q'=>q' _ (Same.refl _)) (fun i H' Q' hi s _ q'=>?_) fun p H2 f s e=>?_
  ·have hi':i < rs.length:=by omega
   have ex:(ps.map V.ref).getD i .non=.ref (ps.getD i 0):=by
    rw [List.getD_eq_getElem?_getD,List.getElem?_map,List.getElem?_eq_getElem (by omega),List.getD_eq_getElem?_getD,List.getElem?_eq_getElem (by omega)];rfl
   rw [ex];have h2:=r2 i hi';have hrow:=s _ _ (hpr i hi');show (_:TE) (some (.int (1+(i:Int)))::some (.ref (ps.getD i 0))::_) _ _;symm;refine zib (L2.same s) l2 fun H3 s3=>?_;symm;exact q' _ s3
  rw [zkP rs rows _ en] at e;exact q p H2 f s e
theorem zcu {H:Hp} {a b:Addr} {rs rows:List (List Int)} {Q:VK} {E:XK} (h1:LL K H a rs) (h2:LL K H b rows) (l1:rs.length≤8) (l2:rows.length≤20) (r2:∀ i,i < rs.length→(rs.getD i []).length=2)
  (q:∀ p H',H p=none→Same H H'→H' p=some (.lst ((zbc rs rows).map V.int))→Q (.ref p) H'):zdx K [.ref a,.ref b] H Q E:=⟨rfl,a,b,rs,rows,rfl,h1,h2,l1,l2,r2,q⟩
def zcS (K:PySem.W.Frag) (C:Addr):Sp:=fun vs H Q _=>vs.length=1∧∃ (x:Addr) (F:Addr→Prop) (st:ExS),vs=[.ref x]∧ExAt C H x F st∧InB st.hs st.rs∧(∀ p H',H p=none→Same H H'→H' p=some (.lst ((zev st).map V.int))→Q (.ref p) H')
theorem zgo (T:Txt K mg t):FnOk P w K mg base CX0 3 t.f_44 t.d_44 ["self"] (zcS K t.C_Exam):=by
 have G_14:=zct (P:=P) (w:=w) (base:=base) T;refine T.F_44.ok sc_44 (fun _ _ _ _ h=>h.1) fun cdv A outer s H vs Q E hr h=>by
  refine ⟨_,(zad (zaj (zaq G_14 (hr.mono (by decide)) (by rfl) T.m_14 T.F_14.kp T.b_14 .nil zaD (zaa (zaG (K:=K) rfl (pv 0)) (zaa (zaG (K:=K) rfl (pv 0)) pa_nil))))),?_⟩;obtain ⟨_,x,F,st,rfl,E0,BB,q⟩:=h;have B1:=BB.lp;have B2:=BB.lr;walk_at "hd";have L:LL K H e.b st.rs:=⟨e.ps,SqL.of hhb,I.lp,I.rp⟩
  have M:LL K H e.c st.nm:=⟨e.qs,SqL.of hhc,I.lq,I.rq⟩
  symm;refine zcu L M (by omega) (by have:=I.wf.n10 BB;omega) BB.r2 fun p H2 f s z=>?_;exact q p H2 f s z
theorem zgW {K:PySem.W.Frag} {C x:Addr} {H:Hp} {F:Addr→Prop} {st:ExS} {Q:VK} {E:XK} (h:ExAt C H x F st) (B:InB st.hs st.rs) (q:(∀ p H',H p=none→Same H H'→H' p=some (.lst ((zev st).map V.int))→Q (.ref p) H')):zcS K C [.ref x] H Q E:=⟨rfl,x,F,st,rfl,h,B,q⟩
theorem zgX {K:PySem.W.Frag} {C x:Addr} {H:Hp} {F:Addr→Prop} {st:ExS} {Q:VK} {E:XK} {σ:L2.St} (h:ExAt C H x F st) (B:InB st.hs st.rs) (q:(∀ p H',H p=none→Same H H'→H' p=some (.lst ((zev st).map V.int))→Q (.ref p) H')):zbI C "left" (zcS K C) E tNil σ (.ref x) H Q:=by
 obtain ⟨dx,fs,e,l⟩:=h.ob;exact za0 e (l _ (by decide +kernel)) (zfu (zgW h B q))
def zfm (K:PySem.W.Frag) (C:Addr):Sp:=fun vs H Q _=>vs.length=2∧∃ (x:Addr) (F:Addr→Prop) (st:ExS) (q:Qn),vs=[.ref x,.str q.word]∧ExAt C H x F st∧D32 st∧∀ r H',Res st (.ask q) st r→Same H H'→Q (.str r) H'
theorem zic (T:Txt K mg t):FnOk P w K mg base CX0 7 t.f_57 t.d_57 ["exam","question"] (zfm K t.C_Exam):=by
 have G_58:=zeC (P:=P) (w:=w) (base:=base) T;have G_40:=zeD (P:=P) (w:=w) (base:=base) T;have G_59:=zeF (P:=P) (w:=w) (base:=base) T;have G_41:=zeL (P:=P) (w:=w) (base:=base) T;have G_60:=zcs (P:=P) (w:=w) (base:=base) T;have G_42:=zgS (P:=P) (w:=w) (base:=base) T;have G_62:=zgT (P:=P) (w:=w) (base:=base) T;have G_43:=zfK (P:=P) (w:=w) (base:=base) T;have G_63:=zgn (P:=P) (w:=w) (base:=base) T;have G_44:=zgo (P:=P) (w:=w) (base:=base) T;refine T.F_57.ok sc_57 (fun _ _ _ _ h=>h.1) fun cdv A outer s H vs Q E hr h=>by
  refine ⟨_,(zac (zaX (zat (zb8 (K:=K) rfl hr.units0) (pv 1) zaQ (zaC _))
   (zad (zaj (zaq G_58 (hr.mono (by decide)) (by rfl) T.m_58 T.F_58.kp T.b_58 .nil zaD (zaa (zbG (pv 0) T.cl_Exam T.me_40 G_40 (hr.mono (by decide)) T.b_40 .nil zaD) pa_nil)))) pss_nil)
   (zac (zaX (zat (zb8 (K:=K) rfl hr.units0) (pv 1) zaQ (zaC _))
   (zad (zaj (zaq G_59 (hr.mono (by decide)) (by rfl) T.m_59 T.F_59.kp T.b_59 .nil zaD (zaa (zbG (pv 0) T.cl_Exam T.me_41 G_41 (hr.mono (by decide)) T.b_41 .nil zaD) pa_nil)))) pss_nil)
   (zac (zaX (zat (zb8 (K:=K) rfl hr.units0) (pv 1) zaQ (zaC _))
   (zad (zaj (zaq G_60 (hr.mono (by decide)) (by rfl) T.m_60 T.F_60.kp T.b_60 .nil zaD (zaa (zaN (zah (sc:=zab s_57) (XN:=["exam","question"]) (N:=["row"]) (own:=1) (js:=[]) rfl rfl (by decide +kernel)) rfl (zaB (K:=K) rfl (zbG (pv 0) T.cl_Exam T.me_42 G_42 (hr.mono (by decide)) T.b_42 .nil zaD)) (fun _ _ _ _ _=>(zap (i:=0) (show List.Nodup [(Str.ofString "row")] by decide +kernel) rfl (Or.inl rfl))) (fun _ _ _ _ _=>zaT) (fun _ _ _ _ _=>(zaq G_62 (hr.mono (by decide)) (by rfl) T.m_62 T.F_62.kp T.b_62 .nil zaD (zaa (zaw (zaf (K:=K) rfl) (pv 0) zae (fun _ _=>rfl)) (zaa (zaw (zaf (K:=K) rfl) (pv 0) zae (fun _ _=>rfl)) pa_nil))))) pa_nil)))) pss_nil)
   (zac (zaX (zat (zb8 (K:=K) rfl hr.units0) (pv 1) zaQ (zaC _))
   (zad (zaj (zaq G_60 (hr.mono (by decide)) (by rfl) T.m_60 T.F_60.kp T.b_60 .nil zaD (zaa (zaN (zah (sc:=zab s_57) (XN:=["exam","question"]) (N:=["paper","mark"]) (own:=2) (js:=[]) rfl rfl (by decide +kernel)) rfl (zfy (K:=K) rfl (by rfl) T.z_enumerate (zaa (zbG (pv 0) T.cl_Exam T.me_43 G_43 (hr.mono (by decide)) T.b_43 .nil zaD) pa_nil)) (fun _ _ _ _ _=>(zdI (K:=K) (n:=2) rfl rfl (zbm (zap (i:=0) (show List.Nodup [(Str.ofString "paper"),(Str.ofString "mark")] by decide +kernel) rfl (Or.inl rfl)) (zbm (zap (i:=1) (show List.Nodup [(Str.ofString "paper"),(Str.ofString "mark")] by decide +kernel) rfl (Or.inl rfl)) pgs_nil)))) (fun _ _ _ _ _=>zaT) (fun _ _ _ _ _=>(zaq G_63 (hr.mono (by decide)) (by rfl) T.m_63 T.F_63.kp T.b_63 .nil zaD (zaa (pv 0) (zaa (pv 1) pa_nil))))) pa_nil)))) pss_nil)
   (zad (zaj (zaq G_60 (hr.mono (by decide)) (by rfl) T.m_60 T.F_60.kp T.b_60 .nil zaD (zaa (zaN (zah (sc:=zab s_57) (XN:=["exam","question"]) (N:=["number"]) (own:=1) (js:=[]) rfl rfl (by decide +kernel)) rfl (zaB (K:=K) rfl (zbG (pv 0) T.cl_Exam T.me_44 G_44 (hr.mono (by decide)) T.b_44 .nil zaD)) (fun _ _ _ _ _=>(zap (i:=0) (show List.Nodup [(Str.ofString "number")] by decide +kernel) rfl (Or.inl rfl))) (fun _ _ _ _ _=>zaT) (fun _ _ _ _ _=>(zbx (zbY (K:=K) rfl) (by rfl) T.z_str (by rfl) (zaa (pv 0) pa_nil)))) pa_nil)))))))),?_⟩
  obtain ⟨_,x,F,st,qn,rfl,E0,DD,q⟩:=h;have BB:=DD.inb;have B1:=BB.lp;have B2:=BB.lr
  cases qn with
  | dealing =>
    walk_at "rds";refine ze3 E0 BB ⟨fun hd H1 s1=>?_,fun nm en hd p H1 R1=>?_⟩
    ·exact ⟨rfl,_,rfl,.inl ⟨rfl,q _ H1 (.undealt hd) s1⟩⟩
    ·obtain ⟨tt,e1,hr⟩:=DD.dl.resolve_left (by rw [hd];simp);have en:nm=tt:=by rw [hd] at e1;injection e1 with e1;injection e1
     subst en;have e2:=zhs hr;have hl:=(zby.mp hr).len;rw [e2] at R1;refine ⟨rfl,_,rfl,.inr ⟨p,nm,rfl,R1.ll,zjH hr BB,by omega,fun H2 s2=>?_⟩⟩;have:=Res.dealing hd;rw [e2] at this;exact q _ H2 this (R1.same.trans s2)
  | against =>
    walk_at "rds";refine ze6 E0 BB ⟨fun hd H1 s1=>?_,fun xs hd FA p H1 f1 s1 e1=>?_⟩
    ·exact ⟨rfl,_,rfl,.inl ⟨rfl,fun H2 s2=>q _ H2 (.agN hd) (s1.trans s2)⟩⟩
    ·have hr1:=FA.1.rng;have hl1:=SetM.len (l:=0) FA.1.up (fun x hx=>⟨by have:=hr1 x hx;omega,(hr1 x hx).2⟩) (by omega);exact ⟨rfl,_,rfl,.inr ⟨p,xs,rfl,e1,by omega,fun x hx=>by have:=hr1 x hx;omega,fun H2 s2=>q _ H2 (.agS hd FA) (s1.trans s2)⟩⟩
  | due =>
    have W:=E0.wf;have SD:=zl5 W BB;have hdl:=znl W;have h10:=W.n10 BB;walk_at "rds";refine zh7 E0 BB fun p1 H1 R1=>?_;have hR:=Res.due (st:=st);have hdl:(dueS st).length≤1000:=by show (dueB st.nm st.en).length≤1000;omega
    generalize dueS st=ds at *;obtain ⟨ps,sq,pl,pr⟩:LL K H1 p1 ds:=R1.ll;refine zaO sq ?_;refine zbH (zbX (zbP.one (zaU sq)) (by rw [List.length_map];omega) (fun _=>true) (fun i=>.str (dueT ((ds.getD i []).getD 0 0) ((ds.getD i []).getD 1 0))) (fun i H' Q' _ _ q'=>q' _ (Same.refl _)) (fun i H' Q' hi s _ q'=>?_) fun p2 H2 f2 s2 e2=>?_)
    ·rw [List.length_map] at hi;have ex:((ps.map V.ref).getD i .non)=.ref (ps.getD i 0):=by rw [List.getD_eq_getElem?_getD,List.getElem?_map,List.getElem?_eq_getElem hi,List.getD_eq_getElem?_getD,List.getElem?_eq_getElem hi];rfl
     rw [ex];show (_:TE) (some (.ref _)::_) _ _;have hrow:=s _ _ (pr i (by omega));obtain ⟨h2,n1,n2⟩:=SD i (by omega);symm;exact zh8 n1 n2 (q' _ (Same.refl _))
    rw [List.filter_eq_self.mpr (fun _ _=>rfl),List.length_map,pl] at e2;have e2:H2 p2=some (.lst ((ds.map fun r=>dueT (r.getD 0 0) (r.getD 1 0)).map V.str)):=by
     rw [e2,← zcX ds [] fun r=>dueT (r.getD 0 0) (r.getD 1 0)]
    symm;refine zbs (SqL.of e2) (fun x hx=>?_) (by rw [List.length_map];exact hdl) (q _ _ hR (R1.same.trans s2));obtain ⟨r,hr,rfl⟩:=List.mem_map.mp hx;obtain ⟨i,hi,rfl⟩:=L2.mem_getD (d:=[]) hr;obtain ⟨_,n1,n2⟩:=SD i hi;exact Nat.le_trans (zjI n1 n2) (by decide)
  | marks =>
    walk_at "rds";refine zgm E0 DD fun p1 H1 f1 s1 e1=>?_;have hsq:SqL K H1 p1 ((List.range st.hs.length).map fun _=>V.non):=SqL.of e1;have hlen:((List.range st.hs.length).map fun _=>V.non).length=st.hs.length:=by rw [List.length_map,List.length_range]
    refine zef hsq ?_;refine zbX (zbP.enum hsq) (by omega) (fun _=>true) (fun i=>.str (opnT ((i:Int)+1))) (fun i H' Q' _ _ q'=>q' _ (Same.refl _)) (fun i H' Q' hi s _ q'=>?_) fun p2 H2 f2 s2 e2=>?_
    ·rw [hlen] at hi;rw [zaz hi];show (_:TE) (some (.int (1+(i:Int)))::some .non::_) _ _;symm;refine zgU (by omega) ?_;rw [show (1:Int)+(i:Int)=(i:Int)+1 by omega];exact q' _ (Same.refl _)
    rw [List.filter_eq_self.mpr (fun _ _=>rfl),hlen] at e2;have e2:H2 p2=some (.lst (((List.range st.hs.length).map fun i:Nat=>opnT ((i:Int)+1)).map V.str)):=by rw [e2,List.map_map];rfl
    symm;refine zbs (SqL.of e2) (fun x hx=>?_) (by rw [List.length_map,List.length_range];omega) (q _ _ (.marks DD.marks) (s1.trans s2));obtain ⟨i,hi,rfl⟩:=List.mem_map.mp hx;have:=List.mem_range.mp hi;exact Nat.le_trans (zjA (by omega)) (by decide)
  | left =>
    walk_at "rds";refine zgX E0 BB fun p1 H1 f1 s1 e1=>?_;have hbd:∀ x∈zev st,x.natAbs < 10 ^ 40:=fun x hx=>zkL E0.wf BB hx;have hll:(zev st).length≤8:=by unfold zev zbc;rw [List.length_map,List.length_range];exact B2
    have q:∀ H',Same H H'→Q (.str (rowT ((zev st).map tS))) H':=fun H' s=>q _ H' .left s;generalize zev st=xs at *;refine zaO (SqL.of e1) ?_;refine zbe (zaU (SqL.of e1)) (zaK (by rw [List.length_map];omega)) (fun _=>true) (fun i=>.str (tS (xs.getD i 0))) (fun i H' Q' hi s q'=>q') (fun i H' Q' hi s _ q'=>?_) fun p2 hp2=>?_
    ·rw [List.length_map] at hi;have ex:((xs.map V.int).getD i .non)=.int (xs.getD i 0):=zck hi;rw [ex];show (_:TE) (some (.int _)::_) _ _;symm;exact zfi (hbd _ (getD_mem hi)) q'
    rw [List.filter_eq_self.mpr (fun _ _=>rfl),List.length_map];have em:(List.range xs.length).map (fun i=>V.str (tS (xs.getD i 0)))=(xs.map tS).map V.str:=by
     conv=>rhs;rw [← zbi xs 0]
     rw [List.map_map,List.map_map];rfl
    rw [em];have e2:(upd H1 p2 (.lst ((xs.map tS).map V.str))) p2=some (.lst ((xs.map tS).map V.str)):=zar;symm;refine zbs (SqL.of e2) (fun x hx=>?_) (by rw [List.length_map];omega) (q _ (s1.trans (zaH hp2)));obtain ⟨y,hy,rfl⟩:=List.mem_map.mp hx;have:=za3 (hbd y hy);omega
theorem zjN {C x:Addr} {H:Hp} {F:Addr→Prop} {st:ExS} {q:Qn} {Q:VK} {E:XK} (h:ExAt C H x F st) (D:D32 st) (k:∀ r H',Res st (.ask q) st r→Same H H'→Q (.str r) H'):zfm K C [.ref x,.str q.word] H Q E:=⟨rfl,x,F,st,q,rfl,h,D,k⟩
def za9 (K:PySem.W.Frag) (C:Addr) (xa:XAd):Sp:=fun vs H Q E=>vs.length=1∧∃ (x:Addr) (F:Addr→Prop) (st:ExS),vs=[.ref x]∧ExAt C H x F st∧(st.dl=none→Q .non H)∧(st.dl.isSome=true→E (.ref xa.OutOfTime) none H)
theorem zaI (T:Txt K mg t):FnOk P w K mg base (CX1 P w) 1 t.f_45 t.d_45 ["self"] (za9 K t.C_Exam t.xa):=by
 refine T.F_45.okX sc_45 (fun _ _ _ _ h=>h.1) fun cdv A outer s H vs Q E hr h=>by
  refine ⟨_,(zad (zaX (zaF (K:=K) rfl (zaG (K:=K) rfl (pv 0)) (fun _=>rfl))
   (zad (zeh (by rfl) T.mx_OutOfTime T.xc_OutOfTime)) pss_nil)),?_⟩
  obtain ⟨_,x,F,st,rfl,E0,q1,q2⟩:=h;walk_at "hd";symm;refine znZ (fun hd=>?_) (fun hd=>?_)
  ·symm;exact q2 hd
  ·symm;exact q1 (zjs (by rw [hd];decide))
theorem za4 {K:PySem.W.Frag} {xa:XAd} {C x:Addr} {H:Hp} {F:Addr→Prop} {st:ExS} {Q:VK} {E:XK} {σ:L2.St} (h:ExAt C H x F st) (q1:st.dl=none→Q .non H) (q2:st.dl.isSome=true→E (.ref xa.OutOfTime) none H):zbI C "refuse_behind_dealing" (za9 K C xa) E tNil σ (.ref x) H Q:=by
 obtain ⟨dx,fs,e,l⟩:=h.ob;exact za0 e (l _ (by decide +kernel)) (zfu ⟨rfl,x,F,st,rfl,h,q1,q2⟩)
local macro_rules | `(tactic| walk_at "rd1")=>`(tactic| (with_reducible refine zjq ?_))
local macro_rules | `(tactic| walk_at "rd1")=>`(tactic| (with_reducible refine r_methX ?_))
local macro_rules | `(tactic| walk_at "rd1")=>`(tactic| (with_reducible refine zjp ?_))
local macro_rules | `(tactic| walk_at "rd1")=>`(tactic| (with_reducible refine zht ?_))
def zcl (K:PySem.W.Frag) (xa:XAd):Sp:=fun vs H Q E=>vs.length=3∧∃ n l m:Int,vs=[.int n,.int l,.int m]∧(l≤n→n≤m→Q .non H)∧(¬(l≤n∧n≤m)→E (.ref xa.UnknownNumber) none H)
theorem zcm (T:Txt K mg t):FnOk P w K mg base (CX1 P w) 1 t.f_26 t.d_26 ["number","least","most"] (zcl K t.xa):=by
 refine T.F_26.okX sc_26 (fun _ _ _ _ h=>h.1) fun cdv A outer s H vs Q E hr h=>by
  refine ⟨_,(zad (zaX (zeW (zat (op_lt) (pv 0) (pv 1) (zaC _)) (zdj (zat (op_gt) (pv 0) (pv 2) (zaC _)))).pt
   (zad (zeh (by rfl) T.mx_UnknownNumber T.xc_UnknownNumber)) pss_nil)),?_⟩
  obtain ⟨_,n,l,m,rfl,q1,q2⟩:=h;symm;refine zbL (fun h0=>?_) (fun h0=>?_)
  ·refine iteT ?_;symm;exact q2 (by omega)
  ·symm;refine zbL (fun h1=>?_) (fun h1=>?_)
   ·symm;exact q2 (by omega)
   ·symm;exact q1 (by omega) (by omega)
theorem zcA {xa:XAd} {H:Hp} {n l m:Int} {Q:VK} {E:XK} (q1:l≤n→n≤m→Q .non H) (q2:¬(l≤n∧n≤m)→E (.ref xa.UnknownNumber) none H):zcl K xa [.int n,.int l,.int m] H Q E:=⟨rfl,n,l,m,rfl,q1,q2⟩
def zc4 (K:PySem.W.Frag) (xa:XAd):Sp:=fun vs H Q E=>vs.length=2∧∃ n m:Int,vs=[.int n,.int m]∧(n < m→Q .non H)∧(¬n < m→E (.ref xa.Full) none H)
theorem zc5 (T:Txt K mg t):FnOk P w K mg base (CX1 P w) 1 t.f_28 t.d_28 ["many","most"] (zc4 K t.xa):=by
 refine T.F_28.okX sc_28 (fun _ _ _ _ h=>h.1) fun cdv A outer s H vs Q E hr h=>by
  refine ⟨_,(zad (zaX (zat (op_ge) (pv 0) (pv 1) (zaC _))
   (zad (zeh (by rfl) T.mx_Full T.xc_Full)) pss_nil)),?_⟩
  obtain ⟨_,n,m,rfl,q1,q2⟩:=h;symm;refine zbL (fun h0=>?_) (fun h0=>?_)
  ·symm;exact q2 (by omega)
  ·symm;exact q1 (by omega)
theorem zdy {xa:XAd} {H:Hp} {n m:Int} {Q:VK} {E:XK} (q1:n < m→Q .non H) (q2:¬n < m→E (.ref xa.Full) none H):zc4 K xa [.int n,.int m] H Q E:=⟨rfl,n,m,rfl,q1,q2⟩
def zb2 (K:PySem.W.Frag) (C:Addr) (xa:XAd):Sp:=fun vs H Q E=>vs.length=2∧∃ (x:Addr) (F:Addr→Prop) (st:ExS) (h:Int),vs=[.ref x,.int h]∧ExAt C H x F st∧InB st.hs st.rs∧(∀ f,whyP st h=some f→E (.ref (xa.at f)) none H)∧(whyP st h=none→∀ H' F',ExFr H H' F F'→ExAt C H' x F' { st with hs:=st.hs++[h] }→Q (.int ((st.hs.length:Int)+1)) H')
theorem zde (T:Txt K mg t):FnOk P w K mg base (CX1 P w) 2 t.f_31 t.d_31 ["self","house"] (zb2 K t.C_Exam t.xa):=by
 have G_45:=zaI (P:=P) (w:=w) (base:=base) T;have G_26:=zcm (P:=P) (w:=w) (base:=base) T;have G_28:=zc5 (P:=P) (w:=w) (base:=base) T;refine T.F_31.okX sc_31 (fun _ _ _ _ h=>h.1) fun cdv A outer s H vs Q E hr h=>by
  refine ⟨_,(zac (zaV (zbG (pv 0) T.cl_Exam T.me_45 G_45 (hr.mono (by decide)) T.b_45 .nil passX))
   (zac (zaV (zaq G_26 (hr.mono (by decide)) (by rfl) T.m_26 T.F_26.kp T.b_26 .nil passX (zaa (pv 1) (zaa zae (zaa (zcF (v:=.int 6) (by rfl) T.v_MOST_HOUSES T.w_MOST_HOUSES) pa_nil)))))
   (zac (zaV (zaq G_28 (hr.mono (by decide)) (by rfl) T.m_28 T.F_28.kp T.b_28 .nil passX (zaa (zai (zak (K:=K) rfl) (by rfl) T.z_len (by rfl) (zaa (zaG (K:=K) rfl (pv 0)) pa_nil)) (zaa (zcF (v:=.int 10) (by rfl) T.v_MOST_PAPERS T.w_MOST_PAPERS) pa_nil))))
   (zac (zaV (zbr (K:=K) rfl PySem.F.plainAttrs_list PySem.F.slot_list_append PySem.F.type_list_append mt_append (zaG (K:=K) rfl (pv 0)) (zaa (pv 1) pa_nil)))
   (zad (zaj (zai (zak (K:=K) rfl) (by rfl) T.z_len (by rfl) (zaa (zaG (K:=K) rfl (pv 0)) pa_nil)))))))),?_⟩
  obtain ⟨_,x,F,st,h,rfl,E0,BB,qe,q⟩:=h;have E0':=E0;walk_at "hd";symm;refine za4 E0' (fun hd=>?_) (fun hd=>qe .time (by unfold whyP;rw [if_pos hd]));symm;refine zcA (fun h1 h2=>?_) (fun hn=>qe .unknown (by unfold whyP;rw [hd,if_neg (by decide),if_neg hn]));symm;refine zdy (fun h3=>?_) (fun hn=>qe .full (by unfold whyP;rw [hd,if_neg (by decide),if_pos ⟨h1,h2⟩,if_neg (by omega)]));have q:=q (zgd hd ⟨h1,h2,by omega⟩);symm;refine zaW hha (by rw [List.length_map];omega) fun H1 b1 e1=>?_;have I1:=I.paper hd b1 e1;have hob:=I1.ob;have e1':=I1.ha;symm;have el:((st.hs++[h]).length:Int)=(st.hs.length:Int)+1:=by rw [List.length_append,List.length_singleton];omega
  rw [el];exact q H1 F (ExFr.but b1 ((hF _).mpr own_a) fun b z=>.inl z) ⟨e,kvs,rfl,hF,I1⟩
theorem zdz {K:PySem.W.Frag} {xa:XAd} {C x:Addr} {H:Hp} {F:Addr→Prop} {st:ExS} {h:Int} {Q:VK} {E:XK} (hE:ExAt C H x F st) (B:InB st.hs st.rs) (qe:∀ f,whyP st h=some f→E (.ref (xa.at f)) none H) (q:whyP st h=none→∀ H' F',ExFr H H' F F'→ExAt C H' x F' { st with hs:=st.hs++[h] }→Q (.int ((st.hs.length:Int)+1)) H'):zb2 K C xa [.ref x,.int h] H Q E:=⟨rfl,x,F,st,h,rfl,hE,B,qe,q⟩
def zbz (K:PySem.W.Frag) (xa:XAd):Sp:=fun vs H Q E=>vs.length=2∧∃ n m:Int,vs=[.int n,.int m]∧(0≤n→n≤m→Q .non H)∧(¬(0≤n∧n≤m)→E (.ref xa.OutOfBounds) none H)
theorem zbA (T:Txt K mg t):FnOk P w K mg base (CX1 P w) 1 t.f_27 t.d_27 ["number","most"] (zbz K t.xa):=by
 refine T.F_27.okX sc_27 (fun _ _ _ _ h=>h.1) fun cdv A outer s H vs Q E hr h=>by
  refine ⟨_,(zad (zaX (zeW (zat (op_lt) (pv 0) zae (zaC _)) (zdj (zat (op_gt) (pv 0) (pv 1) (zaC _)))).pt
   (zad (zeh (by rfl) T.mx_OutOfBounds T.xc_OutOfBounds)) pss_nil)),?_⟩
  obtain ⟨_,n,m,rfl,q1,q2⟩:=h;symm;refine zbL (fun h0=>?_) (fun h0=>?_)
  ·refine iteT ?_;symm;exact q2 (by omega)
  ·symm;refine zbL (fun h1=>?_) (fun h1=>?_)
   ·symm;exact q2 (by omega)
   ·symm;exact q1 (by omega) (by omega)
theorem zbC {xa:XAd} {H:Hp} {n m:Int} {Q:VK} {E:XK} (q1:0≤n→n≤m→Q .non H) (q2:¬(0≤n∧n≤m)→E (.ref xa.OutOfBounds) none H):zbz K xa [.int n,.int m] H Q E:=⟨rfl,n,m,rfl,q1,q2⟩
def zbS (K:PySem.W.Frag) (C:Addr) (xa:XAd):Sp:=fun vs H Q E=>vs.length=3∧∃ (x:Addr) (F:Addr→Prop) (st:ExS) (h:Int) (l:Int),vs=[.ref x,.int h,.int l]∧ExAt C H x F st∧InB st.hs st.rs∧(∀ f,whyR st h l=some f→E (.ref (xa.at f)) none H)∧(whyR st h l=none→∀ H' F',ExFr H H' F F'→ExAt C H' x F' { st with rs:=st.rs++[[h,l]] }→Q (.int ((st.rs.length:Int)+1)) H')
theorem zcY (T:Txt K mg t):FnOk P w K mg base (CX1 P w) 2 t.f_32 t.d_32 ["self","house","limit"] (zbS K t.C_Exam t.xa):=by
 have G_45:=zaI (P:=P) (w:=w) (base:=base) T;have G_26:=zcm (P:=P) (w:=w) (base:=base) T;have G_27:=zbA (P:=P) (w:=w) (base:=base) T;have G_28:=zc5 (P:=P) (w:=w) (base:=base) T;refine T.F_32.okX sc_32 (fun _ _ _ _ h=>h.1) fun cdv A outer s H vs Q E hr h=>by
  refine ⟨_,(zac (zaV (zbG (pv 0) T.cl_Exam T.me_45 G_45 (hr.mono (by decide)) T.b_45 .nil passX))
   (zac (zaV (zaq G_26 (hr.mono (by decide)) (by rfl) T.m_26 T.F_26.kp T.b_26 .nil passX (zaa (pv 1) (zaa zae (zaa (zcF (v:=.int 6) (by rfl) T.v_MOST_HOUSES T.w_MOST_HOUSES) pa_nil)))))
   (zac (zaV (zaq G_27 (hr.mono (by decide)) (by rfl) T.m_27 T.F_27.kp T.b_27 .nil passX (zaa (pv 2) (zaa (zcF (v:=.int 30) (by rfl) T.v_MOST_LIMIT T.w_MOST_LIMIT) pa_nil))))
   (zac (zaV (zaq G_28 (hr.mono (by decide)) (by rfl) T.m_28 T.F_28.kp T.b_28 .nil passX (zaa (zai (zak (K:=K) rfl) (by rfl) T.z_len (by rfl) (zaa (zaG (K:=K) rfl (pv 0)) pa_nil)) (zaa (zcF (v:=.int 8) (by rfl) T.v_MOST_READERS T.w_MOST_READERS) pa_nil))))
   (zac (zaV (zbr (K:=K) rfl PySem.F.plainAttrs_list PySem.F.slot_list_append PySem.F.type_list_append mt_append (zaG (K:=K) rfl (pv 0)) (zaa (zaL (zaa (pv 1) (zaa (pv 2) pa_nil))) pa_nil)))
   (zad (zaj (zai (zak (K:=K) rfl) (by rfl) T.z_len (by rfl) (zaa (zaG (K:=K) rfl (pv 0)) pa_nil))))))))),?_⟩
  obtain ⟨_,x,F,st,h,l,rfl,E0,BB,qe,q⟩:=h;have E0':=E0;walk_at "hd";have lp:=I.lp;symm;refine za4 E0' (fun hd=>?_) (fun hd=>qe .time (by unfold whyR;rw [if_pos hd]));symm;refine zcA (fun h1 h2=>?_) (fun hn=>qe .unknown (by unfold whyR;rw [hd,if_neg (by decide),if_neg hn]));symm;refine zbC (fun h3 h4=>?_) (fun hn=>qe .bounds (by unfold whyR;rw [hd,if_neg (by decide),if_pos ⟨h1,h2⟩,if_neg hn]));symm;refine zdy (fun h5=>?_) (fun hn=>qe .full (by unfold whyR;rw [hd,if_neg (by decide),if_pos ⟨h1,h2⟩,if_pos ⟨h3,h4⟩,if_neg (by omega)]));have q:=q (zge hd ⟨h1,h2,h3,h4,by omega⟩);symm;refine zau (by simp) fun r H1 f1 s1 e1=>?_;symm;refine zaW (s1 _ _ hhb) (by rw [List.length_map];omega) fun H2 b2 e2=>?_;have I1:ExIn t.C_Exam H1 e st kvs:=I.keep fun b o _ z=>s1 b o z;have I2:=I1.reader (row:=[h,l]) (I.new f1) e1 b2 e2;have hob:=I2.ob;have e1':=I2.hb;symm;have el:((e.ps++[r]).length:Int)=(st.rs.length:Int)+1:=by rw [List.length_append,List.length_singleton];omega
  rw [el];refine q H2 _ ⟨fun b o eb nb=>?_,fun b z=>?_⟩ I2.at
  ·rw [b2 _ (fun z=>nb ((hF _).mpr (by rw [z];exact own_b)))];exact s1 _ _ eb
  ·rcases zhY z with z | z
   ·exact .inl ((hF b).mpr z)
   ·exact .inr (z▸f1)
theorem zdf {K:PySem.W.Frag} {xa:XAd} {C x:Addr} {H:Hp} {F:Addr→Prop} {st:ExS} {h:Int} {l:Int} {Q:VK} {E:XK} (hE:ExAt C H x F st) (B:InB st.hs st.rs) (qe:∀ f,whyR st h l=some f→E (.ref (xa.at f)) none H) (q:whyR st h l=none→∀ H' F',ExFr H H' F F'→ExAt C H' x F' { st with rs:=st.rs++[[h,l]] }→Q (.int ((st.rs.length:Int)+1)) H'):zbS K C xa [.ref x,.int h,.int l] H Q E:=⟨rfl,x,F,st,h,l,rfl,hE,B,qe,q⟩
def zcB (K:PySem.W.Frag) (C:Addr) (xa:XAd):Sp:=fun vs H Q E=>vs.length=2∧∃ (x:Addr) (F:Addr→Prop) (st:ExS) (s:Int),vs=[.ref x,.int s]∧ExAt C H x F st∧InB st.hs st.rs∧(∀ f,whyS st s=some f→E (.ref (xa.at f)) none H)∧(whyS st s=none→∀ H' F',ExFr H H' F F'→ExAt C H' x F' { st with step:=s }→Q (.int s) H')
theorem zd6 (T:Txt K mg t):FnOk P w K mg base (CX1 P w) 2 t.f_33 t.d_33 ["self","step"] (zcB K t.C_Exam t.xa):=by
 have G_45:=zaI (P:=P) (w:=w) (base:=base) T;have G_27:=zbA (P:=P) (w:=w) (base:=base) T;refine T.F_33.okX sc_33 (fun _ _ _ _ h=>h.1) fun cdv A outer s H vs Q E hr h=>by
  refine ⟨_,(zac (zaV (zbG (pv 0) T.cl_Exam T.me_45 G_45 (hr.mono (by decide)) T.b_45 .nil passX))
   (zac (zaV (zaq G_27 (hr.mono (by decide)) (by rfl) T.m_27 T.F_27.kp T.b_27 .nil passX (zaa (pv 1) (zaa (zcF (v:=.int 100) (by rfl) T.v_MOST_STEP T.w_MOST_STEP) pa_nil))))
   (zac (zbF (K:=K) rfl (pv 0) (pv 1))
   (zad (zaj (pv 1)))))),?_⟩
  obtain ⟨_,x,F,st,s,rfl,E0,BB,qe,q⟩:=h;have E0':=E0;walk_at "hd";symm;refine za4 E0' (fun hd=>?_) (fun hd=>qe .time (by unfold whyS;rw [if_pos hd]));symm;refine zbC (fun h3 h4=>?_) (fun hn=>qe .bounds (by unfold whyS;rw [hd,if_neg (by decide),if_neg hn]));have hp:=And.intro h3 h4;have q:=q (zjr hd hp);symm;refine za6 hob hcl nS (show 6 < 1000 by decide) fun H1 b1 e1=>?_;have I1:=I.setStep b1 e1 hp;symm;exact q H1 F (ExFr.but b1 ((hF _).mpr own_x) fun b z=>.inl z) ⟨e,kvs,rfl,hF,I1⟩
theorem zeR {K:PySem.W.Frag} {xa:XAd} {C x:Addr} {H:Hp} {F:Addr→Prop} {st:ExS} {s:Int} {Q:VK} {E:XK} (hE:ExAt C H x F st) (B:InB st.hs st.rs) (qe:∀ f,whyS st s=some f→E (.ref (xa.at f)) none H) (q:whyS st s=none→∀ H' F',ExFr H H' F F'→ExAt C H' x F' { st with step:=s }→Q (.int s) H'):zcB K C xa [.ref x,.int s] H Q E:=⟨rfl,x,F,st,s,rfl,hE,B,qe,q⟩
def zfL (K:PySem.W.Frag) (C:Addr):Sp:=fun vs H Q _=>vs.length=4∧False
theorem zfM (T:Txt K mg t):FnOk P w K mg base CX0 1 t.f_35 t.d_35 ["self","paper","reader","points"] (zfL K t.C_Exam):=by
 exact T.F_35.ok sc_35 (fun _ _ _ _ h=>h.1) fun _ _ _ _ _ _ _ _ _ h=>h.2.elim
theorem zhz {B H H':Hp} {p:Addr} {rs:List (List Int)} (R:RowsAt B p rs H) (s:Same H H'):RowsAt B p rs H':=by
 obtain ⟨a1,a2,ps,a3,a4,a5,a6⟩:=R;exact ⟨a1.trans s,a2,ps,s _ _ a3,a4,a5,fun i hi=>⟨s _ _ (a6 i hi).1,(a6 i hi).2⟩⟩
def zeS (K:PySem.W.Frag):Sp:=fun vs H Q _=>vs.length=1∧∃ (a:Addr) (ns:List Int),vs=[.ref a]∧SqL K H a (ns.map V.int)∧ns.length≤8∧∀ p H',RowsAt H p (prsB ns) H'→Q (.ref p) H'
theorem zgY (T:Txt K mg t):FnOk P w K mg base CX0 1 t.f_18 t.d_18 ["numbers"] (zeS K):=by
 refine T.F_18.ok sc_18 (fun _ _ _ _ h=>h.1) fun cdv A outer s H vs Q E hr h=>by
  refine ⟨_,(zac (zaE (i:=1) sc_18.nd rfl (Or.inl rfl) (zaL pa_nil))
   (zac (za7 PassesOwn.never rfl (zkn (K:=K) rfl (by rfl) T.z_enumerate (zaa (pv 0) pa_nil)) (zdI (K:=K) (n:=2) rfl rfl (zbm (zap (i:=2) sc_18.nd rfl (Or.inl rfl)) (zbm (zap (i:=3) sc_18.nd rfl (Or.inl rfl)) pgs_nil)))
   (zad (za7 PassesOwn.never rfl (zaB (K:=K) rfl (zcU (zcV (K:=K) rfl) (pv 0) (zdH (zay (op_addG) (pv 2) zae)) po_none)) (zap (i:=4) sc_18.nd rfl (Or.inl rfl))
   (zad (zaV (zbr (K:=K) rfl PySem.F.plainAttrs_list PySem.F.slot_list_append PySem.F.type_list_append mt_append (pv 1) (zaa (zaL (zaa (pv 3) (zaa (pv 4) pa_nil))) pa_nil)))))))
   (zad (zaj (pv 1))))),?_⟩
  obtain ⟨_,a,ns,rfl,ha,hl,q⟩:=h;have hpl:=prs_len ns;have hpl2:(prsB ns).length≤64:=Nat.le_trans hpl (Nat.mul_le_mul hl hl);symm;refine zau (by decide) fun p1 H1 f1 s1 e1=>?_;symm;refine zef (s1.seq ha) ?_;refine zlU (xs:=ns.map V.int) (fun i σ H'=>∃ rows v2 v3 v4,σ=[some (.ref a),some (.ref p1),v2,v3,v4]∧RowsAt H p1 rows H'∧rows++prsB (ns.drop i)=prsB ns) ⟨[],none,none,none,rfl,RowsAt.start f1 s1 e1,by simp⟩ ?_ ?_ ?_
  ·rintro i σ H' _ ⟨rows,_,_,_,rfl,R,_⟩;exact R.same.seq ha
  ·rintro i x σ H0 H' hx ⟨rows,v2,v3,v4,rfl,R0,er⟩ s0;obtain ⟨hi,rfl⟩:=zfv hx;have R:RowsAt H p1 rows H':=zhz R0 s0;rw [zkt hi] at er;symm;refine zbU (R.same.seq ha) fun p2 H2 f2 s2 e2=>?_;have np:p2≠p1:=by
    obtain ⟨zs,hz,_⟩:=R.lst;exact (zag hz f2).symm
   have ei:(0+(i:Int)+1)=((i+1:Nat):Int):=by omega
   rw [ei,zes,← List.map_drop] at e2;refine zaO (SqL.of e2) ?_;generalize ens:ns.drop (i+1)=ys at *;generalize ns.getD i 0=x at *;refine zdb (xs:=ys.map V.int) (fun j σ H'=>∃ rows2 v4,σ=[some (.ref a),some (.ref p1),some (.int (0+(i:Int))),some (.int x),v4]∧RowsAt H p1 rows2 H'∧H' p2=some (.lst (ys.map V.int))∧rows2++((ys.drop j).map (fun y=>[x,y])++prsB ys)=prsB ns) ⟨rows,v4,rfl,zhz R s2,e2,er⟩ ?_ ?_ ?_
   ·rintro j σ H3 _ ⟨rows2,_,rfl,R3,e3,_⟩;exact SqL.of e3
   ·rintro j y σ H3 hy ⟨rows2,v4,rfl,R3,e3,er3⟩;obtain ⟨hj,rfl⟩:=zfv hy;obtain ⟨zs,hz,hzl⟩:=R3.lst;have hlen:rows2.length≤64:=by
     have:=congrArg List.length er3;rw [List.length_append] at this;omega
    symm;refine zau (by simp) fun p4 H4 f4 s4 e4=>?_;symm;refine zaW (s4 _ _ hz) (by omega) fun H5 b5 e5=>?_;symm;refine ⟨rows2++[[x,ys.getD j 0]],_,rfl,R3.push f4 s4 e4 (s4 _ _ hz) b5 e5,by rw [b5 _ np];exact s4 _ _ e3,?_⟩;rw [List.drop_eq_getElem_cons hj] at er3;rw [List.append_assoc,← er3,List.getD_eq_getElem?_getD,List.getElem?_eq_getElem hj];rfl
   ·rintro σ H3 ⟨rows2,v4,rfl,R3,e3,er3⟩;rw [List.length_map,List.drop_length,List.map_nil,List.nil_append] at er3;exact ⟨rows2,_,_,_,rfl,R3,by first | exact er3 | (rw [ens];exact er3)⟩
  ·rintro σ H' ⟨rows,v2,v3,v4,rfl,R,er⟩;rw [List.length_map,List.drop_length] at er;have er2:rows=prsB ns:=by
    rw [← er];unfold prsB;simp
   symm;rw [← er2] at q;exact q _ _ R
theorem zid {H:Hp} {Q:VK} {E:XK} {a:Addr} {ns:List Int} (h:SqL K H a (ns.map V.int)) (hl:ns.length≤8) (q:∀ p H',RowsAt H p (prsB ns) H'→Q (.ref p) H'):zeS K [.ref a] H Q E:=⟨rfl,a,ns,rfl,h,hl,q⟩
def mayB (hs:List Int) (rs:List (List Int)) (k:Int) (i:Nat):Bool:=!decide ((rs.getD i []).getD 0 0=hs.getD (k-1).toNat 0)
def zao (hs:List Int) (rs:List (List Int)) (k:Int):List Int:=((List.range rs.length).filter (mayB hs rs k)).map fun i:Nat=>1+(i:Int)
def zc6 (K:PySem.W.Frag):Sp:=fun vs H Q _=>vs.length=3∧∃ (a b:Addr) (k:Int) (hs:List Int) (rs:List (List Int)),vs=[.ref a,.ref b,.int k]∧SqL K H a (hs.map V.int)∧LL K H b rs∧1≤k∧k≤hs.length∧rs.length≤1000∧(∀ i,i < rs.length→(rs.getD i []).length=2) ∧
 ∀ p H2,H p=none→Same H H2→H2 p=some (.lst ((zao hs rs k).map V.int))→Q (.ref p) H2
theorem zc7 (T:Txt K mg t):FnOk P w K mg base CX0 2 t.f_1 t.d_1 ["papers","readers","paper"] (zc6 K):=by
 have G_0:=zeI (P:=P) (w:=w) (base:=base) T;refine T.F_1.ok sc_1 (fun _ _ _ _ h=>h.1) fun cdv A outer s H vs Q E hr h=>by
  refine ⟨_,(zad (zaj (zaN (zah (sc:=zab s_1) (XN:=["papers","readers","paper"]) (N:=["reader","papers","readers","paper"]) (own:=1) (js:=[0,1,2]) rfl rfl (by decide +kernel)) rfl (zbd (by rfl) T.z_range (zaa zae (zaa (zay (op_addG) (zai (zak (K:=K) rfl) (by rfl) T.z_len (by rfl) (zaa (pv 1) pa_nil)) zae) pa_nil))) (fun _ _ _ _ _=>(zap (i:=0) (show List.Nodup [(Str.ofString "reader"),(Str.ofString "papers"),(Str.ofString "readers"),(Str.ofString "paper")] by decide +kernel) rfl (Or.inl rfl))) (fun _ _ _ _ _=>(zcH (zaF (K:=K) rfl (zaq G_0 (hr.mono (by decide)) (by rfl) T.m_0 T.F_0.kp T.b_0 .nil zaD (zaa (pv 1) (zaa (pv 2) (zaa (pv 3) (zaa (pv 0) pa_nil))))) (fun _=>rfl)))) (fun _ _ _ _ _=>(pv 0))))),?_⟩;obtain ⟨_,a,b,k,hs,rs,rfl,ha,L,k1,k2,hz,h2,q⟩:=h;obtain ⟨ps,hb,hl,hr'⟩:=id L;symm;refine zcJ ⟨by omega,by omega,by omega,by omega⟩ ?_;have en:((ps.length:Int)+1-1).toNat=rs.length:=by omega
  rw [en];refine zfZ (zbE _ _ _) (by omega) (mayB hs rs k) (fun i=>1+(i:Int)) (fun i H' Q' hi s q'=>?_) (fun i H' Q' hi s hc q'=>?_) fun p H2 f s e=>q p H2 f s e
  ·have ha':=s.seq ha;have L':=L.same s;symm;refine zfk ha' L' k1 k2 (by omega) (by omega) h2 ?_;symm;have e:(1+(i:Int)-1).toNat=i:=by omega
   rw [e];exact q'
  ·symm;exact q'
theorem zdA {H:Hp} {a b:Addr} {k:Int} {hs:List Int} {rs:List (List Int)} {Q:VK} {E:XK} (h1:SqL K H a (hs.map V.int)) (h2:LL K H b rs) (k1:1≤k) (k2:k≤hs.length) (hz:rs.length≤1000) (h3:∀ i,i < rs.length→(rs.getD i []).length=2)
  (q:∀ p H2,H p=none→Same H H2→H2 p=some (.lst ((zao hs rs k).map V.int))→Q (.ref p) H2):zc6 K [.ref a,.ref b,.int k] H Q E:=⟨rfl,a,b,k,hs,rs,rfl,h1,h2,k1,k2,hz,h3,q⟩
def zgZ (rs rows:List (List Int)):Bool:=(zbc rs rows).all fun x=>decide (0≤x)
theorem zkQ (ns:List Int) (n:Nat) (hn:n=ns.length):((List.range n).filter fun _=>true).map (fun i=>V.bl (decide (0≤ns.getD i 0)))=(ns.map fun x=>decide (0≤x)).map V.bl:=by
 subst hn;rw [List.filter_eq_self.mpr (fun _ _=>rfl),List.map_map];refine List.ext_getElem (by simp) fun i h1 h2=>?_;simp at h1;simp [h1]
theorem zgp {rs rows:List (List Int)}:zgZ rs rows=true↔∀ k,k < rs.length→(cntB rows ((k:Int)+1):Int)≤(rs.getD k []).getD 1 0:=by
 unfold zgZ zbc;rw [List.all_map,List.all_eq_true];constructor
 ·intro h k hk;have:=h k (List.mem_range.mpr hk);simp only [Function.comp_apply,decide_eq_true_eq] at this;omega
 ·intro h k hk;have:=h k (List.mem_range.mp hk);simp only [Function.comp_apply,decide_eq_true_eq];omega
def zcc (K:PySem.W.Frag):Sp:=fun vs H Q _=>vs.length=2∧∃ (a b:Addr) (rs rows:List (List Int)),vs=[.ref a,.ref b]∧LL K H a rs∧LL K H b rows∧rs.length≤8∧rows.length≤20∧(∀ i,i < rs.length→(rs.getD i []).length=2)∧∀ H',Same H H'→Q (.bl (zgZ rs rows)) H'
theorem zdB (T:Txt K mg t):FnOk P w K mg base CX0 3 t.f_13 t.d_13 ["readers","rows"] (zcc K):=by
 have G_14:=zct (P:=P) (w:=w) (base:=base) T;refine T.F_13.ok sc_13 (fun _ _ _ _ h=>h.1) fun cdv A outer s H vs Q E hr h=>by
  refine ⟨_,(zad (zaj (zai (zi7 (K:=K) rfl rfl) (by rfl) T.z_all (by rfl) (zaa (zaN (zah (sc:=zab s_13) (XN:=["readers","rows"]) (N:=["left"]) (own:=1) (js:=[]) rfl rfl (by decide +kernel)) rfl (zaB (K:=K) rfl (zaq G_14 (hr.mono (by decide)) (by rfl) T.m_14 T.F_14.kp T.b_14 .nil zaD (zaa (pv 0) (zaa (pv 1) pa_nil)))) (fun _ _ _ _ _=>(zap (i:=0) (show List.Nodup [(Str.ofString "left")] by decide +kernel) rfl (Or.inl rfl))) (fun _ _ _ _ _=>zaT) (fun _ _ _ _ _=>(zdG (op_ge) (pv 0) zae (zaC _)))) pa_nil)))),?_⟩;obtain ⟨_,a,b,rs,rows,rfl,L1,L2,l1,l2,r2,q⟩:=h;symm;refine zcu L1 L2 l1 l2 r2 fun p H1 f1 s1 e1=>?_;have hll:(zbc rs rows).length=rs.length:=by unfold zbc;rw [List.length_map,List.length_range]
  have hq:(zbc rs rows).all (fun x=>decide (0≤x))=zgZ rs rows:=rfl;generalize zbc rs rows=ns at *;have hn:(ns.map V.int).length=ns.length:=List.length_map ..;refine zaO (SqL.of e1) ?_;refine zbH (zbX (zbP.one (zaU (SqL.of e1))) (by omega) (fun _=>true) (fun i=>.bl (decide (0≤ns.getD i 0))) (fun i H' Q' _ _ q'=>q' _ (Same.refl _)) (fun i H' Q' hi s _ q'=>?_) fun p2 H2 f2 s2 e2=>?_)
  ·have ex:(ns.map V.int).getD i .non=.int (ns.getD i 0):=by
    rw [List.getD_eq_getElem?_getD,List.getElem?_map,List.getElem?_eq_getElem (by omega),List.getD_eq_getElem?_getD,List.getElem?_eq_getElem (by omega)];rfl
   rw [ex];show (_:TE) (some (.int (ns.getD i 0))::_) _ _;symm;exact q' _ (Same.refl _)
  rw [zkQ ns _ hn] at e2;refine zkl (SqL.of e2) ?_;rw [List.all_map];have e3:(ns.all (id∘fun x=>decide (0≤x)))=zgZ rs rows:=hq;rw [e3];exact q _ (s1.trans s2)
theorem zdP {H:Hp} {a b:Addr} {rs rows:List (List Int)} {Q:VK} {E:XK} (h1:LL K H a rs) (h2:LL K H b rows) (l1:rs.length≤8) (l2:rows.length≤20) (r2:∀ i,i < rs.length→(rs.getD i []).length=2)
  (q:∀ H',Same H H'→Q (.bl (zgZ rs rows)) H'):zcc K [.ref a,.ref b] H Q E:=⟨rfl,a,b,rs,rows,rfl,h1,h2,l1,l2,r2,q⟩
theorem znJ {row:List Int} {m:Nat} (nd:row.Nodup) (h:∀ r∈row,1≤r∧r≤m):row.length≤m:=by
 rw [← zjb nd h,zm8];exact Nat.le_trans (List.length_filter_le _ _) (by simp)
def flds (A G S:Addr):List (Str×V):=putF "spare" (.ref S) (putF "given" (.ref G) (putF "allowed" (.ref A) []))
theorem znK (A G S:Addr):(flds A G S).lookup ("spare" : Str)=some (.ref S):=by
 unfold flds;rw [zaA,if_pos rfl]
theorem zla (A G S:Addr):(flds A G S).lookup ("given" : Str)=some (.ref G):=by
 unfold flds;rw [zaA,if_neg (by decide +kernel),zaA,if_pos rfl]
theorem znL (A G S:Addr):(flds A G S).lookup ("allowed" : Str)=some (.ref A):=by
 unfold flds;rw [zaA,if_neg (by decide +kernel),zaA,if_neg (by decide +kernel),zaA,if_pos rfl]
theorem zg0 (A G S:Addr) {m:Str} (h1:¬m = "spare") (h2:¬m = "given") (h3:¬m = "allowed"):(flds A G S).lookup m=none:=by
 unfold flds;rw [zaA,if_neg h1,zaA,if_neg h2,zaA,if_neg h3];rfl
structure AtAd where
 x:Addr
 A:Addr
 G:Addr
 S:Addr
 aps:List Addr
 gps:List Addr
structure Att (C:Addr) (H:Hp) (d:AtAd) (al gv:List (List Int)) (sp:List Int):Prop where
 ob:∃ dx,H d.x=some (.ins C dx (flds d.A d.G d.S))
 ha:H d.A=some (.lst (d.aps.map V.ref))
 la:d.aps.length=al.length
 ra:∀ i,i < al.length→H (d.aps.getD i 0)=some (.lst ((al.getD i []).map V.int))∧d.aps.getD i 0∉d.gps∧d.aps.getD i 0≠d.S
 hg:H d.G=some (.lst (d.gps.map V.ref))
 lg:d.gps.length=gv.length
 ng:d.gps.Nodup
 rg:∀ i,i < gv.length→H (d.gps.getD i 0)=some (.lst ((gv.getD i []).map V.int))
 hs:H d.S=some (.lst (sp.map V.int))
 Sg:d.S∉d.gps
 Gg:d.G∉d.gps
 GS:d.G≠d.S
 Ag:d.A∉d.gps
 AS:d.A≠d.S
theorem Att.row {C:Addr} {H:Hp} {d:AtAd} {al gv:List (List Int)} {sp:List Int} (T:Att C H d al gv sp) {b:Addr} (hb:b∈d.gps):∃ xs:List V,H b=some (.lst xs):=by
 obtain ⟨i,hi,e⟩:=mem_getD (d:=0) hb;have:=T.rg i (by have:=T.lg;omega);rw [e] at this;exact ⟨_,this⟩
theorem Att.xg {C:Addr} {H:Hp} {d:AtAd} {al gv:List (List Int)} {sp:List Int} (T:Att C H d al gv sp):d.x∉d.gps:=fun h=>by
 obtain ⟨xs,e⟩:=T.row h;obtain ⟨dx,e2⟩:=T.ob;rw [e] at e2
 cases e2
theorem Att.xS {C:Addr} {H:Hp} {d:AtAd} {al gv:List (List Int)} {sp:List Int} (T:Att C H d al gv sp):d.x≠d.S:=fun h=>by
 obtain ⟨dx,e2⟩:=T.ob;rw [h,T.hs] at e2
 cases e2
theorem Att.keep {C:Addr} {H H':Hp} {d:AtAd} {al gv:List (List Int)} {sp:List Int} {D:Addr} {kvs:List (Key×V)} (T:Att C H d al gv sp) (hD:H D=some (.dK kvs)) (k:∀ b,b≠D→H' b=H b):Att C H' d al gv sp:=by
 have nl:∀ {b:Addr} {o:HO},H b=some o→(∀ kvs,o≠.dK kvs)→H' b=some o:=fun {b o} e ne=>by
  rw [k b (fun z=>by subst z;rw [hD] at e;exact ne kvs (Option.some.inj e).symm)];exact e
 obtain ⟨dx,ob⟩:=T.ob;exact ⟨⟨dx,nl ob (fun _ z=>by cases z)⟩,nl T.ha (fun _ z=>by cases z),T.la,fun i hi=>⟨nl (T.ra i hi).1 (fun _ z=>by cases z),(T.ra i hi).2⟩,nl T.hg (fun _ z=>by cases z),T.lg,T.ng,fun i hi=>nl (T.rg i hi) (fun _ z=>by cases z),nl T.hs (fun _ z=>by cases z),T.Sg,T.Gg,T.GS,T.Ag,T.AS⟩
theorem Att.same {C:Addr} {H H':Hp} {d:AtAd} {al gv:List (List Int)} {sp:List Int} (T:Att C H d al gv sp) (s:Same H H'):Att C H' d al gv sp:=by
 obtain ⟨dx,ob⟩:=T.ob;exact ⟨⟨dx,s _ _ ob⟩,s _ _ T.ha,T.la,fun i hi=>⟨s _ _ (T.ra i hi).1,(T.ra i hi).2⟩,s _ _ T.hg,T.lg,T.ng,fun i hi=>s _ _ (T.rg i hi),s _ _ T.hs,T.Sg,T.Gg,T.GS,T.Ag,T.AS⟩
theorem zie {ps:List Addr} (nd:ps.Nodup) {i j:Nat} (hi:i < ps.length) (hj:j < ps.length) (h:ps.getD i 0=ps.getD j 0):i=j:=by
 rw [List.getD_eq_getElem?_getD,List.getD_eq_getElem?_getD,List.getElem?_eq_getElem hi,List.getElem?_eq_getElem hj] at h;exact (List.getElem_inj nd).mp h
theorem Att.setRow {C:Addr} {H H':Hp} {d:AtAd} {al gv:List (List Int)} {sp row:List Int} {p:Nat} (T:Att C H d al gv sp) (hp:p < gv.length) (b:But (d.gps.getD p 0) H H') (e:H' (d.gps.getD p 0)=some (.lst (row.map V.int))):Att C H' d al (gv.set p row) sp:=by
 have l:=T.lg;have hm:d.gps.getD p 0∈d.gps:=getD_mem (by omega);have nm:∀ {a:Addr},a∉d.gps→a≠d.gps.getD p 0:=fun h z=>h (z▸hm);obtain ⟨dx,ob⟩:=T.ob;refine ⟨⟨dx,by rw [b _ (nm T.xg)];exact ob⟩,by rw [b _ (nm T.Ag)];exact T.ha,T.la,fun i hi=>⟨by rw [b _ (nm (T.ra i hi).2.1)];exact (T.ra i hi).1,(T.ra i hi).2⟩,by rw [b _ (nm T.Gg)];exact T.hg,by rw [List.length_set];exact l,T.ng,fun i hi=>?_,by rw [b _ (nm T.Sg)];exact T.hs,T.Sg,T.Gg,T.GS,T.Ag,T.AS⟩;rw [List.length_set] at hi;rw [zbn hp]
 by_cases ei:i=p
 ·subst ei;rw [if_pos rfl];exact e
 ·rw [if_neg ei,b _ (fun z=>ei (zie T.ng (by omega) (by omega) z))];exact T.rg i hi
theorem Att.setSp {C:Addr} {H H':Hp} {d:AtAd} {al gv:List (List Int)} {sp sp':List Int} (T:Att C H d al gv sp) (b:But d.S H H') (e:H' d.S=some (.lst (sp'.map V.int))):Att C H' d al gv sp':=by
 have l:=T.lg;obtain ⟨dx,ob⟩:=T.ob;refine ⟨⟨dx,by rw [b _ T.xS];exact ob⟩,by rw [b _ T.AS];exact T.ha,T.la,fun i hi=>⟨by rw [b _ (T.ra i hi).2.2];exact (T.ra i hi).1,(T.ra i hi).2⟩,by rw [b _ T.GS];exact T.hg,l,T.ng,fun i hi=>?_,e,T.Sg,T.Gg,T.GS,T.Ag,T.AS⟩;rw [b _ (fun z=>T.Sg (z▸getD_mem (by omega)))];exact T.rg i hi
def Frm (d:AtAd) (D:Addr) (H H':Hp):Prop:=∀ b o,H b=some o→b∉d.gps→b≠d.S→b≠D→H' b=some o
theorem Frm.refl {d:AtAd} {D:Addr} {H:Hp}:Frm d D H H:=fun _ _ e _ _ _=>e
theorem Frm.trans {d:AtAd} {D:Addr} {H H1 H2:Hp} (a:Frm d D H H1) (b:Frm d D H1 H2):Frm d D H H2:=fun c o e h1 h2 h3=>b c o (a c o e h1 h2 h3) h1 h2 h3
theorem Frm.but {d:AtAd} {D a:Addr} {H H':Hp} (b:But a H H') (h:a∈d.gps∨a=d.S∨a=D):Frm d D H H':=fun c o e h1 h2 h3=>by
 rw [b c (fun z=>by subst z;rcases h with h | h | h <;> contradiction)];exact e
def KsOk (lim ks:List Int):Prop:=ks.Nodup∧∀ k∈ks,1≤k∧k≤lim.length
theorem KsOk.push {lim ks:List Int} {x:Int} (h:KsOk lim ks) (hx:x∉ks) (h1:1≤x∧x≤lim.length):KsOk lim (ks++[x]):=by
 refine ⟨List.nodup_append.mpr ⟨h.1,by simp,fun a ha b hb=>?_⟩,fun k hk=>?_⟩
 ·have:b=x:=by simpa using hb
  subst this;intro e;subst e;exact hx ha
 ·rcases List.mem_append.mp hk with z | z
  ·exact h.2 k z
  ·have:k=x:=by simpa using z
   subst this;exact h1
def KpX (x:Addr) (H H':Hp):Prop:=∀ c o,H c=some o→c≠x→H' c=some o
theorem KpX.of {x:Addr} {H H':Hp} (s:Same H H'):KpX x H H':=fun c o e _=>s c o e
theorem KpX.but {x:Addr} {H H':Hp} (b:But x H H'):KpX x H H':=fun c o e n=>by rw [b c n];exact e
theorem KpX.trans {x:Addr} {H H1 H2:Hp} (a:KpX x H H1) (b:KpX x H1 H2):KpX x H H2:=fun c o e n=>b c o (a c o e n) n
theorem KpX.seq {K:PySem.W.Frag} {x C dx:Addr} {fs:List (Str×V)} {H H':Hp} {a:Addr} {xs:List V} (k:KpX x H H') (hx:H x=some (.ins C dx fs)) (h:SqL K H a xs):SqL K H' a xs:=by
 rcases h with (h | ⟨o,h⟩) | h
 ·exact .inl (.inl (k _ _ h (fun z=>by subst z;rw [hx] at h;cases h)))
 ·exact .inl (.inr ⟨o,k _ _ h (fun z=>by subst z;rw [hx] at h;cases h)⟩)
 ·exact .inr h
theorem KpX.ll {K:PySem.W.Frag} {x C dx:Addr} {fs:List (Str×V)} {H H':Hp} {a:Addr} {rs:List (List Int)} (k:KpX x H H') (hx:H x=some (.ins C dx fs)) (h:LL K H a rs):LL K H' a rs:=by
 obtain ⟨ps,h1,h2,h3⟩:=h;exact ⟨ps,k.seq hx h1,h2,fun i hi=>k _ _ (h3 i hi) (fun z=>by have:=h3 i hi;rw [z,hx] at this;cases this)⟩
def zb3 (K:PySem.W.Frag) (C:Addr):Sp:=fun vs H Q _=>vs.length=3∧∃ (x dx a b:Addr) (hs:List Int) (rs:List (List Int)),vs=[.ref x,.ref a,.ref b]∧H x=some (.ins C dx [])∧SqL K H a (hs.map V.int)∧LL K H b rs∧InB hs rs ∧
 ∀ (d:AtAd) H',d.x=x→(∀ c o,H c=some o→c≠x→H' c=some o)→(∀ g∈d.gps,H g=none)→H d.S=none →
  Att C H' d ((List.range hs.length).map fun i:Nat=>zao hs rs (1+(i:Int))) ((List.range hs.length).map fun _=>[]) ((List.range rs.length).map fun i=>(rs.getD i []).getD 1 0)→Q .non H'
theorem zdg (T:Txt K mg t):FnOk P w K mg base CX0 3 t.f_Attempt___init__ t.d_Attempt___init__ ["self","papers","readers"] (zb3 K t.C_Attempt):=by
 have G_1:=zc7 (P:=P) (w:=w) (base:=base) T;refine T.F_Attempt___init__.ok sc_Attempt___init__ (fun _ _ _ _ h=>h.1) fun cdv A outer s H vs Q E hr h=>by
  refine ⟨_,(zac (zbF (K:=K) rfl (pv 0) (zaN (zah (sc:=zab s_Attempt___init__) (XN:=["self","papers","readers"]) (N:=["paper","papers","readers"]) (own:=1) (js:=[1,2]) rfl rfl (by decide +kernel)) rfl (zbd (by rfl) T.z_range (zaa zae (zaa (zay (op_addG) (zai (zak (K:=K) rfl) (by rfl) T.z_len (by rfl) (zaa (pv 1) pa_nil)) zae) pa_nil))) (fun _ _ _ _ _=>(zap (i:=0) (show List.Nodup [(Str.ofString "paper"),(Str.ofString "papers"),(Str.ofString "readers")] by decide +kernel) rfl (Or.inl rfl))) (fun _ _ _ _ _=>zaT) (fun _ _ _ _ _=>(zaq G_1 (hr.mono (by decide)) (by rfl) T.m_1 T.F_1.kp T.b_1 .nil zaD (zaa (pv 1) (zaa (pv 2) (zaa (pv 0) pa_nil)))))))
   (zac (zbF (K:=K) rfl (pv 0) (zaN (zah (sc:=zab s_Attempt___init__) (XN:=["self","papers","readers"]) (N:=["house"]) (own:=1) (js:=[]) rfl rfl (by decide +kernel)) rfl (zaB (K:=K) rfl (pv 1)) (fun _ _ _ _ _=>(zap (i:=0) (show List.Nodup [(Str.ofString "house")] by decide +kernel) rfl (Or.inl rfl))) (fun _ _ _ _ _=>zaT) (fun _ _ _ _ _=>(zaL pa_nil))))
   (zad (zbF (K:=K) rfl (pv 0) (zaN (zah (sc:=zab s_Attempt___init__) (XN:=["self","papers","readers"]) (N:=["row"]) (own:=1) (js:=[]) rfl rfl (by decide +kernel)) rfl (zaB (K:=K) rfl (pv 2)) (fun _ _ _ _ _=>(zap (i:=0) (show List.Nodup [(Str.ofString "row")] by decide +kernel) rfl (Or.inl rfl))) (fun _ _ _ _ _=>zaT) (fun _ _ _ _ _=>(zaw (zaf (K:=K) rfl) (pv 0) zae (fun _ _=>rfl)))))))),?_⟩
  obtain ⟨_,x,dx,a,b,hs,rs,rfl,hx,ha,L,B,q⟩:=h;obtain ⟨psr,hb,hpl,hpr⟩:=id L;have B1:=B.lp;have B2:=B.lr;have hcl:=T.cl_Attempt;have hnA:=T.n_Attempt_allowed;have hnG:=T.n_Attempt_given;have hnS:=T.n_Attempt_spare;symm;refine zcJ ⟨by omega,by omega,by omega,by omega⟩ ?_;have en:((hs.length:Int)+1-1).toNat=hs.length:=by omega
  rw [en];refine zbH (zcN (zbP.one (zbE _ _ _)) (by omega) (fun i:Nat=>zao hs rs (1+(i:Int))) (fun i H' Q' hi s q'=>?_) fun p1 H1 R1=>?_)
  ·show (_:TE) (some (.int (1+(i:Int)))::_) _ _;symm;exact zdA (s.seq ha) (L.same s) (by omega) (by omega) (by omega) B.r2 q'
  obtain ⟨s1,f1,ps1,e1,l1,nd1,r1⟩:=id R1;rw [List.length_map,List.length_range] at l1 r1;symm;refine za6 (s1 _ _ hx) hcl hnA (by show 0 < 1000;decide) fun H2 b2 e2=>?_;have nx:∀ {c:Addr},H c=none→c≠x:=fun h z=>by subst z;rw [hx] at h;cases h
  have k2:KpX x H H2:=(KpX.of s1).trans (KpX.but b2);have ha2:=k2.seq hx ha;have L2:=k2.ll hx L;obtain ⟨psr2,hb2,hpl2,hpr2⟩:=id L2;symm;refine zaO ha2 ?_;have ehl:(hs.map V.int).length=hs.length:=List.length_map ..;refine zbH (zcN (zbP.one (zaU ha2)) (by omega) (fun _=>[]) (fun i H' Q' hi s q'=>?_) fun p3 H3 R3=>?_)
  ·show (_:TE) (some ((hs.map V.int).getD i .non)::_) _ _;symm;exact zau (by simp) q'
  obtain ⟨s3,f3,ps3,e3,l3,nd3,r3⟩:=id R3;rw [List.length_map,List.length_range,ehl] at l3 r3;symm;refine za6 (s3 _ _ e2) hcl hnG (by show 1 < 1000;decide) fun H4 b4 e4=>?_;have k4:KpX x H2 H4:=(KpX.of s3).trans (KpX.but b4);have L4:=k4.ll e2 L2;obtain ⟨psr4,hb4,hpl4,hpr4⟩:=id L4;have er4:(psr4.map V.ref).length=rs.length:=by rw [List.length_map];exact hpl4
  symm;refine zaO hb4 ?_;refine zfY (zaU hb4) (by omega) (fun i=>(rs.getD i []).getD 1 0) (fun i H' Q' hi s q'=>?_) fun p5 H5 f5 s5 e5=>?_
  ·have hi':i < rs.length:=by omega
   have ex:(psr4.map V.ref).getD i .non=.ref (psr4.getD i 0):=by
    rw [List.getD_eq_getElem?_getD,List.getElem?_map,List.getElem?_eq_getElem (by omega),List.getD_eq_getElem?_getD,List.getElem?_eq_getElem (by omega)];rfl
   rw [ex];have h2:=B.r2 i hi';have hrow:=s _ _ (hpr4 i hi');symm;exact q'
  symm;refine za6 (s5 _ _ e4) hcl hnS (by show 2 < 1000;decide) fun H6 b6 e6=>?_;rw [er4] at e5;have k6:KpX x H4 H6:=(KpX.of s5).trans (KpX.but b6);have c12:∀ {c:Addr} {o:HO},H1 c=some o→c≠x→H2 c=some o:=fun e h=>by rw [b2 _ h];exact e
  have c34:∀ {c:Addr} {o:HO},H3 c=some o→c≠x→H4 c=some o:=fun e h=>by rw [b4 _ h];exact e
  have c56:∀ {c:Addr} {o:HO},H5 c=some o→c≠x→H6 c=some o:=fun e h=>by rw [b6 _ h];exact e
  have n2:∀ {c:Addr},H2 c=none→c≠x:=fun h z=>by subst z;rw [e2] at h;cases h
  have n4:∀ {c:Addr},H4 c=none→c≠x:=fun h z=>by subst z;rw [e4] at h;cases h
  have fr2:∀ {c:Addr},H2 c=none→H c=none:=fun h=>s1.free (by rw [← b2 _ (n2 h)];exact h);have fr4:∀ {c:Addr},H4 c=none→H2 c=none:=fun h=>s3.free (by rw [← b4 _ (n4 h)];exact h);have hp1x:p1≠x:=nx f1;have hp3x:p3≠x:=n2 f3;have hp5x:p5≠x:=n4 f5;have A2:=c12 e1 hp1x;have A4:=k4 _ _ A2 hp1x;have G4:=c34 e3 hp3x;refine q ⟨x,p1,p3,p5,ps1,ps3⟩ H6 rfl ((k2.trans k4).trans k6) (fun g hg=>?_) (fr2 (fr4 f5)) ⟨⟨dx,e6⟩,k6 _ _ A4 hp1x,by rw [List.length_map,List.length_range];exact l1,fun i hi=>?_,k6 _ _ G4 hp3x,by rw [List.length_map,List.length_range];exact l3,nd3,fun i hi=>?_,c56 e5 hp5x,fun z=>?_,fun z=>?_,fun z=>?_,fun z=>?_,fun z=>?_⟩
  ·obtain ⟨i,hi,rfl⟩:=mem_getD (d:=0) hg;have hi:i < ps3.length:=hi;exact fr2 (r3 i (by omega)).2.1
  ·rw [List.length_map,List.length_range] at hi;obtain ⟨g1,g2,g3⟩:=r1 i hi;have h2:=c12 g1 (nx g2);have h4:=k4 _ _ h2 (nx g2);refine ⟨k6 _ _ h4 (nx g2),fun z=>?_,fun z=>?_⟩
   ·obtain ⟨j,hj,ej⟩:=mem_getD (d:=0) z;have hj:j < ps3.length:=hj;have:=(r3 j (by omega)).2.1;have ej':ps3.getD j 0=ps1.getD i 0:=ej;rw [ej',h2] at this
    cases this
   ·have z':ps1.getD i 0=p5:=z;rw [z',f5] at h4
    cases h4
  ·rw [List.length_map,List.length_range] at hi;obtain ⟨g1,g2,g3⟩:=r3 i hi;exact k6 _ _ (c34 g1 (n2 g2)) (n2 g2)
  ·obtain ⟨j,hj,ej⟩:=mem_getD (d:=0) z;have hj:j < ps3.length:=hj;obtain ⟨g1,g2,g3⟩:=r3 j (by omega);have h4:=c34 g1 (n2 g2);have ej':ps3.getD j 0=p5:=ej;rw [ej',f5] at h4
   cases h4
  ·obtain ⟨j,hj,ej⟩:=mem_getD (d:=0) z;have hj:j < ps3.length:=hj;exact (r3 j (by omega)).2.2 ej
  ·have z':p3=p5:=z;rw [z',f5] at G4
   cases G4
  ·obtain ⟨j,hj,ej⟩:=mem_getD (d:=0) z;have hj:j < ps3.length:=hj;have:=(r3 j (by omega)).2.1;have ej':ps3.getD j 0=p1:=ej;rw [ej',A2] at this
   cases this
  ·have z':p1=p5:=z;rw [z',f5] at A4
   cases A4
theorem znM {K:PySem.W.Frag} {C:Addr} {H:Hp} {Q:VK} {E:XK} {x dx a b:Addr} {hs:List Int} {rs:List (List Int)} (h1:H x=some (.ins C dx [])) (h2:SqL K H a (hs.map V.int)) (h3:LL K H b rs) (B:InB hs rs)
  (q:∀ (d:AtAd) H',d.x=x→(∀ c o,H c=some o→c≠x→H' c=some o)→(∀ g∈d.gps,H g=none)→H d.S=none →
   Att C H' d ((List.range hs.length).map fun i:Nat=>zao hs rs (1+(i:Int))) ((List.range hs.length).map fun _=>[]) ((List.range rs.length).map fun i=>(rs.getD i []).getD 1 0)→Q .non H'):zb3 K C [.ref x,.ref a,.ref b] H Q E:=⟨rfl,x,dx,a,b,hs,rs,rfl,h1,h2,h3,B,q⟩
def zaS (K:PySem.W.Frag) (C:Addr) (n:Nat):Sp:=fun vs H Q _=>vs.length=3∧∃ (d:AtAd) (p:Int) (D:Addr) (al gv:List (List Int)) (lim sp ks:List Int),vs=[.ref d.x,.int p,.ref D]∧Att C H d al gv sp∧H D=some (.dK (kvT ks))∧Vld al gv lim sp 0∧KsOk lim ks∧lim.length≤ks.length+n∧lim.length≤8∧gv.length≤10∧1≤p∧p≤gv.length ∧
 (∀ H' gv' sp',Frm d D H H'→Att C H' d al gv' sp'→Fnd al gv gv' lim sp' ks (p-1).toNat→Q (.bl true) H') ∧
 (∀ H' ls,Frm d D H H'→Att C H' d al gv sp→H' D=some (.dK (kvT ls))→KsOk lim ls→Cls2 al gv sp ks ls→Cov al gv ls (p-1).toNat→Q (.bl false) H')
def zaM (K:PySem.W.Frag) (C:Addr) (n:Nat):Sp:=fun vs H Q _=>vs.length=3∧∃ (d:AtAd) (r:Int) (D:Addr) (al gv:List (List Int)) (lim sp ks:List Int),vs=[.ref d.x,.int r,.ref D]∧Att C H d al gv sp∧H D=some (.dK (kvT ks))∧Vld al gv lim sp 0∧KsOk lim ks∧lim.length≤ks.length+n∧lim.length≤8∧gv.length≤10∧r∈ks ∧
 (∀ H' gv' sp',Frm d D H H'→Att C H' d al gv' sp'→Fre al gv gv' lim sp' ks r→Q (.bl true) H') ∧
 (∀ H' ls,Frm d D H H'→Att C H' d al gv sp→H' D=some (.dK (kvT ls))→KsOk lim ls→Cls2 al gv sp ks ls→sp.getD (r-1).toNat 0=0→(∀ q,q < gv.length→r∈gv.getD q []→Cov al gv ls q)→Q (.bl false) H')
def zjO (K:PySem.W.Frag) (C:Addr):Nat→Sp
 | 0=>fun _ _ _ _=>False
 | n+1=>zaM K C n
theorem zg1 {K:PySem.W.Frag} {C:Addr} {n:Nat}:zjO K C (n+1)=zaM K C n:=rfl
theorem zlb {K:PySem.W.Frag} {C:Addr} {n:Nat} {H:Hp} {Q:VK} {E:XK} {d:AtAd} {p:Int} {D:Addr} {al gv:List (List Int)} {lim sp ks:List Int} (T:Att C H d al gv sp) (hD:H D=some (.dK (kvT ks))) (V:Vld al gv lim sp 0) (k:KsOk lim ks) (hn:lim.length≤ks.length+n) (hm:lim.length≤8) (h10:gv.length≤10) (p1:1≤p) (p2:p≤gv.length)
  (q1:∀ H' gv' sp',Frm d D H H'→Att C H' d al gv' sp'→Fnd al gv gv' lim sp' ks (p-1).toNat→Q (.bl true) H')
  (q2:∀ H' ls,Frm d D H H'→Att C H' d al gv sp→H' D=some (.dK (kvT ls))→KsOk lim ls→Cls2 al gv sp ks ls→Cov al gv ls (p-1).toNat→Q (.bl false) H'):zaS K C n [.ref d.x,.int p,.ref D] H Q E:=⟨rfl,d,p,D,al,gv,lim,sp,ks,rfl,T,hD,V,k,hn,hm,h10,p1,p2,q1,q2⟩
theorem znN {K:PySem.W.Frag} {C:Addr} {n:Nat} {H:Hp} {Q:VK} {E:XK} {d:AtAd} {r:Int} {D:Addr} {al gv:List (List Int)} {lim sp ks:List Int} (T:Att C H d al gv sp) (hD:H D=some (.dK (kvT ks))) (V:Vld al gv lim sp 0) (k:KsOk lim ks) (hn:lim.length≤ks.length+n) (hm:lim.length≤8) (h10:gv.length≤10) (hr:r∈ks)
  (q1:∀ H' gv' sp',Frm d D H H'→Att C H' d al gv' sp'→Fre al gv gv' lim sp' ks r→Q (.bl true) H')
  (q2:∀ H' ls,Frm d D H H'→Att C H' d al gv sp→H' D=some (.dK (kvT ls))→KsOk lim ls→Cls2 al gv sp ks ls→sp.getD (r-1).toNat 0=0→(∀ q,q < gv.length→r∈gv.getD q []→Cov al gv ls q)→Q (.bl false) H'):zaM K C n [.ref d.x,.int r,.ref D] H Q E:=⟨rfl,d,r,D,al,gv,lim,sp,ks,rfl,T,hD,V,k,hn,hm,h10,hr,q1,q2⟩
theorem zbl (T:Txt K mg t) (kk d:Nat) (G_Attempt_find_reader:FnOk P w K mg base CX0 kk t.f_Attempt_find_reader t.d_Attempt_find_reader ["self","paper","asked"] (zaS K t.C_Attempt d)):FnOk P w K mg base CX0 (kk+1) t.f_Attempt_free_reading t.d_Attempt_free_reading ["self","reader","asked"] (zaM K t.C_Attempt d):=by
 refine T.F_Attempt_free_reading.ok sc_Attempt_free_reading (fun _ _ _ _ h=>h.1) fun cdv A outer s H vs Q E hr h=>by
  refine ⟨_,(zac (zaX (zat (op_gt) (zaw (zaf (K:=K) rfl) (zaG (K:=K) rfl (pv 0)) (zay (op_sub) (pv 1) zae) (fun _ _=>rfl)) zae (zaC _))
   (zac (zlf (zaG (K:=K) rfl (pv 0)) (zay (op_sub) (pv 1) zae) (zjd (K:=K) rfl) zae ip_sub set_list)
   (zad (zaj zbJ))) pss_nil)
   (zac (za7 PassesOwn.never rfl (zbd (by rfl) T.z_range (zaa zae (zaa (zay (op_addG) (zai (zak (K:=K) rfl) (by rfl) T.z_len (by rfl) (zaa (zaG (K:=K) rfl (pv 0)) pa_nil)) zae) pa_nil))) (zap (i:=3) sc_Attempt_free_reading.nd rfl (Or.inl rfl))
   (zad (zaX (zkT (zat (zew (K:=K) rfl (zeX hr)) (pv 1) (zaw (zaf (K:=K) rfl) (zaG (K:=K) rfl (pv 0)) (zay (op_sub) (pv 3) zae) (fun _ _=>rfl)) (by with_unfolding_all rfl)) (zin (zaF (K:=K) rfl (zbV (pv 0) T.cl_Attempt T.me_Attempt_find_reader G_Attempt_find_reader (hr.mono (by first | decide | exact Nat.le_refl _)) T.b_Attempt_find_reader .nil zaD (zaa (pv 3) (zaa (pv 2) pa_nil))) (fun _=>rfl)))).pt
   (zac (zaV (zbr (K:=K) rfl PySem.F.plainAttrs_list PySem.F.slot_list_remove PySem.F.type_list_remove mt_remove (zaw (zaf (K:=K) rfl) (zaG (K:=K) rfl (pv 0)) (zay (op_sub) (pv 3) zae) (fun _ _=>rfl)) (zaa (pv 1) pa_nil)))
   (zad (zaj zbJ))) pss_nil)))
   (zad (zaj zbJ)))),?_⟩
  obtain ⟨_,dd,r,D,al,gv,lim,sp,ks,rfl,A,hD,Vd,hk,hn,hm,h10,hrk,q1,q2⟩:=h;have hcl:=T.cl_Attempt;have hnS:=T.n_Attempt_spare;have hnG:=T.n_Attempt_given;obtain ⟨dx,hob⟩:=A.ob;have fS:=znK dd.A dd.G dd.S;have fG:=zla dd.A dd.G dd.S;have fM:=zg0 dd.A dd.G dd.S (m:="find_reader") (by decide +kernel) (by decide +kernel) (by decide +kernel);obtain ⟨r1,r2⟩:=hk.2 r hrk;have lsp:=Vd.ls;have hS:=A.hs;symm;refine zbL (fun h0=>?_) (fun h0=>?_)
  ·symm;refine zne (SqL.of hS) (by omega) (by omega) ?_;symm;refine zhh hS (by omega) (by rw [List.length_map];omega) fun H1 b1 e1=>?_;symm;refine q1 H1 gv _ (Frm.but b1 (.inr (.inl rfl))) (A.setSp (sp':=sp.set (r-1).toNat (sp.getD (r-1).toNat 0-1)) b1 ?_) (Vd.taken r1 r2 h0);rw [e1,List.map_set]
  ·have hz:sp.getD (r-1).toNat 0=0:=by have:=Vd.s0 (r-1).toNat (by omega);omega
   have hGl:=A.hg;have lg:=A.lg;symm;refine zcJ ⟨by omega,by omega,by omega,by omega⟩ ?_;have en:((dd.gps.length:Int)+1-1).toNat=gv.length:=by omega
   rw [en];refine zbM (fun i σ H'=>∃ ls v,σ=[some (.ref dd.x),some (.int r),some (.ref D),v]∧Frm dd D H H'∧Att t.C_Attempt H' dd al gv sp∧H' D=some (.dK (kvT ls))∧KsOk lim ls∧Cls2 al gv sp ks ls∧∀ q,q < i→r∈gv.getD q []→Cov al gv ls q) ⟨ks,none,rfl,Frm.refl,A,hD,hk,Cls2.refl,fun q hq=>absurd hq (by omega)⟩ ?_ ?_
   ·rintro i σ H' hi ⟨ls,v,rfl,F',A',hD',hk',C',hc⟩;obtain ⟨dx',hob'⟩:=A'.ob;have hGl':=A'.hg;have hrow:=A'.rg i hi;have ei:(1+(i:Int)-1).toNat=i:=by omega
    have hl':lim.length≤ls.length+d:=by
     have:=List.Nodup.length_le_of_subset hk.1 (fun z hz=>C'.1 z hz:ks ⊆ ls);omega
    symm;rw [ei];symm
    by_cases hin:r∈gv.getD i []
    ·rw [decide_eq_true hin];refine iteT ?_;symm;refine za0 hob' fM ?_;symm;refine zlb A' hD' Vd hk' hl' hm h10 (by omega) (by omega) (fun H2 gv2 sp2 F2 A2 N2=>?_) (fun H2 ls2 F2 A2 hD2 hk2 C2 hc2=>?_)
     ·symm;refine iteT ?_;rw [ei] at N2;obtain ⟨dx2,hob2⟩:=A2.ob;have hGl2:=A2.hg;have lg2:=N2.lg;have hrow2:=A2.rg i (by omega);obtain ⟨hx2,N3⟩:=N2.freed hi hin (C'.1 r hrk);symm;rw [ei];symm;refine zgJ hrow2 hx2 fun H3 b3 e3=>?_;symm;refine q1 H3 _ sp2 ((F'.trans F2).trans (Frm.but b3 (.inl (getD_mem (by omega))))) (A2.setRow (by omega) b3 e3) ⟨N3.v,N3.lg,N3.len,fun z hz=>N3.old z (C'.1 z hz),N3.own⟩
     ·symm;refine iteF ?_;symm;rw [ei] at hc2;refine ⟨ls2,_,rfl,F'.trans F2,A2,hD2,hk2,C'.trans C2,fun q hq hqr=>?_⟩
      by_cases e:q=i
      ·subst e;exact hc2
      ·exact (hc q (by omega) hqr).mono C2.1
    ·rw [decide_eq_false hin];refine iteF ?_;symm;refine ⟨ls,_,rfl,F',A',hD',hk',C',fun q hq hqr=>?_⟩
     by_cases e:q=i
     ·subst e;exact absurd hqr hin
     ·exact hc q (by omega) hqr
   ·rintro σ H' ⟨ls,v,rfl,F',A',hD',hk',C',hc⟩;symm;exact q2 H' ls F' A' hD' hk' C' hz hc
theorem zbt (T:Txt K mg t) (kk d:Nat) (G_Attempt_free_reading:FnOk P w K mg base CX0 kk t.f_Attempt_free_reading t.d_Attempt_free_reading ["self","reader","asked"] (zjO K t.C_Attempt d)):FnOk P w K mg base CX0 (kk+1) t.f_Attempt_find_reader t.d_Attempt_find_reader ["self","paper","asked"] (zaS K t.C_Attempt d):=by
 refine T.F_Attempt_find_reader.ok sc_Attempt_find_reader (fun _ _ _ _ h=>h.1) fun cdv A outer s H vs Q E hr h=>by
  refine ⟨_,(zac (za7 PassesOwn.never rfl (zaB (K:=K) rfl (zaw (zaf (K:=K) rfl) (zaG (K:=K) rfl (pv 0)) (zay (op_sub) (pv 1) zae) (fun _ _=>rfl))) (zap (i:=3) sc_Attempt_find_reader.nd rfl (Or.inl rfl))
   (zac (zaX (zeW (zkS (zmB (zeX hr) (pv 3) (pv 2))) (zdj (zat (zew (K:=K) rfl (zeX hr)) (pv 3) (zaw (zaf (K:=K) rfl) (zaG (K:=K) rfl (pv 0)) (zay (op_sub) (pv 1) zae) (fun _ _=>rfl)) (by with_unfolding_all rfl)))).pt
   (zad ps_continue) pss_nil)
   (zac (zlv (zeX hr) (pv 2) (pv 3) zbJ rfl)
   (zad (zaX (zaF (K:=K) rfl (zbV (pv 0) T.cl_Attempt T.me_Attempt_free_reading G_Attempt_free_reading (hr.mono (by first | decide | exact Nat.le_refl _)) T.b_Attempt_free_reading .nil zaD (zaa (pv 3) (zaa (pv 2) pa_nil))) (fun _=>rfl))
   (zac (zaV (zbr (K:=K) rfl PySem.F.plainAttrs_list PySem.F.slot_list_append PySem.F.type_list_append mt_append (zaw (zaf (K:=K) rfl) (zaG (K:=K) rfl (pv 0)) (zay (op_sub) (pv 1) zae) (fun _ _=>rfl)) (zaa (pv 3) pa_nil)))
   (zad (zaj zbJ))) pss_nil)))))
   (zad (zaj zbJ))),?_⟩
  obtain ⟨_,dd,p,D,al,gv,lim,sp,ks,rfl,A,hD,Vd,hk,hn,hm,h10,p1,p2,q1,q2⟩:=h;have hcl:=T.cl_Attempt;have hnA:=T.n_Attempt_allowed;have hnG:=T.n_Attempt_given;obtain ⟨dx,hob⟩:=A.ob;have fA:=znL dd.A dd.G dd.S;have fG:=zla dd.A dd.G dd.S;have fM:=zg0 dd.A dd.G dd.S (m:="free_reading") (by decide +kernel) (by decide +kernel) (by decide +kernel);have lga:=Vd.lg;have lg:=A.lg;have la:=A.la;have hA:=A.ha;have hpl:(p-1).toNat < gv.length:=by omega
  symm;generalize ep:(p-1).toNat=pn at *;obtain ⟨hrow,hnm1,hnm2⟩:=A.ra pn (by omega);refine zaO (SqL.of hrow) ?_;refine zdb (xs:=(al.getD pn []).map V.int) (fun i σ H'=>∃ ls v,σ=[some (.ref dd.x),some (.int p),some (.ref D),v]∧Frm dd D H H'∧Att t.C_Attempt H' dd al gv sp∧H' D=some (.dK (kvT ls))∧KsOk lim ls∧Cls2 al gv sp ks ls∧∀ j,j < i→(al.getD pn []).getD j 0∈ls∨(al.getD pn []).getD j 0∈gv.getD pn []) ⟨ks,none,rfl,Frm.refl,A,hD,hk,Cls2.refl,fun q hq=>absurd hq (by omega)⟩ ?_ ?_ ?_
  ·rintro i σ H' _ ⟨ls,v,rfl,F',A',_⟩;exact SqL.of (A'.ra pn (by omega)).1
  ·rintro i x σ H' hx ⟨ls,v,rfl,F',A',hD',hk',C',hc⟩;obtain ⟨hi,rfl⟩:=zfv hx;have hxm:(al.getD pn []).getD i 0∈al.getD pn []:=getD_mem hi;generalize hxe:(al.getD pn []).getD i 0=x at *;obtain ⟨dx',hob'⟩:=A'.ob;have hG':=A'.hg;have hgr:=A'.rg pn hpl;have hxr:=Vd.ar pn (by omega) x hxm;symm;refine zkr hD' ?_;symm;have done:∀ ls2,Cls2 al gv sp ls ls2→(x∈ls2∨x∈gv.getD pn [])→∀ j,j < i+1→(al.getD pn []).getD j 0∈ls2∨(al.getD pn []).getD j 0∈gv.getD pn []:=fun ls2 C2 h j hj=>by
    by_cases e:j=i
    ·subst e;rw [hxe];exact h
    ·exact (hc j (by omega)).elim (fun z=>.inl (C2.1 _ z)) .inr
   by_cases h1:x∈ls
   ·rw [decide_eq_true h1];refine iteT ?_;walk_at "rdk";exact ⟨ls,_,rfl,F',A',hD',hk',C',done ls Cls2.refl (.inl h1)⟩
   rw [decide_eq_false h1];refine iteF ?_;symm;rw [ep];symm
   by_cases h2:x∈gv.getD pn []
   ·rw [decide_eq_true h2];refine iteT ?_;symm;exact ⟨ls,_,rfl,F',A',hD',hk',C',done ls Cls2.refl (.inr h2)⟩
   rw [decide_eq_false h2];refine iteF ?_;have hk1:=hk'.push h1 hxr;have hl1:=znJ hk1.1 hk1.2;rw [List.length_append,List.length_singleton] at hl1;have hsub:=List.Nodup.length_le_of_subset hk.1 (fun z hz=>C'.1 z hz:ks ⊆ ls);symm;refine zjg hD' (by omega) h1 fun H1 b1 e1=>?_;have A1:=A'.keep hD' b1;obtain ⟨dx1,hob1⟩:=A1.ob;symm;refine za0 hob1 fM ?_;symm;obtain ⟨d',rfl⟩:∃ d',d=d'+1:=⟨d-1,by omega⟩
   rw [zg1];refine znN (n:=d') (r:=x) A1 e1 Vd hk1 (by rw [List.length_append,List.length_singleton];omega) hm h10 (by simp) (fun H2 gv2 sp2 F2 A2 N2=>?_) (fun H2 ls2 F2 A2 hD2 hk2 C2 hz2 hc2=>?_)
   ·symm;refine iteT ?_;obtain ⟨dx2,hob2⟩:=A2.ob;have hG2:=A2.hg;have lg2:=N2.lg;have hrow2:=A2.rg pn (by omega);have N3:=N2.found hpl hxm h2 h1;have hlen:(gv2.getD pn []).length≤8:=by
     have:=znJ (N2.v.nd pn (by omega)) fun r hr=>N2.v.ar pn (by omega) r (N2.v.sub pn (by omega) r hr);omega
    symm;rw [ep];symm;refine zaW hrow2 (by rw [List.length_map];omega) fun H3 b3 e3=>?_;symm;refine q1 H3 _ sp2 (((F'.trans (Frm.but b1 (.inr (.inr rfl)))).trans F2).trans (Frm.but b3 (.inl (getD_mem (by omega))))) (A2.setRow (row:=gv2.getD pn []++[x]) (by omega) b3 (by rw [e3,List.map_append];rfl)) ⟨N3.v,N3.lg,N3.len,fun z hz=>N3.old z (C'.1 z hz)⟩
   ·symm;refine iteF ?_;symm;have C3:=C2.one hz2 hc2;exact ⟨ls2,_,rfl,(F'.trans (Frm.but b1 (.inr (.inr rfl)))).trans F2,A2,hD2,hk2,C'.trans C3,done ls2 C3 (.inl (C2.1 x (by simp)))⟩
  ·rintro σ H' ⟨ls,v,rfl,F',A',hD',hk',C',hc⟩;symm;refine q2 H' ls F' A' hD' hk' C' fun r hr=>?_;obtain ⟨j,hj,rfl⟩:=mem_getD (d:=0) hr;exact hc j (by rw [List.length_map];exact hj)
theorem zjP (T:Txt K mg t):∀ n:Nat,FnOk P w K mg base CX0 (2 * n+1) t.f_Attempt_find_reader t.d_Attempt_find_reader ["self","paper","asked"] (zaS K t.C_Attempt n)∧FnOk P w K mg base CX0 (2 * n+2) t.f_Attempt_free_reading t.d_Attempt_free_reading ["self","reader","asked"] (zaM K t.C_Attempt n)
 | 0=>by
   have G0:FnOk P w K mg base CX0 0 t.f_Attempt_free_reading t.d_Attempt_free_reading ["self","reader","asked"] (zjO K t.C_Attempt 0):=⟨fun _ _ _ _ z=>z.elim,fun _ _ _ _ _ _ _ _ _ _ _ _ _ z=>z.elim⟩
   have G1:=zbt T 0 0 G0;exact ⟨G1,zbl T 1 0 G1⟩
 | n+1=>by
   have G0:=(zjP T n).2;have G1:=zbt T (2 * n+2) (n+1) G0;exact ⟨G1,zbl T (2 * n+3) (n+1) G1⟩
theorem zcE (T:Txt K mg t):FnOk P w K mg base CX0 17 t.f_Attempt_find_reader t.d_Attempt_find_reader ["self","paper","asked"] (zaS K t.C_Attempt 8):=(zjP T 8).1
theorem zhA {hs:List Int} {rs:List (List Int)} {q r:Nat} (hr:r < rs.length):((r:Int)+1∈zao hs rs (1+(q:Int)))↔zbf hs rs q r=true:=by
 unfold zao;have e:(1+(q:Int)-1).toNat=q:=by omega
 constructor
 ·intro h;obtain ⟨i,hi,ei⟩:=List.mem_map.mp h;have:i=r:=by omega
  subst this;have:=(List.mem_filter.mp hi).2;unfold mayB at this;rw [e] at this;exact this
 ·intro h;refine List.mem_map.mpr ⟨r,List.mem_filter.mpr ⟨List.mem_range.mpr hr,?_⟩,by omega⟩;unfold mayB;rw [e];exact h
theorem zlc {hs:List Int} {rs:List (List Int)} {k x:Int} (h:x∈zao hs rs k):1≤x∧x≤rs.length:=by
 unfold zao at h;obtain ⟨i,hi,rfl⟩:=List.mem_map.mp h;have:=List.mem_range.mp (List.mem_filter.mp hi).1;omega
theorem cnt_nil (n:Nat) (x:Int):cntB ((List.range n).map fun _=>([]:List Int)) x=0:=by
 unfold cntB;rw [List.length_eq_zero_iff,List.filter_eq_nil_iff];intro a ha;obtain ⟨_,_,rfl⟩:=List.mem_map.mp ha;simp
theorem zjQ {hs:List Int} {rs:List (List Int)} (B:InB hs rs):Vld ((List.range hs.length).map fun i:Nat=>zao hs rs (1+(i:Int))) ((List.range hs.length).map fun _=>[]) ((List.range rs.length).map fun i=>(rs.getD i []).getD 1 0) ((List.range rs.length).map fun i=>(rs.getD i []).getD 1 0) 0:=by
 refine ⟨by simp,rfl,fun q hq=>?_,fun q hq r hr=>?_,fun q hq r hr=>?_,fun r hr=>?_,fun r hr=>?_⟩
 ·rw [List.length_map,List.length_range] at hq;rw [zaz hq];exact List.nodup_nil
 ·rw [List.length_map,List.length_range] at hq;rw [zaz hq] at hr
  cases hr
 ·rw [List.length_map,List.length_range] at hq;rw [zaz hq] at hr;rw [List.length_map,List.length_range];exact zlc hr
 ·rw [List.length_map,List.length_range] at hr;rw [zaz hr];exact (B.rl r hr).1
 ·rw [List.length_map,List.length_range] at hr;rw [zaz hr,cnt_nil,if_neg (by omega)];simp
def zcd (K:PySem.W.Frag):Sp:=fun vs H Q _=>vs.length=2∧∃ (a b:Addr) (hs:List Int) (rs:List (List Int)),vs=[.ref a,.ref b]∧SqL K H a (hs.map V.int)∧LL K H b rs∧InB hs rs∧((∃ rows,zaR hs rs rows=true)→∀ H',Same H H'→Q (.bl true) H')∧((∀ rows,zaR hs rs rows=false)→∀ H',Same H H'→Q (.bl false) H')
theorem zdC (T:Txt K mg t):FnOk P w K mg base CX0 18 t.f_9 t.d_9 ["papers","readers"] (zcd K):=by
 have G_Attempt___init__:=zdg (P:=P) (w:=w) (base:=base) T;have G_Attempt_find_reader:=zcE (P:=P) (w:=w) (base:=base) T;refine T.F_9.ok sc_9 (fun _ _ _ _ h=>h.1) fun cdv A outer s H vs Q E hr h=>by
  refine ⟨_,(zac (zaE (i:=2) sc_9.nd rfl (Or.inl rfl) (zlo T.mk_Attempt G_Attempt___init__ (hr.mono (by decide)) (by rfl) T.mg_Attempt T.b_Attempt___init__ .nil zaD (zaa (pv 0) (zaa (pv 1) pa_nil))))
   (zac (za7 PassesOwn.never rfl (zbd (by rfl) T.z_range (zaa zae (zaa (zay (op_addG) (zai (zak (K:=K) rfl) (by rfl) T.z_len (by rfl) (zaa (pv 0) pa_nil)) zae) pa_nil))) (zap (i:=3) sc_9.nd rfl (Or.inl rfl))
   (zad (za7 PassesOwn.never rfl (za5 (by rfl) T.z_range (zaa (zcF (v:=.int 2) (by rfl) T.v_READERS_EACH T.w_READERS_EACH) pa_nil)) (zap (i:=4) sc_9.nd rfl (Or.inl rfl))
   (zad (zaX (zcw (zaF (K:=K) rfl (zbV (pv 2) T.cl_Attempt T.me_Attempt_find_reader G_Attempt_find_reader (hr.mono (by first | decide | exact Nat.le_refl _)) T.b_Attempt_find_reader .nil zaD (zaa (pv 3) (zaa pe_dnewK pa_nil))) (fun _=>rfl)))
   (zad (zaj zbJ)) pss_nil)))))
   (zad (zaj zbJ)))),?_⟩
  obtain ⟨_,a,b,hs,rs,rfl,ha,L,B,q1,q2⟩:=h;have B1:=B.lp;have B2:=B.lr;have h0:∀ i,i < rs.length→0≤(rs.getD i []).getD 1 0:=fun i hi=>(B.rl i hi).1;symm;refine zf8 fun x dx H1 fx fdx ne s1 ex=>?_;refine znM ex (s1.seq ha) (L.same s1) B fun d H2 hdx k2 fg fS A2=>⟨rfl,?_⟩
  have V0:=zjQ B;have hal:∀ q,q < hs.length→((List.range hs.length).map fun i:Nat=>zao hs rs (1+(i:Int))).getD q []=zao hs rs (1+(q:Int)):=fun q hq=>zaz hq;have hgl:∀ q,q < hs.length→(((List.range hs.length).map fun _=>([]:List Int)).getD q []).length=0:=fun q hq=>by rw [zaz hq];rfl
  have hll:((List.range rs.length).map fun i=>(rs.getD i []).getD 1 0).length=rs.length:=by rw [List.length_map,List.length_range]
  have hlg:∀ r,r < rs.length→((List.range rs.length).map fun i=>(rs.getD i []).getD 1 0).getD r 0=(rs.getD r []).getD 1 0:=fun r hr=>zaz hr;have hla:((List.range hs.length).map fun i:Nat=>zao hs rs (1+(i:Int))).length=hs.length:=by rw [List.length_map,List.length_range]
  generalize (List.range hs.length).map (fun i:Nat=>zao hs rs (1+(i:Int)))=al at *;generalize eg0:(List.range hs.length).map (fun _=>([]:List Int))=gv0 at *;have hlg0:gv0.length=hs.length:=by rw [← eg0,List.length_map,List.length_range]
  generalize (List.range rs.length).map (fun i=>(rs.getD i []).getD 1 0)=lim at *;have S2:Same H H2:=fun c o e=>k2 c o (s1 c o e) (fun z=>by rw [z,fx] at e;cases e);have fg':∀ g∈d.gps,H g=none:=fun g hg=>s1.free (fg g hg);have fS':H d.S=none:=s1.free fS;have frame:∀ {D:Addr} {H3 H4:Hp},Same H H3→H D=none→Frm d D H3 H4→Same H H4:=fun {D H3 H4} s f F c o e=>F c o (s c o e) (fun z=>by rw [fg' c z] at e;cases e) (fun z=>by rw [z,fS'] at e;cases e) (fun z=>by rw [z,f] at e;cases e);have ha2:=S2.seq ha;have hcl:=T.cl_Attempt;have fM:=zg0 d.A d.G d.S (m:="find_reader") (by decide +kernel) (by decide +kernel) (by decide +kernel);subst hdx;symm;refine zcJ ⟨by omega,by omega,by omega,by omega⟩ ?_;have en:((hs.length:Int)+1-1).toNat=hs.length:=by omega
  rw [en];refine zbM (fun i σ H'=>∃ gv sp v w,σ=[some (.ref a),some (.ref b),some (.ref d.x),v,w]∧Same H H'∧Att t.C_Attempt H' d al gv sp∧Vld al gv lim sp 0∧∀ q,q < hs.length→(gv.getD q []).length=if q < i then 2 else 0) ⟨gv0,lim,none,none,rfl,S2,A2,V0,fun q hq=>by rw [hgl q hq,if_neg (by omega)]⟩ ?_ ?_
  ·rintro i σ H' hi ⟨gv,sp,v,w',rfl,S',A',V',hlen⟩;symm;refine zci (by decide) (by decide) ?_;refine zbM (fun j σ H'=>∃ gv sp w,σ=[some (.ref a),some (.ref b),some (.ref d.x),some (.int (1+(i:Int))),w]∧Same H H'∧Att t.C_Attempt H' d al gv sp∧Vld al gv lim sp 0∧∀ q,q < hs.length→(gv.getD q []).length=if q < i then 2 else if q=i then j else 0) ⟨gv,sp,w',rfl,S',A',V',fun q hq=>by
    rw [hlen q hq]
    by_cases e:q < i
    ·rw [if_pos e,if_pos e]
    ·rw [if_neg e,if_neg e];split <;> rfl⟩ ?_ ?_
   ·rintro j σ H3 hj ⟨gv3,sp3,w3,rfl,S3,A3,V3,hlen3⟩;have hj:j < 2:=hj;obtain ⟨dx3,hob3⟩:=A3.ob;have lg3:=V3.lg;symm;refine za0 hob3 fM ?_;symm;refine zf9 fun D H4 f4 s4 e4=>?_;symm;have ei:(1+(i:Int)-1).toNat=i:=by omega
    refine zlb (n:=8) (A3.same s4) e4 V3 ⟨List.nodup_nil,fun k hk=>by cases hk⟩ (by rw [List.length_nil];omega) (by omega) (by omega) (by omega) (by omega) (fun H5 gv5 sp5 F5 A5 N5=>?_) (fun H5 ls F5 A5 hD5 hk5 C5 hc5=>?_)
    ·rw [ei] at N5;symm;refine iteF ?_;symm;refine ⟨gv5,sp5,_,rfl,frame (S3.trans s4) (S3.free f4) F5,A5,N5.v,fun q hq=>?_⟩;rw [N5.len q (by omega),hlen3 q hq]
     by_cases e1:q < i
     ·rw [if_pos e1,if_pos e1,if_neg (by omega)]
     ·rw [if_neg e1,if_neg e1]
      by_cases e2:q=i
      ·rw [if_pos e2,if_pos e2,if_pos e2]
      ·rw [if_neg e2,if_neg e2,if_neg e2]
    ·rw [ei] at hc5;symm;refine iteT ?_;symm;refine q2 ?_ _ (frame (S3.trans s4) (S3.free f4) F5);refine zjc (p:=i) h0 V3 hla hll hlg (fun q hq r hr hallow=>by rw [hal q hq];exact (zhA hr).mpr hallow) (fun q hq=>?_) hi ?_ C5 hc5
     ·rw [hlen3 q hq];split
      ·omega
      ·split <;> omega
     ·rw [hlen3 i hi,if_neg (by omega),if_pos rfl];exact hj
   ·rintro σ H3 ⟨gv3,sp3,w3,rfl,S3,A3,V3,hlen3⟩;refine ⟨gv3,sp3,_,_,rfl,S3,A3,V3,fun q hq=>?_⟩;rw [hlen3 q hq]
    by_cases e1:q < i
    ·rw [if_pos e1,if_pos (by omega)]
    ·rw [if_neg e1]
     by_cases e2:q=i
     ·rw [if_pos e2,if_pos (by omega)];rfl
     ·rw [if_neg e2,if_neg (by omega)]
  ·rintro σ H' ⟨gv,sp,v,w',rfl,S',A',V',hlen⟩;symm;refine q1 ?_ _ S';refine zko h0 V' hla hll hlg (fun q hq r hr hm=>by rw [hal q hq] at hm;exact (zhA hr).mp hm) fun q hq=>?_;rw [hlen q hq,if_pos hq]
theorem zdQ {H:Hp} {Q:VK} {E:XK} {a b:Addr} {hs:List Int} {rs:List (List Int)} (h2:SqL K H a (hs.map V.int)) (h3:LL K H b rs) (B:InB hs rs) (q1:(∃ rows,zaR hs rs rows=true)→∀ H',Same H H'→Q (.bl true) H') (q2:(∀ rows,zaR hs rs rows=false)→∀ H',Same H H'→Q (.bl false) H'):zcd K [.ref a,.ref b] H Q E:=⟨rfl,a,b,hs,rs,rfl,h2,h3,B,q1,q2⟩
def zc8 (K:PySem.W.Frag):Sp:=fun vs H Q _=>vs.length=2∧∃ (a b:Addr) (rs:List (List Int)) (ls:List Int),vs=[.ref a,.ref b]∧LL K H a rs∧SqL K H b (ls.map V.int)∧ls.length=rs.length∧rs.length≤8∧(∀ i,i < rs.length→(rs.getD i []).length=2)∧∀ p H',RowsAt H p (zga rs ls) H'→Q (.ref p) H'
theorem ze7 (T:Txt K mg t):FnOk P w K mg base CX0 1 t.f_20 t.d_20 ["readers","limits"] (zc8 K):=by
 refine T.F_20.ok sc_20 (fun _ _ _ _ h=>h.1) fun cdv A outer s H vs Q E hr h=>by
  refine ⟨_,(zad (zaj (zaN (zah (sc:=zab s_20) (XN:=["readers","limits"]) (N:=["row","limit"]) (own:=2) (js:=[]) rfl rfl (by decide +kernel)) rfl (ziR (K:=K) rfl (by rfl) T.z_zip (zaa (pv 0) (zaa (pv 1) pa_nil))) (fun _ _ _ _ _=>(zdI (K:=K) (n:=2) rfl rfl (zbm (zap (i:=0) (show List.Nodup [(Str.ofString "row"),(Str.ofString "limit")] by decide +kernel) rfl (Or.inl rfl)) (zbm (zap (i:=1) (show List.Nodup [(Str.ofString "row"),(Str.ofString "limit")] by decide +kernel) rfl (Or.inl rfl)) pgs_nil)))) (fun _ _ _ _ _=>zaT) (fun _ _ _ _ _=>(zaL (zaa (zaw (zaf (K:=K) rfl) (pv 0) zae (fun _ _=>rfl)) (zaa (pv 1) pa_nil))))))),?_⟩;obtain ⟨_,a,b,rs,ls,rfl,L,hb,hl,h8,r2,q⟩:=h;obtain ⟨ps,ha,hpl,hpr⟩:=id L;have en:(ps.map V.ref).length=rs.length:=by rw [List.length_map];exact hpl
  have em:(ls.map V.int).length=ls.length:=List.length_map ..;symm;refine zlC ha hb ?_;refine zcN (zbP.zip ha hb (by omega)) (by omega) (fun i=>[(rs.getD i []).getD 0 0,ls.getD i 0]) (fun i H' Q' hi s q'=>?_) fun p H' R=>?_
  ·have hi':i < rs.length:=by omega
   have ex:(ps.map V.ref).getD i .non=.ref (ps.getD i 0):=by
    rw [List.getD_eq_getElem?_getD,List.getElem?_map,List.getElem?_eq_getElem (by omega),List.getD_eq_getElem?_getD,List.getElem?_eq_getElem (by omega)];rfl
   have ey:(ls.map V.int).getD i .non=.int (ls.getD i 0):=by
    rw [List.getD_eq_getElem?_getD,List.getElem?_map,List.getElem?_eq_getElem (by omega),List.getD_eq_getElem?_getD,List.getElem?_eq_getElem (by omega)];rfl
   rw [ex,ey];have h2:=r2 i hi';have hrow:=s _ _ (hpr i hi');show (_:TE) (some (.ref (ps.getD i 0))::some (.int (ls.getD i 0))::_) _ _;symm;exact zau (by simp) q'
  rw [en] at R;exact q p H' R
theorem zfN {H:Hp} {Q:VK} {E:XK} {a b:Addr} {rs:List (List Int)} {ls:List Int} (h:LL K H a rs) (hb:SqL K H b (ls.map V.int)) (hl:ls.length=rs.length) (h8:rs.length≤8) (r2:∀ i,i < rs.length→(rs.getD i []).length=2) (q:∀ p H',RowsAt H p (zga rs ls) H'→Q (.ref p) H'):zc8 K [.ref a,.ref b] H Q E:=⟨rfl,a,b,rs,ls,rfl,h,hb,hl,h8,r2,q⟩
def zdX (K:PySem.W.Frag):Sp:=fun vs H Q _=>vs.length=3∧∃ (a b c:Addr) (hs:List Int) (rs rows:List (List Int)),vs=[.ref a,.ref b,.ref c]∧SqL K H a (hs.map V.int)∧LL K H b rs∧LL K H c rows∧InB hs rs∧zcf hs rs rows∧(Ext hs rs rows→∀ H',Same H H'→Q (.bl true) H')∧(¬Ext hs rs rows→∀ H',Same H H'→Q (.bl false) H')
theorem zgq (T:Txt K mg t):FnOk P w K mg base CX0 19 t.f_19 t.d_19 ["papers","readers","rows"] (zdX K):=by
 have G_13:=zdB (P:=P) (w:=w) (base:=base) T;have G_9:=zdC (P:=P) (w:=w) (base:=base) T;have G_20:=ze7 (P:=P) (w:=w) (base:=base) T;have G_14:=zct (P:=P) (w:=w) (base:=base) T;refine T.F_19.ok sc_19 (fun _ _ _ _ h=>h.1) fun cdv A outer s H vs Q E hr h=>by
  refine ⟨_,(zac (zaX (zcw (zaF (K:=K) rfl (zaq G_13 (hr.mono (by decide)) (by rfl) T.m_13 T.F_13.kp T.b_13 .nil zaD (zaa (pv 1) (zaa (pv 2) pa_nil))) (fun _=>rfl)))
   (zad (zaj zbJ)) pss_nil)
   (zad (zaj (zaq G_9 (hr.mono (by decide)) (by rfl) T.m_9 T.F_9.kp T.b_9 .nil zaD (zaa (zcU (zcV (K:=K) rfl) (pv 0) (zdH (zai (zak (K:=K) rfl) (by rfl) T.z_len (by rfl) (zaa (pv 2) pa_nil))) po_none) (zaa (zaq G_20 (hr.mono (by decide)) (by rfl) T.m_20 T.F_20.kp T.b_20 .nil zaD (zaa (pv 1) (zaa (zaq G_14 (hr.mono (by decide)) (by rfl) T.m_14 T.F_14.kp T.b_14 .nil zaD (zaa (pv 1) (zaa (pv 2) pa_nil))) pa_nil))) pa_nil)))))),?_⟩
  obtain ⟨_,a,b,c,hs,rs,rows,rfl,ha,L,L3,B,P,q1,q2⟩:=h;have B1:=B.lp;have B2:=B.lr;have pl:=P.1;have hg:=zng P;symm;refine zdP L L3 B2 (by omega) B.r2 fun H1 s1=>?_;symm
  cases ek:zgZ rs rows with
  | false =>
    refine iteT ?_;symm;refine q2 (fun z=>?_) _ s1;have:=zgp.mpr (hg.mp z).1;rw [ek] at this
    cases this
  | true =>
    have hk:=zgp.mp ek;refine iteF ?_;obtain ⟨ps3,hc3,hl3,hr3⟩:=id (L3.same s1);symm;refine zbU (s1.seq ha) fun p2 H2 f2 s2 e2=>?_;have el:(ps3.length:Int)=((rows.length:Nat):Int):=by omega
    rw [el,zes,← List.map_drop] at e2;have s12:=s1.trans s2;symm;refine zcu (L.same s12) (L3.same s12) B2 (by omega) B.r2 fun p4 H4 f4 s4 e4=>?_;have s14:=s12.trans s4;have hll:(zbc rs rows).length=rs.length:=by unfold zbc;rw [List.length_map,List.length_range]
    symm;refine zfN (L.same s14) (SqL.of e4) hll B2 B.r2 fun p5 H5 R5=>?_;have s15:=s14.trans R5.same;symm;refine zdQ (SqL.of (R5.same _ _ (s4 _ _ e2))) R5.ll (znh B hk rows.length) (fun h H6 s6=>q1 (hg.mpr ⟨hk,h⟩) _ (s15.trans s6)) (fun h H6 s6=>q2 (fun z=>?_) _ (s15.trans s6));obtain ⟨_,more,hm⟩:=hg.mp z;rw [h more] at hm
    cases hm
theorem zg2 {H:Hp} {Q:VK} {E:XK} {a b c:Addr} {hs:List Int} {rs rows:List (List Int)} (h1:SqL K H a (hs.map V.int)) (h2:LL K H b rs) (h3:LL K H c rows) (B:InB hs rs) (P:zcf hs rs rows) (q1:Ext hs rs rows→∀ H',Same H H'→Q (.bl true) H') (q2:¬Ext hs rs rows→∀ H',Same H H'→Q (.bl false) H'):zdX K [.ref a,.ref b,.ref c] H Q E:=⟨rfl,a,b,c,hs,rs,rows,rfl,h1,h2,h3,B,P,q1,q2⟩
theorem znO (hs:List Int) (rs:List (List Int)) (k:Int):(zao hs rs k).Pairwise (· < ·):=by
 unfold zao;rw [List.pairwise_map];exact (List.pairwise_lt_range.filter _).imp fun h=>by omega
theorem znP (hs:List Int) (rs:List (List Int)) (k:Int):(zao hs rs k).length≤rs.length:=by
 unfold zao;rw [List.length_map];exact Nat.le_trans (List.length_filter_le _ _) (by simp)
theorem zkR {hs:List Int} {rs:List (List Int)} {k:Nat} {x:Int}:x∈zao hs rs ((k:Int)+1)↔1≤x∧x≤rs.length∧(rs.getD (x-1).toNat []).getD 0 0≠hs.getD k 0:=by
 have ek:(k:Int)+1=1+(k:Int):=Int.add_comm ..;rw [ek];constructor
 ·intro h;have hr:=zlc h;refine ⟨hr.1,hr.2,?_⟩;have e:x=(((x-1).toNat:Nat):Int)+1:=by omega
  rw [e,zhA (by omega)] at h;unfold zbf at h;simpa using h
 ·rintro ⟨h1,h2,h3⟩;have e:x=(((x-1).toNat:Nat):Int)+1:=by omega
  rw [e,zhA (by omega)];unfold zbf;rw [decide_eq_false h3];rfl
theorem zej {hs:List Int} {rs:List (List Int)} {k:Nat} {row:List Int}:row∈prsB (zao hs rs ((k:Int)+1))↔zcj rs (hs.getD k 0) row=true:=by
 rw [prs_mem (znO ..),zbW];constructor
 ·rintro ⟨x,y,rfl,hx,hy,hlt⟩;obtain ⟨x1,x2,x3⟩:=zkR.mp hx;obtain ⟨y1,y2,y3⟩:=zkR.mp hy;exact ⟨rfl,x1,hlt,y2,x3,y3⟩
 ·rintro ⟨h1,h2,h3,h4,h5,h6⟩;exact ⟨row.getD 0 0,row.getD 1 0,len2 h1,zkR.mpr ⟨h2,by omega,h5⟩,zkR.mpr ⟨by omega,h4,h6⟩,h3⟩
theorem zfn {hs:List Int} {rs rows:List (List Int)} {row:List Int} (P:zcf hs rs rows) (hl:rows.length < hs.length) (h:zcj rs (hs.getD rows.length 0) row=true):zcf hs rs (rows++[row]):=by
 refine ⟨by rw [List.length_append,List.length_singleton];omega,fun k hk=>?_⟩;rw [List.length_append,List.length_singleton] at hk
 by_cases e:k < rows.length
 ·rw [zas e];exact P.2 k e
 ·have:k=rows.length:=by omega
  subst this;rw [zax];exact h
theorem zhB {hs:List Int} {rs rows more:List (List Int)} (hl:rows.length < hs.length) (h:zaR hs rs (rows++more)=true):∃ r rest,more=r::rest∧zcj rs (hs.getD rows.length 0) r=true∧Ext hs rs (rows++[r]):=by
 obtain ⟨h1,h2,_⟩:=zbh.mp h
 match more with
 | []=>rw [List.append_nil] at h1;omega
 | r::rest =>
   refine ⟨r,rest,rfl,?_,rest,by rw [List.append_assoc];exact h⟩;have:=h2 rows.length hl;rw [zcq (Nat.le_refl _),Nat.sub_self] at this;exact this
theorem zif {hs:List Int} {rs rows:List (List Int)} (hl:rows.length < hs.length) (h:∀ r∈prsB (zao hs rs ((rows.length:Int)+1)),¬Ext hs rs (rows++[r])):¬Ext hs rs rows:=by
 rintro ⟨more,hm⟩;obtain ⟨r,rest,_,hp,hx⟩:=zhB hl hm;exact h r (zej.mpr hp) hx
theorem zig {hs:List Int} {rs rows:List (List Int)} {i:Nat} (P:zcf hs rs rows) (hl:rows.length < hs.length) (hi:i < (prsB (zao hs rs ((rows.length:Int)+1))).length)
  (h0:∀ j,j < i→¬Ext hs rs (rows++[(prsB (zao hs rs ((rows.length:Int)+1))).getD j []])) (hn:∀ full,zaR hs rs full=true→nbB rows full=true):∀ full,zaR hs rs full=true→nbB (rows++[(prsB (zao hs rs ((rows.length:Int)+1))).getD i []]) full=true:=by
 intro full hf;refine zhq (hn full hf) fun he hlt=>?_;obtain ⟨f1,f2,_⟩:=zbh.mp hf;have ef:full=rows++full.drop rows.length:=by
  have e1:rows=full.take rows.length:=by
   refine ziQ (by rw [List.length_take];omega) fun j hj=>?_;rw [zi5 hj];obtain ⟨e0,e1⟩:=he j hj;have p1:=(zbW.mp (P.2 j hj)).1;have p2:=(zbW.mp (f2 j (by omega))).1;exact zni p1 p2 e0 e1
  conv=>rhs;arg 1;rw [e1]
  exact (List.take_append_drop _ _).symm
 rw [ef] at hf;obtain ⟨r,rest,er,hp,hx⟩:=zhB hl hf;have eg:full.getD rows.length []=r:=by
  rw [ef,zcq (Nat.le_refl _),Nat.sub_self,er];rfl
 rw [eg];obtain ⟨j,hj,ej⟩:=mem_getD (d:=[]) (zej.mpr hp);have hij:¬j < i:=fun z=>h0 j z (by rw [ej];exact hx)
 by_cases e:j=i
 ·subst e;rw [ej];exact .inr ⟨rfl,Int.le_refl _⟩
 ·have:=List.pairwise_iff_getElem.mp (prs_ord (znO hs rs ((rows.length:Int)+1))) i j hi hj (by omega);rw [← ej,List.getD_eq_getElem?_getD,List.getElem?_eq_getElem hi,List.getD_eq_getElem?_getD,List.getElem?_eq_getElem hj];exact this
def zb4 (K:PySem.W.Frag):Sp:=fun vs H Q _=>vs.length=3∧∃ (a b c:Addr) (hs:List Int) (rs rows:List (List Int)) (ps:List Addr),vs=[.ref a,.ref b,.ref c]∧SqL K H a (hs.map V.int)∧LL K H b rs∧H c=some (.lst (ps.map V.ref))∧ps.length=rows.length∧(∀ i,i < rows.length→H (ps.getD i 0)=some (.lst ((rows.getD i []).map V.int)))∧InB hs rs∧zcf hs rs rows∧rows.length < hs.length ∧
 ((∀ r∈prsB (zao hs rs ((rows.length:Int)+1)),¬Ext hs rs (rows++[r]))→∀ H',Same H H'→Q .non H') ∧
 ∀ i,i < (prsB (zao hs rs ((rows.length:Int)+1))).length→Ext hs rs (rows++[(prsB (zao hs rs ((rows.length:Int)+1))).getD i []])→(∀ j,j < i→¬Ext hs rs (rows++[(prsB (zao hs rs ((rows.length:Int)+1))).getD j []])) →
  ∀ p H',H p=none→Same H H'→H' p=some (.lst (((prsB (zao hs rs ((rows.length:Int)+1))).getD i []).map V.int))→Q (.ref p) H'
theorem zdh (T:Txt K mg t):FnOk P w K mg base CX0 20 t.f_17 t.d_17 ["papers","readers","rows"] (zb4 K):=by
 have G_18:=zgY (P:=P) (w:=w) (base:=base) T;have G_1:=zc7 (P:=P) (w:=w) (base:=base) T;have G_19:=zgq (P:=P) (w:=w) (base:=base) T;refine T.F_17.ok sc_17 (fun _ _ _ _ h=>h.1) fun cdv A outer s H vs Q E hr h=>by
  refine ⟨_,(zac (zaE (i:=3) sc_17.nd rfl (Or.inl rfl) (zay (op_addG) (zai (zak (K:=K) rfl) (by rfl) T.z_len (by rfl) (zaa (pv 2) pa_nil)) zae))
   (zac (za7 PassesOwn.never rfl (zaB (K:=K) rfl (zaq G_18 (hr.mono (by decide)) (by rfl) T.m_18 T.F_18.kp T.b_18 .nil zaD (zaa (zaq G_1 (hr.mono (by decide)) (by rfl) T.m_1 T.F_1.kp T.b_1 .nil zaD (zaa (pv 0) (zaa (pv 1) (zaa (pv 3) pa_nil)))) pa_nil))) (zap (i:=4) sc_17.nd rfl (Or.inl rfl))
   (zad (zaX (zaF (K:=K) rfl (zaq G_19 (hr.mono (by decide)) (by rfl) T.m_19 T.F_19.kp T.b_19 .nil zaD (zaa (pv 0) (zaa (pv 1) (zaa (zay (op_addG) (pv 2) (zaL (zaa (pv 4) pa_nil))) pa_nil)))) (fun _=>rfl))
   (zad (zaj (pv 4))) pss_nil)))
   (zad (zaj zb5)))),?_⟩
  obtain ⟨_,a,b,c,hs,rs,rows,ps,rfl,ha,L,hc,hpl,hpr,B,P,hl,q0,q1⟩:=h;have B1:=B.lp;have B2:=B.lr;symm;refine zdA ha L (by omega) (by omega) (by omega) B.r2 fun p1 H1 f1 s1 e1=>?_;have el:(ps.length:Int)+1=(rows.length:Int)+1:=by omega
  rw [el] at e1 ⊢;have hrl:=znP hs rs ((rows.length:Int)+1);symm;refine zid (SqL.of e1) (by omega) fun p2 H2 R2=>?_;have hP:∀ r∈prsB (zao hs rs ((rows.length:Int)+1)),zcj rs (hs.getD rows.length 0) r=true:=fun r hr=>zej.mp hr;generalize prsB (zao hs rs ((rows.length:Int)+1))=Pr at *;obtain ⟨s2,f2,ps2,e2,l2,nd2,r2⟩:=id R2;have s12:=s1.trans s2;refine zaO (SqL.of e2) ?_;refine zdb (xs:=ps2.map V.ref) (fun i σ H'=>Same H2 H'∧(∃ v,σ=[some (.ref a),some (.ref b),some (.ref c),some (.int ((rows.length:Int)+1)),v])∧∀ j,j < i→¬Ext hs rs (rows++[Pr.getD j []])) ⟨Same.refl _,⟨none,rfl⟩,fun j hj=>absurd hj (by omega)⟩ ?_ ?_ ?_
  ·rintro i σ H' _ ⟨s,_,_⟩;exact SqL.of (s _ _ e2)
  ·rintro i x σ H' hx ⟨s,⟨v,rfl⟩,h0⟩;obtain ⟨hi,rfl⟩:=ziT hx;obtain ⟨g1,g2,g3⟩:=r2 i (by omega);have sH:=s12.trans s;have hc':=sH _ _ hc;have hrow:=s _ _ g1;have hpair:=hP _ (getD_mem (d:=[]) (show i < Pr.length by omega));symm;refine zau (by simp) fun p3 H3 f3 s3 e3=>?_;refine zco (s3 _ _ hc') e3 (by rw [List.length_map];simp only [List.length_cons,List.length_nil];omega) fun p4 H4 f4 s4 e4=>?_;have s24:=s3.trans s4;have sH4:=sH.trans s24;symm;have L4:LL K H4 p4 (rows++[Pr.getD i []]):=LL.push (q:=ps2.getD i 0) e4 hpl (s24 _ _ hrow) fun j hj=>sH4 _ _ (hpr j hj);refine zg2 (sH4.seq ha) (L.same sH4) L4 B (zfn P hl hpair) (fun hx H5 s5=>?_) (fun hx H5 s5=>?_)
   ·symm;refine iteT ?_;symm;exact q1 i (by omega) hx h0 _ _ (s1.free g2) (sH4.trans s5) (s5 _ _ (s24 _ _ hrow))
   ·symm;refine iteF ?_;symm;refine ⟨(s.trans s24).trans s5,⟨_,rfl⟩,fun j hj=>?_⟩
    by_cases e:j=i
    ·subst e;exact hx
    ·exact h0 j (by omega)
  ·rintro σ H' ⟨s,⟨v,rfl⟩,h0⟩;symm;refine q0 (fun r hr=>?_) _ (s12.trans s);obtain ⟨j,hj,rfl⟩:=mem_getD (d:=[]) hr;exact h0 j (by rw [List.length_map];omega)
theorem zdD {H:Hp} {Q:VK} {E:XK} {a b c:Addr} {hs:List Int} {rs rows:List (List Int)} {ps:List Addr} (h1:SqL K H a (hs.map V.int)) (h2:LL K H b rs) (h3:H c=some (.lst (ps.map V.ref))) (h4:ps.length=rows.length) (h5:∀ i,i < rows.length→H (ps.getD i 0)=some (.lst ((rows.getD i []).map V.int))) (B:InB hs rs) (P:zcf hs rs rows) (hl:rows.length < hs.length)
  (q0:(∀ r∈prsB (zao hs rs ((rows.length:Int)+1)),¬Ext hs rs (rows++[r]))→∀ H',Same H H'→Q .non H')
  (q1:∀ i,i < (prsB (zao hs rs ((rows.length:Int)+1))).length→Ext hs rs (rows++[(prsB (zao hs rs ((rows.length:Int)+1))).getD i []])→(∀ j,j < i→¬Ext hs rs (rows++[(prsB (zao hs rs ((rows.length:Int)+1))).getD j []])) →
   ∀ p H',H p=none→Same H H'→H' p=some (.lst (((prsB (zao hs rs ((rows.length:Int)+1))).getD i []).map V.int))→Q (.ref p) H'):zb4 K [.ref a,.ref b,.ref c] H Q E:=⟨rfl,a,b,c,hs,rs,rows,ps,rfl,h1,h2,h3,h4,h5,B,P,hl,q0,q1⟩
def zcC (K:PySem.W.Frag):Sp:=fun vs H Q _=>vs.length=2∧∃ (a b:Addr) (hs:List Int) (rs:List (List Int)),vs=[.ref a,.ref b]∧SqL K H a (hs.map V.int)∧LL K H b rs∧InB hs rs∧(zaZ hs rs none→∀ H',Same H H'→Q .non H')∧∀ rows,zaZ hs rs (some rows)→∀ p H',RowsAt H p rows H'→Q (.ref p) H'
theorem zd7 (T:Txt K mg t):FnOk P w K mg base CX0 21 t.f_16 t.d_16 ["papers","readers"] (zcC K):=by
 have G_17:=zdh (P:=P) (w:=w) (base:=base) T;refine T.F_16.ok sc_16 (fun _ _ _ _ h=>h.1) fun cdv A outer s H vs Q E hr h=>by
  refine ⟨_,(zac (zaE (i:=2) sc_16.nd rfl (Or.inl rfl) (zaL pa_nil))
   (zac (zhc PassesOwn.never (zat (op_lt) (zai (zak (K:=K) rfl) (by rfl) T.z_len (by rfl) (zaa (pv 2) pa_nil)) (zai (zak (K:=K) rfl) (by rfl) T.z_len (by rfl) (zaa (pv 0) pa_nil)) (zaC _))
   (zac (zaE (i:=3) sc_16.nd rfl (Or.inl rfl) (zaq G_17 (hr.mono (by decide)) (by rfl) T.m_17 T.F_17.kp T.b_17 .nil zaD (zaa (pv 0) (zaa (pv 1) (zaa (pv 2) pa_nil)))))
   (zac (zaX (zat (op_isNN) (pv 3) zb5 (zaC _))
   (zad (zaj zb5)) pss_nil)
   (zad (zaV (zbr (K:=K) rfl PySem.F.plainAttrs_list PySem.F.slot_list_append PySem.F.type_list_append mt_append (pv 2) (zaa (pv 3) pa_nil)))))))
   (zad (zaj (pv 2))))),?_⟩
  obtain ⟨_,a,b,hs,rs,rfl,ha,L,B,q0,q1⟩:=h;have B1:=B.lp;symm;refine zau (by decide) fun p1 H1 f1 s1 e1=>?_;symm;refine ⟨fun n σ H'=>∃ rows v,σ=[some (.ref a),some (.ref b),some (.ref p1),v]∧RowsAt H p1 rows H'∧rows.length+n=hs.length∧zcf hs rs rows∧(rows=[]∨Ext hs rs rows)∧∀ full,zaR hs rs full=true→nbB rows full=true,⟨hs.length,[],none,rfl,RowsAt.start f1 s1 e1,by simp,⟨by simp,fun k hk=>absurd hk (by simp)⟩,.inl rfl,fun full _=>rfl⟩,?_⟩;rintro n σ H' ⟨rows,v,rfl,R,hn,P,hx,hb⟩;obtain ⟨sR,fR,ps,eR,lR,ndR,rR⟩:=id R;have ha':=sR.seq ha;symm;refine zbL (fun hlt=>?_) (fun hge=>?_)
  ·refine ⟨fun σ H''=>∃ rows v,σ=[some (.ref a),some (.ref b),some (.ref p1),v]∧RowsAt H p1 rows H''∧rows.length+(n-1)=hs.length∧zcf hs rs rows∧(rows=[]∨Ext hs rs rows)∧∀ full,zaR hs rs full=true→nbB rows full=true,?_,?_⟩
   ·rintro σ' H'' ⟨rows',v',h1,h2,h3,h4⟩;exact ⟨n-1,by omega,rows',v',h1,h2,h3,h4⟩
   ·symm;refine zdD ha' (L.same sR) eR lR (fun i hi=>(rR i hi).1) B P (by omega) (fun hno H2 s2=>?_) (fun i hi hxi h0 p2 H2 f2 s2 e2=>?_)
    ·symm;refine iteT ?_;symm;have hne:=zif (by omega) hno;refine q0 (fun rows'=>?_) _ (sR.trans s2);rcases hx with hx | hx
     ·subst hx;rw [Bool.eq_false_iff];intro z;exact hne ⟨rows',z⟩
     ·exact absurd hx hne
    ·have hpair:=zej.mp (getD_mem (d:=[]) hi);have hst:=zig P (by omega) hi h0 hb;symm;refine iteF ?_;generalize (prsB (zao hs rs ((rows.length:Int)+1))).getD i []=row at *;have eR2:=s2 _ _ eR;symm;refine zaW (s2 _ _ eR) (by rw [List.length_map];omega) fun H3 b3 e3=>?_;symm;exact ⟨rows++[row],_,rfl,R.push f2 s2 e2 (s2 _ _ eR) b3 e3,by rw [List.length_append,List.length_singleton];omega,zfn P (by omega) hpair,.inr hxi,hst⟩
  ·have hlen:rows.length=hs.length:=by omega
   symm;refine q1 rows ⟨?_,hb⟩ _ _ R;rcases hx with hx | ⟨more,hm⟩
   ·subst hx;refine zbh.mpr ⟨hlen,fun k hk=>?_,fun k hk=>?_⟩
    ·rw [← hlen] at hk;simp at hk
    ·have:=(B.rl k hk).1;show ((0:Nat):Int)≤_;simpa using this
   ·have h1:=(zbh.mp hm).1;rw [List.length_append] at h1;have:more=[]:=List.eq_nil_of_length_eq_zero (by omega);rw [this,List.append_nil] at hm;exact hm
theorem zeT {H:Hp} {a b:Addr} {hs:List Int} {rs:List (List Int)} {Q:VK} {E:XK} (h1:SqL K H a (hs.map V.int)) (h2:LL K H b rs) (h4:InB hs rs) (q0:zaZ hs rs none→∀ H',Same H H'→Q .non H') (q1:∀ rows,zaZ hs rs (some rows)→∀ p H',RowsAt H p rows H'→Q (.ref p) H'):zcC K [.ref a,.ref b] H Q E:=⟨rfl,a,b,hs,rs,rfl,h1,h2,h4,q0,q1⟩
def zdY (K:PySem.W.Frag) (C:Addr) (xa:XAd):Sp:=fun vs H Q E=>vs.length=1∧∃ (x:Addr) (F:Addr→Prop) (st:ExS),vs=[.ref x]∧ExAt C H x F st∧InB st.hs st.rs∧(st.dl.isSome=true→E (.ref xa.OutOfTime) none H)∧(st.dl=none→zaZ st.hs st.rs none→∀ H',Same H H'→Q (.bl false) H')∧(st.dl=none→∀ rows,zaZ st.hs st.rs (some rows)→∀ H' F',ExFr H H' F F'→ExAt C H' x F' { st with dl:=some (rows,[]) }→Q (.bl true) H')
theorem zgr (T:Txt K mg t):FnOk P w K mg base (CX1 P w) 22 t.f_34 t.d_34 ["self"] (zdY K t.C_Exam t.xa):=by
 have G_45:=zaI (P:=P) (w:=w) (base:=base) T;have G_16:=zd7 (P:=P) (w:=w) (base:=base) T;refine T.F_34.okX sc_34 (fun _ _ _ _ h=>h.1) fun cdv A outer s H vs Q E hr h=>by
  refine ⟨_,(zac (zaV (zbG (pv 0) T.cl_Exam T.me_45 G_45 (hr.mono (by decide)) T.b_45 .nil passX))
   (zac (zaE (i:=1) sc_34.nd rfl (Or.inl rfl) (zaq G_16 (hr.mono (by decide)) (by rfl) T.m_16 T.F_16.kp T.b_16 .nil zaD (zaa (zaG (K:=K) rfl (pv 0)) (zaa (zaG (K:=K) rfl (pv 0)) pa_nil))))
   (zac (zaX (zat (op_isNN) (pv 1) zb5 (zaC _))
   (zad (zaj zbJ)) pss_nil)
   (zac (zbF (K:=K) rfl (pv 0) zbJ)
   (zac (zbF (K:=K) rfl (pv 0) (pv 1))
   (zac (zbF (K:=K) rfl (pv 0) (zaN (zah (sc:=zab s_34) (XN:=["self","rows"]) (N:=["row"]) (own:=1) (js:=[]) rfl rfl (by decide +kernel)) rfl (zaB (K:=K) rfl (pv 1)) (fun _ _ _ _ _=>(zap (i:=0) (show List.Nodup [(Str.ofString "row")] by decide +kernel) rfl (Or.inl rfl))) (fun _ _ _ _ _=>zaT) (fun _ _ _ _ _=>pe_dnewK)))
   (zad (zaj zbJ)))))))),?_⟩
  obtain ⟨_,x,F,st,rfl,E0,BB,qe,q0,q1⟩:=h;have B1:=BB.lp;have B2:=BB.lr;have E0':=E0;walk_at "hd";have L:LL K H e.b st.rs:=⟨e.ps,SqL.of hhb,I.lp,I.rp⟩
  symm;refine za4 E0' (fun hd=>?_) qe;have q0:=q0 hd;have q1:=q1 hd;symm;refine zeT (SqL.of hha) L BB (fun F0 H1 s1=>?_) (fun rows F1 p H1 R1=>?_)
  ·symm;rw [decide_eq_true (rfl:V.non=V.non)];refine iteT ?_;symm;exact q0 F0 H1 s1
  ·have hrt:zaR st.hs st.rs rows=true:=F1.1;have hrl:=(zbh.mp hrt).1;obtain ⟨psr,hpr,hlr,_⟩:=R1.rows;symm;rw [decide_eq_false (show ¬V.ref p=V.non by intro z;cases z)];refine iteF ?_;have x1:=R1.same _ _ hob;have xp:p≠e.x:=(zag hob R1.new).symm;symm;refine za6 x1 hcl nD (show 6 < 1000 by decide) fun H2 b2 x2=>?_;rw [exFs_pd] at x2;symm;refine za6 x2 hcl nC (show 6 < 1000 by decide) fun H3 b3 x3=>?_;rw [exFs_pc] at x3;have hp3:H3 p=some (.lst (psr.map V.ref)):=by rw [b3 _ xp,b2 _ xp];exact hpr
   symm;refine zaO (SqL.of hp3) ?_;refine zbH (zhX (zbP.one (zaU (SqL.of hp3))) (by rw [List.length_map];omega) rfl fun d ds H4 f4 s4 e4 l4 nd4 hd4=>?_);rw [List.length_map,hlr] at l4;rw [List.length_map,hlr] at hd4;have x4:=s4 _ _ x3;symm;refine za6 x4 hcl nE (show 6 < 1000 by decide) fun H5 b5 x5=>?_;rw [exFs_pe] at x5;have xd:d≠e.x:=(zag x3 f4).symm;have kk:∀ b o,H1 b=some o→b≠e.x→H5 b=some o:=fun b o eb nb=>by
    rw [b5 _ nb];refine s4 _ _ ?_;rw [b3 _ nb,b2 _ nb];exact eb
   have n1:∀ b,H3 b=none→H1 b=none:=fun b eb=>by
    cases h1:H1 b with
    | none=>rfl
    | some o =>
      by_cases nb:b=e.x
      ·rw [nb,x3] at eb;cases eb
      ·rw [b3 _ nb,b2 _ nb,h1] at eb;cases eb
   have nx4:∀ i,i < rows.length→ds.getD i 0≠e.x:=fun i hi z=>by have:=(hd4 i hi).2.1;rw [z,x3] at this;cases this
   obtain ⟨e',hx',I',fp'⟩:=I.deal (H5:=H5) (p:=p) (q:=d) (rows:=rows) (ds:=ds) hrt R1 kk x5 (by rw [b5 _ xd];exact e4) (n1 _ f4) l4 nd4 (fun i hi=>⟨by rw [b5 _ (nx4 i hi)];exact (hd4 i hi).1,n1 _ (hd4 i hi).2.1,(hd4 i hi).2.2⟩);symm;refine q1 rows F1 H5 _ ⟨fun b o eb nb=>?_,fun b z=>?_⟩ (hx'▸I'.at)
   ·exact kk b o (R1.same _ _ eb) (fun z=>nb ((hF _).mpr (by rw [z];exact own_x)))
   ·exact (fp' b z).imp (fun z=>(hF b).mpr z) id
theorem zg3 {K:PySem.W.Frag} {xa:XAd} {C x:Addr} {H:Hp} {F:Addr→Prop} {st:ExS} {Q:VK} {E:XK} (h:ExAt C H x F st) (B:InB st.hs st.rs) (qe:st.dl.isSome=true→E (.ref xa.OutOfTime) none H) (q0:st.dl=none→zaZ st.hs st.rs none→∀ H',Same H H'→Q (.bl false) H') (q1:st.dl=none→∀ rows,zaZ st.hs st.rs (some rows)→∀ H' F',ExFr H H' F F'→ExAt C H' x F' { st with dl:=some (rows,[]) }→Q (.bl true) H'):zdY K C xa [.ref x] H Q E:=⟨rfl,x,F,st,rfl,h,B,qe,q0,q1⟩
def zjR (K:PySem.W.Frag) (C:Addr) (xa:XAd):Sp:=fun vs H Q E=>vs.length=3∧∃ (x o:Addr) (F:Addr→Prop) (st:ExS) (a:Act),vs=[.ref x,.str a.head,.ref o]∧(∀ q,a≠.ask q)∧(∀ k r p,a≠.enter k r p)∧H o=some (.lst (a.nums.map V.int))∧ExAt C H x F st∧D32 st∧(∀ i∈a.nums,i.natAbs < 10 ^ 40)∧(∀ f,a.ref st=some f→E (.ref (xa.at f)) none H)∧(∀ r st' H' F',Res st a st' r→ExFr H H' F F'→ExAt C H' x F' st'→Q (.str r) H')
theorem zma (T:Txt K mg t):FnOk P w K mg base (CX1 P w) 23 t.f_56 t.d_56 ["exam","deed","numbers"] (zjR K t.C_Exam t.xa):=by
 have G_31:=zde (P:=P) (w:=w) (base:=base) T;have G_32:=zcY (P:=P) (w:=w) (base:=base) T;have G_33:=zd6 (P:=P) (w:=w) (base:=base) T;have G_35:=zfM (P:=P) (w:=w) (base:=base) T;have G_34:=zgr (P:=P) (w:=w) (base:=base) T;refine T.F_56.okX sc_56 (fun _ _ _ _ h=>h.1) fun cdv A outer s H vs Q E hr h=>by
  refine ⟨_,(zac (zaX (zat (zb8 (K:=K) rfl hr.units0) (pv 1) zaQ (zaC _))
   (zad (zaj (zbx (zbY (K:=K) rfl) (by rfl) T.z_str (by rfl) (zaa (zbV (pv 0) T.cl_Exam T.me_31 G_31 (hr.mono (by decide)) T.b_31 .nil passX (zaa (zaw (zaf (K:=K) rfl) (pv 2) zae (fun _ _=>rfl)) pa_nil)) pa_nil)))) pss_nil)
   (zac (zaX (zat (zb8 (K:=K) rfl hr.units0) (pv 1) zaQ (zaC _))
   (zad (zaj (zbx (zbY (K:=K) rfl) (by rfl) T.z_str (by rfl) (zaa (zbV (pv 0) T.cl_Exam T.me_32 G_32 (hr.mono (by decide)) T.b_32 .nil passX (zaa (zaw (zaf (K:=K) rfl) (pv 2) zae (fun _ _=>rfl)) (zaa (zaw (zaf (K:=K) rfl) (pv 2) zae (fun _ _=>rfl)) pa_nil))) pa_nil)))) pss_nil)
   (zac (zaX (zat (zb8 (K:=K) rfl hr.units0) (pv 1) zaQ (zaC _))
   (zad (zaj (zbx (zbY (K:=K) rfl) (by rfl) T.z_str (by rfl) (zaa (zbV (pv 0) T.cl_Exam T.me_33 G_33 (hr.mono (by decide)) T.b_33 .nil passX (zaa (zaw (zaf (K:=K) rfl) (pv 2) zae (fun _ _=>rfl)) pa_nil)) pa_nil)))) pss_nil)
   (zac (zaX (zat (zb8 (K:=K) rfl hr.units0) (pv 1) zaQ (zaC _))
   (zad (zaj (zbx (zbY (K:=K) rfl) (by rfl) T.z_str (by rfl) (zaa (zbV (pv 0) T.cl_Exam T.me_35 G_35 (hr.mono (by decide)) T.b_35 .nil zaD (zaa (zaw (zaf (K:=K) rfl) (pv 2) zae (fun _ _=>rfl)) (zaa (zaw (zaf (K:=K) rfl) (pv 2) zae (fun _ _=>rfl)) (zaa (zaw (zaf (K:=K) rfl) (pv 2) zae (fun _ _=>rfl)) pa_nil)))) pa_nil)))) pss_nil)
   (zad (zaj (zjV (zaF (K:=K) rfl (zbG (pv 0) T.cl_Exam T.me_34 G_34 (hr.mono (by decide)) T.b_34 .nil passX) (fun _=>rfl)) zaQ zaQ))))))),?_⟩
  obtain ⟨_,x,o,F,st,a,rfl,hq,he,eo,E0,DD,hbd,qe,q⟩:=h;have BB:=DD.inb;have B1:=BB.lp;have B2:=BB.lr;obtain ⟨dx,fs,hob,hlk⟩:=E0.ob
  cases a with
  | ask qn=>exact absurd rfl (hq qn)
  | enter k r p=>exact absurd rfl (he k r p)
  | bring d =>
    cases d with
    | paper h =>
      have eo:H o=some (.lst [.int h]):=eo;rw [show (Act.bring (Dd.paper h)).head=Str.ofString "paper" from rfl];walk_at "rds";refine za0 hob (hlk _ (by decide +kernel)) ?_;symm;refine zdz E0 BB (fun f hf=>qe f hf) (fun hn H' F' fr E'=>?_);obtain ⟨z1,z2⟩:=zey (d:=.paper h) hn;symm;refine zfi (by omega) ?_;have:=q _ _ H' F' (.bring (.paper h)) fr (by rw [z2];exact E');rw [z1] at this;exact this
    | reader h l =>
      have eo:H o=some (.lst [.int h,.int l]):=eo;rw [show (Act.bring (Dd.reader h l)).head=Str.ofString "reader" from rfl];walk_at "rds";refine za0 hob (hlk _ (by decide +kernel)) ?_;symm;refine zdf E0 BB (fun f hf=>qe f hf) (fun hn H' F' fr E'=>?_);obtain ⟨z1,z2⟩:=zey (d:=.reader h l) hn;symm;refine zfi (by omega) ?_;have:=q _ _ H' F' (.bring (.reader h l)) fr (by rw [z2];exact E');rw [z1] at this;exact this
    | step s =>
      have eo:H o=some (.lst [.int s]):=eo;rw [show (Act.bring (Dd.step s)).head=Str.ofString "step" from rfl];walk_at "rds";refine za0 hob (hlk _ (by decide +kernel)) ?_;symm;refine zeR E0 BB (fun f hf=>qe f hf) (fun hn H' F' fr E'=>?_);obtain ⟨z1,z2⟩:=zey (d:=.step s) hn;symm;refine zfi (hbd s (by simp [Act.nums,Dd.nums])) ?_;have:=q _ _ H' F' (.bring (.step s)) fr (by rw [z2];exact E');rw [z1] at this;exact this
  | deal =>
    walk_at "rds";refine za0 hob (hlk _ (by decide +kernel)) ?_;symm;refine zg3 E0 BB (fun hd=>qe .time (if_pos hd)) (fun hd F0 H' s'=>?_) (fun hd rows F1 H' F' fr E'=>?_)
    ·walk_at "rds";exact q _ _ H' F (.no hd F0) (ExFr.of_same s') (E0.same s')
    ·walk_at "rds";exact q _ _ H' F' (.yes hd F1) fr E'
theorem znQ {xa:XAd} {C x o:Addr} {H:Hp} {F:Addr→Prop} {st:ExS} {a:Act} {Q:VK} {E:XK} (hq:∀ q,a≠.ask q) (he:∀ k r p,a≠.enter k r p) (eo:H o=some (.lst (a.nums.map V.int))) (h:ExAt C H x F st) (D:D32 st) (hb:∀ i∈a.nums,i.natAbs < 10 ^ 40) (qe:∀ f,a.ref st=some f→E (.ref (xa.at f)) none H) (q:∀ r st' H' F',Res st a st' r→ExFr H H' F F'→ExAt C H' x F' st'→Q (.str r) H'):zjR K C xa [.ref x,.str a.head,.ref o] H Q E:=⟨rfl,x,o,F,st,a,rfl,hq,he,eo,h,D,hb,qe,q⟩
def zce (K:PySem.W.Frag) (C:Addr):Sp:=fun vs H Q _=>vs.length=3∧∃ (x o:Addr) (F:Addr→Prop) (st:ExS) (a:Act),vs=[.ref x,.str a.head,.ref o]∧(∀ q,a≠.ask q)∧(∀ k r p,a≠.enter k r p)∧H o=some (.lst (a.nums.map V.int))∧ExAt C H x F st∧D32 st∧(∀ i∈a.nums,i.natAbs < 10 ^ 40)∧∀ r st' H' F',Res st a st' r→ExFr H H' F F'→ExAt C H' x F' st'→Q (.str r) H'
theorem zdE (T:Txt K mg t):FnOk P w K mg base CX0 24 t.f_55 t.d_55 ["exam","deed","numbers"] (zce K t.C_Exam):=by
 have G_56:=zma (P:=P) (w:=w) (base:=base) T;refine T.F_55.ok sc_55 (fun _ _ _ _ h=>h.1) fun cdv A outer s H vs Q E hr h=>by
  refine ⟨_,(zad (znx ⟨rfl,rfl⟩ (fun xe pn=>(zad (zaj (zky G_56 (hr.mono (by decide)) (by rfl) T.m_56 T.F_56.kp T.b_56 (zaa (pv 0) (zaa (pv 1) (zaa (pv 2) pa_nil)))))))
   (zex (fun _ _ z=>z) (by rfl) T.mx_OutOfTime (fun _=>(zad (zaj zaQ)))
   (zex (fun _ _ z=>z) (by rfl) T.mx_UnknownNumber (fun _=>(zad (zaj zaQ)))
   (zex (fun _ _ z=>z) (by rfl) T.mx_NotDue (fun _=>(zad (zaj zaQ)))
   (zex (fun _ _ z=>z) (by rfl) T.mx_OutOfBounds (fun _=>(zad (zaj zaQ)))
   (zex (fun _ _ z=>z) (by rfl) T.mx_Full (fun _=>(zad (zaj zaQ)))
   ph_nil))))))),?_⟩
  obtain ⟨_,x,o,F,st,a,rfl,hq,he,eo,E0,DD,hbd,q⟩:=h;symm;refine zoh fun xe pn hxe=>?_;symm;refine znQ hq he eo E0 DD hbd (fun f hf=>hxe _ _ _ ?_) (fun r st' H' F' hR fr E'=>?_)
  ·have q:=q _ _ H F (Res.of_ref he hf) (ExFr.of_same (Same.refl _)) E0
   cases f
   ·refine zkz T.x_OutOfTime_OutOfTime ?_;symm;exact q
   ·refine zgc T.x_UnknownNumber_OutOfTime (zkz T.x_UnknownNumber_UnknownNumber ?_);symm;exact q
   ·exact absurd hf znD
   ·refine zgc T.x_OutOfBounds_OutOfTime (zgc T.x_OutOfBounds_UnknownNumber (zgc T.x_OutOfBounds_NotDue (zkz T.x_OutOfBounds_OutOfBounds ?_)));symm;exact q
   ·refine zgc T.x_Full_OutOfTime (zgc T.x_Full_UnknownNumber (zgc T.x_Full_NotDue (zgc T.x_Full_OutOfBounds (zkz T.x_Full_Full ?_))));symm;exact q
  ·symm;exact q _ _ H' F' hR fr E'
theorem zdR {C x o:Addr} {H:Hp} {F:Addr→Prop} {st:ExS} {a:Act} {Q:VK} {E:XK} (hq:∀ q,a≠.ask q) (he:∀ k r p,a≠.enter k r p) (eo:H o=some (.lst (a.nums.map V.int))) (h:ExAt C H x F st) (D:D32 st) (hb:∀ i∈a.nums,i.natAbs < 10 ^ 40) (q:∀ r st' H' F',Res st a st' r→ExFr H H' F F'→ExAt C H' x F' st'→Q (.str r) H'):zce K C [.ref x,.str a.head,.ref o] H Q E:=⟨rfl,x,o,F,st,a,rfl,hq,he,eo,h,D,hb,q⟩
def zdZ (K:PySem.W.Frag) (C:Addr):Sp:=fun vs H Q _=>vs.length=2∧∃ (x:Addr) (r:Str) (F:Addr→Prop) (st:ExS) (a:Act),vs=[.ref x,.str r]∧RowT r a.words∧(∀ k r p,a≠.enter k r p)∧ExAt C H x F st∧D32 st∧(∀ i∈a.nums,i.natAbs < 10 ^ 40)∧∀ r st' H' F',Res st a st' r→ExFr H H' F F'→ExAt C H' x F' st'→Q (.str r) H'
theorem zgs (T:Txt K mg t):FnOk P w K mg base CX0 25 t.f_54 t.d_54 ["exam","row"] (zdZ K t.C_Exam):=by
 have G_57:=zic (P:=P) (w:=w) (base:=base) T;have G_55:=zdE (P:=P) (w:=w) (base:=base) T;refine T.F_54.ok sc_54 (fun _ _ _ _ h=>h.1) fun cdv A outer s H vs Q E hr h=>by
  refine ⟨_,(zac (zaE (i:=2) sc_54.nd rfl (Or.inl rfl) (zbr (K:=K) rfl PySem.F.plainAttrs_str PySem.F.slot_str_split PySem.F.type_str_split mt_split (pv 1) (zaa zaQ pa_nil)))
   (zac (zaX (zat (zew (K:=K) rfl (zeX hr)) (zaw (zaf (K:=K) rfl) (pv 2) zae (fun _ _=>rfl)) (zcF (v:=.ref t.q_QUESTIONS) (by rfl) T.v_QUESTIONS rfl) (by with_unfolding_all rfl))
   (zad (zaj (zaq G_57 (hr.mono (by decide)) (by rfl) T.m_57 T.F_57.kp T.b_57 .nil zaD (zaa (pv 0) (zaa (zaw (zaf (K:=K) rfl) (pv 2) zae (fun _ _=>rfl)) pa_nil))))) pss_nil)
   (zac (zbT (i:=3) sc_54.nd rfl (Or.inl rfl) (by rfl) (zah (sc:=zab s_54) (XN:=["exam","row","words","numbers"]) (N:=["word"]) (own:=1) (js:=[]) rfl rfl (by decide +kernel)) rfl (zaB (K:=K) rfl (zcU (zcV (K:=K) rfl) (pv 2) (zdH zae) po_none)) (fun _ _ _ _ _=>(zap (i:=0) (show List.Nodup [(Str.ofString "word")] by decide +kernel) rfl (Or.inl rfl))) (fun _ _ _ _ _=>zaT) (fun _ _ _ _ _=>(zbx (call_int2K (K:=K)) (by rfl) T.z_int (by rfl) (zaa (pv 0) pa_nil))))
   (zad (zaj (zaq G_55 (hr.mono (by decide)) (by rfl) T.m_55 T.F_55.kp T.b_55 .nil zaD (zaa (pv 0) (zaa (zaw (zaf (K:=K) rfl) (pv 2) zae (fun _ _=>rfl)) (zaa (pv 3) pa_nil))))))))),?_⟩
  obtain ⟨_,x,r,F,st,a,rfl,hr',he,E0,DD,hbd,q⟩:=h;have hl:=hr'.2.2.2.2;symm;refine zdL (by decide +kernel) (by rw [sizeLine_eq];omega) fun l H1 f1 s1 e1=>?_;rw [hr'.split,Act.words_eq] at e1;have e1:H1 l=some (.lst (.str a.head::(a.nums.map tS).map V.str)):=e1;symm;refine zeo (SqL.of e1) zk7 ?_;symm;refine znE (T.sq_QUESTIONS _) rfl (by decide +kernel) ?_;symm
  by_cases hq:∃ qn,a=.ask qn
  ·obtain ⟨qn,rfl⟩:=hq;rw [zkI];refine iteT ?_;symm;exact zjN (E0.same s1) DD fun r2 H2 hR s2=>q _ _ H2 F hR (ExFr.of_same (s1.trans s2)) ((E0.same s1).same s2)
  ·have hq:∀ qn,a≠.ask qn:=fun qn z=>hq ⟨qn,z⟩;rw [zkH hq];refine iteF ?_;symm;refine zbU (SqL.of e1) fun l2 H2 f2 s2 e2=>?_;have e2:H2 l2=some (.lst ((a.nums.map tS).map V.str)):=by rw [e2,zl2]
   refine zaO (SqL.of e2) ?_;refine zfY (zaU (SqL.of e2)) (by rw [List.length_map,List.length_map];exact zkJ a) (fun i=>a.nums.getD i 0) (fun i H' Q' hi s q'=>?_) fun p3 H3 f3 s3 e3=>?_
   ·rw [List.length_map,List.length_map] at hi;have ex:(((a.nums.map tS).map V.str).getD i .non)=.str (tS (a.nums.getD i 0)):=by
     rw [List.map_map,List.getD_eq_getElem?_getD,List.getElem?_map,List.getElem?_eq_getElem hi,List.getD_eq_getElem?_getD,List.getElem?_eq_getElem hi];rfl
    rw [ex];show (_:TE) (some (.str _)::_) _ _;symm;exact znB (hbd _ (getD_mem hi)) q'
   rw [List.length_map,List.length_map,zbi] at e3;have s13:=(s1.trans s2).trans s3;symm;refine zeo (SqL.of (s3 _ _ (s2 _ _ e1))) zk7 ?_;symm;exact zdR hq he e3 (E0.same s13) DD hbd fun r2 st' H' F' hR fr E'=>q _ _ H' F' hR ((ExFr.of_same s13).trans fr) E'
theorem zg4 {C x:Addr} {r:Str} {H:Hp} {F:Addr→Prop} {st:ExS} {a:Act} {Q:VK} {E:XK} (hr:RowT r a.words) (he:∀ k r p,a≠.enter k r p) (h:ExAt C H x F st) (D:D32 st) (hb:∀ i∈a.nums,i.natAbs < 10 ^ 40) (q:∀ r st' H' F',Res st a st' r→ExFr H H' F F'→ExAt C H' x F' st'→Q (.str r) H'):zdZ K C [.ref x,.str r] H Q E:=⟨rfl,x,r,F,st,a,rfl,hr,he,h,D,hb,q⟩
def zfo (K:PySem.W.Frag) (C:Addr):Sp:=fun vs H Q _=>vs.length=1∧∃ (l:Addr) (rows:List Str) (as:List Act) (P:Nat→ExS→Prop),vs=[.ref l]∧H l=some (.lst (rows.map V.str))∧rows.length≤1000∧za8 rows as∧P 0 ⟨[],[],0,none⟩∧(∀ i st,i < as.length→P i st→D32 st)∧(∀ i st st' r,i < as.length→P i st→Res st (as.getD i .deal) st' r→P (i+1) st')∧∀ p H' an st,Same H H'→an.length=as.length→RunR ⟨[],[],0,none⟩ as an st→H' p=some (.lst (an.map V.str))→Q (.ref p) H'
theorem zih (T:Txt K mg t):FnOk P w K mg base CX0 26 t.f_53 t.d_53 ["rows"] (zfo K t.C_Exam):=by
 have G_30:=zd3 (P:=P) (w:=w) (base:=base) T;have G_54:=zgs (P:=P) (w:=w) (base:=base) T;refine T.F_53.ok sc_53 (fun _ _ _ _ h=>h.1) fun cdv A outer s H vs Q E hr h=>by
  refine ⟨_,(zac (zaE (i:=1) sc_53.nd rfl (Or.inr rfl) (zj2 T.mk_Exam G_30 (hr.mono (by decide)) (by rfl) T.mg_Exam T.b_30 .nil zaD))
   (zad (zaj (zaN (zah (sc:=zab s_53) (XN:=["rows","exam"]) (N:=["row","exam"]) (own:=1) (js:=[1]) rfl rfl (by decide +kernel)) rfl (zaB (K:=K) rfl (pv 0)) (fun _ _ _ _ _=>(zap (i:=0) (show List.Nodup [(Str.ofString "row"),(Str.ofString "exam")] by decide +kernel) rfl (Or.inl rfl))) (fun _ _ _ _ _=>zaT) (fun _ _ _ _ _=>(zaq G_54 (hr.mono (by decide)) (by rfl) T.m_54 T.F_54.kp T.b_54 .nil zaD (zaa (pv 1) (zaa (pv 0) pa_nil)))))))),?_⟩
  obtain ⟨_,l,rows,as,P,rfl,el,hl,R,P0,PD,PS,q⟩:=h;have hlen:=R.len;symm;refine zf8 fun x dx H1 fx fdx ne s1 ex=>?_;refine zgP ex fun H2 F k2 fF E2=>⟨rfl,?_⟩
  have S2:Same H H2:=fun c o e=>k2 c o (s1 c o e) (fun z=>by rw [z,fx] at e;cases e) (fun z=>by rw [z,fdx] at e;cases e);have nF:∀ c o,H c=some o→¬F c:=fun c o e z=>by
   rcases fF c z with z | z | z
   ·rw [z,fx] at e;cases e
   ·rw [z,fdx] at e;cases e
   ·rw [s1 c o e] at z;cases z
  have el2:=S2 _ _ el;obtain ⟨Hr,elr,hrl⟩:∃ Hr:Hp,Hr l=some (.lst (rows.map V.str))∧∀ b o,Hr b=some o→b=l:=⟨fun b=>if b=l then H2 l else none,by show (if l=l then H2 l else none)=_;rw [if_pos rfl];exact el2,fun b o e=>Classical.byContradiction fun z=>by have e:(if b=l then H2 l else none)=some o:=e;rw [if_neg z] at e;cases e⟩
  symm;refine zaO (SqL.of el2) ?_;refine zbH (zkF (zbP.one (zaU (SqL.of elr))) (show (rows.map V.str).length≤1000 by rw [List.length_map];exact hl) (fun i p ys J=>∃ (F':Addr→Prop) (st:ExS) (an:List Str),Kp H (fun _=>False) J F'∧ExAt t.C_Exam J x F' st∧ys=an.map V.str∧an.length=i∧RunR ⟨[],[],0,none⟩ as an st∧P i st∧¬F' p∧H p=none) ?_ ?_ ?_ ?_ ?_)
  ·intro p J hp s hpp;exact ⟨F,_,[],fun c u e _=>⟨s _ _ (S2 _ _ e),nF c u e⟩,E2.same s,rfl,rfl,.nil,P0,E2.new hp,S2.free hp⟩
  ·rintro i p ys J ⟨F',st,an,K1,_⟩ b o e;have hb:=hrl b o e;subst hb;rw [elr] at e
   cases e
   exact (K1 _ _ el id).1
  ·rintro i p ys J J2 ⟨F',st,an,K1,E1,hys,hal,hR,hP,nFp,hpn⟩ s;exact ⟨F',st,an,K1.same s,E1.same s,hys,hal,hR,hP,nFp,hpn⟩
  ·rintro p ys i J Q' hi hp hlen' ⟨F',st,an,K1,E1,hys,hal,hR,hP,nFp,hpn⟩ cont;rw [List.length_map] at hi;have hia:i < as.length:=by omega
   have ex:(rows.map V.str).getD i .non=V.str (rows.getD i ""):=by
    rw [List.getD_eq_getElem?_getD,List.getElem?_map,List.getElem?_eq_getElem hi,List.getD_eq_getElem?_getD,List.getElem?_eq_getElem hi];rfl
   rw [ex];show (_:TE) (some (.str (rows.getD i ""))::some (.ref x)::_) _ _;have DD:=PD i st hia hP;symm;refine zg4 (R.row i hia) (R.ne i hia) E1 DD (R.bd i hia) fun r st' J2 F2 hres fr E2'=>?_;have nF2p:¬F2 p:=fun z=>(fr.fp p z).elim nFp fun y=>by rw [hp] at y;cases y
   refine cont _ J2 (fr.kp _ _ hp nFp) fun J3 b3 e3=>⟨F2,st',an++[r],fun c u e _=>⟨?_,((K1.fr fr) c u e id).2⟩,?_,?_,?_,hR.push (by omega) (by rw [hal];exact hres),PS i st st' r hia hP hres,nF2p,hpn⟩
   ·rw [b3 _ (fun z=>by rw [z,hpn] at e;cases e)];exact ((K1.fr fr) c u e id).1
   ·exact E2'.keep fun c o hc e=>by rw [b3 c (fun z=>nF2p (z▸hc))];exact e
   ·rw [hys,List.map_append];rfl
   ·rw [List.length_append,hal];rfl
  ·rintro p vs J2 hp hlen' ⟨F',st,an,K1,E1,hys,hal,hR,hP,nFp,hpn⟩;rw [List.length_map] at hal;subst hys;exact q p J2 an st (fun c u e=>(K1 c u e id).1) (by omega) hR hp
theorem zjS {C l:Addr} {H:Hp} {rows:List Str} {as:List Act} (P:Nat→ExS→Prop) {Q:VK} {E:XK} (el:H l=some (.lst (rows.map V.str))) (hl:rows.length≤1000) (R:za8 rows as) (h0:P 0 ⟨[],[],0,none⟩) (hd:∀ i st,i < as.length→P i st→D32 st) (hs:∀ i st st' r,i < as.length→P i st→Res st (as.getD i .deal) st' r→P (i+1) st') (q:∀ p H' an st,Same H H'→an.length=as.length→RunR ⟨[],[],0,none⟩ as an st→H' p=some (.lst (an.map V.str))→Q (.ref p) H'):zfo K C [.ref l] H Q E:=⟨rfl,l,rows,as,P,rfl,el,hl,R,h0,hd,hs,q⟩
end
end Prf
namespace Prf
open PySem PySem.Spec PyProof.Rows L2
section
variable {P:Program} {w:World} {K:PySem.W.Frag} {mg:Str→Option Value} {base:Heap} {t:Adr}
local macro_rules | `(tactic| walk_at "rd1")=>`(tactic| ((with_reducible refine' zhy ?h1 ?h2 ?_);(case h1=>walk_at "hp");(case h2=>omega)))
local macro_rules | `(tactic| walk_at "rd1")=>`(tactic| (with_reducible refine zk6 ?_))
local macro_rules | `(tactic| walk_at "rd1")=>`(tactic| (with_reducible refine zht ?_))
local macro_rules | `(tactic| walk_at "rd1")=>`(tactic| (with_reducible refine r_fs ?_))
local macro_rules | `(tactic| walk_at "rd1")=>`(tactic| (with_reducible refine r_je ?_))
local macro_rules | `(tactic| walk_at "sz")=>`(tactic| (simp only [zaP,len_emp,sizeLine_eq,ll_paper,ll_reader,ll_step,ll_enter,ll_open,ll_sp,ll_col,ll_plus];omega))
local macro_rules | `(tactic| walk_at "rd1")=>`(tactic| ((with_reducible refine' r_jl ?h1 ?_);(case h1=>walk_at "sz")))
local macro_rules | `(tactic| walk_at "rd1")=>`(tactic| ((with_reducible refine' r_jn ?h1 ?_);(case h1=>walk_at "sz")))
local macro_rules | `(tactic| walk_at "rd1")=>`(tactic| ((with_reducible refine' zjx ?h1 ?h2 ?_);(case h1=>exact zjv (by assumption));(case h2=>walk_at "sz")))
local macro_rules | `(tactic| walk_at "rds")=>`(tactic| repeat (first | walk_at "rd1" | (with_reducible refine iteF ?_) | (with_reducible refine iteT ?_) | (refine zbL (fun h=>absurd h (by decide +kernel)) (fun _=>?_)) | (refine zbL (fun _=>?_) (fun h=>absurd (by decide +kernel) h))))
local macro_rules | `(tactic| walk_at "rd1")=>`(tactic| (with_reducible refine zjq ?_))
local macro_rules | `(tactic| walk_at "rd1")=>`(tactic| (with_reducible refine r_methX ?_))
local macro_rules | `(tactic| walk_at "rd1")=>`(tactic| (with_reducible refine zjp ?_))
local macro_rules | `(tactic| walk_at "rd1")=>`(tactic| (with_reducible refine zht ?_))
def zeU (K:PySem.W.Frag):Sp:=fun vs H Q _=>vs.length=3∧∃ (tt:List (List Int)) (n:Nat),vs=[.str (rowT (dltR tt)),.int tt.length,.int n]∧tt.length≤10∧n≤8∧Eig n tt∧∀ p H',RowsAt H p tt H'→Q (.ref p) H'
theorem zg5 (T:Txt K mg t):FnOk P w K mg base CX0 1 t.f_72 t.d_72 ["_law_text","_law_many","_law_count"] (zeU K):=by
 refine T.F_72.ok sc_72 (fun _ _ _ _ h=>h.1) fun cdv A outer s H vs Q E hr h=>by
  refine ⟨_,(zac (zaE (i:=3) sc_72.nd rfl (Or.inl rfl) (zbr (K:=K) rfl PySem.F.plainAttrs_str PySem.F.slot_str_split PySem.F.type_str_split mt_split (pv 0) (zaa zaQ pa_nil)))
   (zac (zaX (zat (zb8 (K:=K) rfl hr.units0) (pv 1) zae (zaC _))
   (zad (zaj (zaw (zaf (K:=K) rfl) (zaL (zaa (zaL pa_nil) (zaa zb5 pa_nil))) (zbx (zjn (K:=K) rfl) (by rfl) T.z_int (by rfl) (zaa (zdG (zcQ (K:=K) rfl hr.units0) (pv 0) zaQ (zaC _)) pa_nil)) (fun _ _=>rfl)))) pss_nil)
   (zac (zaE (i:=4) sc_72.nd rfl (Or.inl rfl) (zaL pa_nil))
   (zac (za7 PassesOwn.never rfl (za5 (by rfl) T.z_range (zaa (zai (zcW rfl) (by rfl) T.z_min (by rfl) (zaa (pv 1) (zaa (zai (zak (K:=K) rfl) (by rfl) T.z_len (by rfl) (zaa (pv 3) pa_nil)) pa_nil))) pa_nil)) (zap (i:=5) sc_72.nd rfl (Or.inl rfl))
   (zad (za7 PassesOwn.never rfl (zbd (by rfl) T.z_range (zaa zae (zaa (zay (op_addG) (pv 2) zae) pa_nil))) (zap (i:=6) sc_72.nd rfl (Or.inl rfl))
   (zad (za7 PassesOwn.never rfl (zbd (by rfl) T.z_range (zaa zae (zaa (zay (op_addG) (pv 2) zae) pa_nil))) (zap (i:=7) sc_72.nd rfl (Or.inl rfl))
   (zad (zaX (zat (zb8 (K:=K) rfl hr.units0) (zaw (zaf (K:=K) rfl) (pv 3) (pv 5) (fun _ _=>rfl)) (zcg (zbk (zay (op_addG) (pv 5) zae) (zbR (zbk (pv 6) (zbR (zbk (pv 7) pj_nil)))))) (zaC _))
   (zad (zaV (zbr (K:=K) rfl PySem.F.plainAttrs_list PySem.F.slot_list_append PySem.F.type_list_append mt_append (pv 4) (zaa (zaL (zaa (pv 6) (zaa (pv 7) pa_nil))) pa_nil)))) pss_nil)))))))
   (zac (zaX (zeW (zat (zcQ (K:=K) rfl hr.units0) (zai (zak (K:=K) rfl) (by rfl) T.z_len (by rfl) (zaa (pv 4) pa_nil)) (pv 1) (zaC _)) (zdj (zat (zcQ (K:=K) rfl hr.units0) (zai (zak (K:=K) rfl) (by rfl) T.z_len (by rfl) (zaa (pv 3) pa_nil)) (pv 1) (zaC _)))).pt
   (zad (zaj zb5)) pss_nil)
   (zad (zaj (pv 4)))))))),?_⟩
  obtain ⟨_,tt,n,rfl,hl,hn,EG,q⟩:=h
  by_cases h0:tt=[]
  ·subst h0;have e0:rowT (dltR ([]:List (List Int)))=Str.ofString "none":=rfl;rw [e0];symm;refine zdL (by decide +kernel) (by rw [sizeLine_eq];decide +kernel) fun l H1 f1 s1 e1=>?_;symm;refine zbL (fun _=>?_) (fun z=>absurd rfl z);symm;refine zau (by decide) fun p1 H2 f2 s2 e2=>?_;symm;refine zau (by simp) fun p2 H3 f3 s3 e3=>?_;symm;refine zk5 ?_;rw [decide_eq_true rfl];symm;exact q p1 H3 (RowsAt.start (s1.free f2) ((s1.trans s2).trans s3) (s3 _ _ e2))
  have R:=zl8 h0 EG (by omega) hl;have htl:=R.2.2.2.2;have hlp:=List.length_pos_iff.mpr h0;symm;refine zdL (by decide +kernel) (by rw [sizeLine_eq];omega) fun l H1 f1 s1 e1=>?_;rw [R.split] at e1;have hdl:=zfG tt;symm;refine zbL (fun z=>absurd z (by omega)) (fun _=>?_);symm;refine zau (by decide) fun p1 H2 f2 s2 e2=>?_;have np:l≠p1:=zag e1 f2;have e12:=s2 _ _ e1;have hlen:((dltR tt).map V.str).length=tt.length:=by rw [List.length_map];exact hdl
  symm;rw [hlen,if_neg (Int.lt_irrefl _)];refine zci (by omega) (by omega) ?_;refine zbM (fun i σ J=>∃ v5 v6 v7,σ=[some (.str (rowT (dltR tt))),some (.int tt.length),some (.int n),some (.ref l),some (.ref p1),v5,v6,v7]∧RowsAt H1 p1 (tt.take i) J) ⟨none,none,none,rfl,RowsAt.start f2 s2 e2⟩ ?_ ?_
  ·rintro i σ J hi ⟨v5,v6,v7,rfl,RA⟩;have hi:i < tt.length:=by omega
   obtain ⟨h2,⟨a1,a2⟩,b1,b2⟩:=EG i hi;have htk:tt.take (i+1)=tt.take i++[tt.getD i []]:=by
    rw [List.take_add_one,List.getElem?_eq_getElem hi,List.getD_eq_getElem?_getD,List.getElem?_eq_getElem hi];rfl
   have htl2:(tt.take i).length=i:=by rw [List.length_take];omega
   have hpart:(dltR tt).getD i "" = dltT ((i:Int)+1) ((tt.getD i []).getD 0 0) ((tt.getD i []).getD 1 0):=zaz hi;obtain ⟨a,b,eab⟩:=two_of h2;rw [eab] at a1 a2 b1 b2 hpart htk;have a1:1≤a:=a1;have a2:a≤n:=a2;have b1:1≤b:=b1;have b2:b≤n:=b2;have hpart:(dltR tt).getD i "" = dltT ((i:Int)+1) a b:=hpart;have n0:((0:Int)+(i:Int)+1).natAbs < 10 ^ 40:=by omega
   have l0:(Str.ofString (toString ((0:Int)+(i:Int)+1))).length≤41:=za3 n0;rw [htk];symm;refine zcJ ⟨by omega,by omega,by omega,by omega⟩ ?_;refine zbM (fun j σ J'=>∃ v6 v7,σ=[some (.str (rowT (dltR tt))),some (.int tt.length),some (.int n),some (.ref l),some (.ref p1),some (.int (0+(i:Int))),v6,v7]∧RowsAt H1 p1 (tt.take i++(if a≤(j:Int) then [[a,b]] else [])) J') ⟨v6,v7,rfl,by rw [if_neg (by omega),List.append_nil];exact RA⟩ ?_ ?_
   ·rintro j σ J' hj ⟨v6,v7,rfl,RB⟩;have n1:((1:Int)+(j:Int)).natAbs < 10 ^ 40:=by omega
    have l1:(Str.ofString (toString ((1:Int)+(j:Int)))).length≤41:=za3 n1;symm;refine zcJ ⟨by omega,by omega,by omega,by omega⟩ ?_;refine zbM (fun m σ J'=>∃ v7,σ=[some (.str (rowT (dltR tt))),some (.int tt.length),some (.int n),some (.ref l),some (.ref p1),some (.int (0+(i:Int))),some (.int (1+(j:Int))),v7]∧RowsAt H1 p1 (tt.take i++(if a≤(j:Int)∨a=1+(j:Int)∧b≤(m:Int) then [[a,b]] else [])) J') ⟨v7,rfl,?_⟩ ?_ ?_
    ·by_cases c:a≤(j:Int)
     ·rw [if_pos c] at RB;rw [if_pos (.inl c)];exact RB
     ·rw [if_neg c] at RB;rw [if_neg (by omega)];exact RB
    ·rintro m σ J2 hm ⟨v7,rfl,RC⟩;have n2:((1:Int)+(m:Int)).natAbs < 10 ^ 40:=by omega
     have l2:(Str.ofString (toString ((1:Int)+(m:Int)))).length≤41:=za3 n2;have eJ:=RC.same _ _ e1;obtain ⟨zs,z1,zl⟩:=RC.lst;symm;refine zeo (SqL.of eJ) (zfE (by omega)) ?_;symm;rw [hpart,show (((((Str.empty++Str.ofString (toString ((0:Int)+(i:Int)+1)))++Str.ofString ":")++Str.ofString (toString ((1:Int)+(j:Int))))++Str.ofString "+")++Str.ofString (toString ((1:Int)+(m:Int))))=dltT ((i:Int)+1) (1+(j:Int)) (1+(m:Int)) by rw [Int.zero_add];rfl];rw [decide_eq_decide.mpr (zl7 (k:=(i:Int)+1) (a:=a) (b:=b) (c:=1+(j:Int)) (d:=1+(m:Int)) (by omega) (by omega) (by omega) (by omega))];refine zbL (fun z=>?_) (fun z=>?_)
     ·obtain ⟨z5,z6⟩:=z;symm;refine zau (by simp) fun q1 J3 g1 t1 c1=>?_;symm;have hz1000:zs.length≤1000000:=by
       rw [zl,List.length_append];split <;> simp <;> omega
      refine zaW (t1 _ _ z1) hz1000 fun J4 b4 c4=>?_;have R4:=RC.push (r:=[1+(j:Int),1+(m:Int)]) g1 t1 c1 (t1 _ _ z1) b4 c4;symm;refine ⟨_,rfl,?_⟩;rw [if_neg (by omega),List.append_nil,← z5,← z6] at R4;rw [if_pos (by omega)];exact R4
     ·symm;refine ⟨_,rfl,?_⟩
      by_cases c:a≤(j:Int)∨a=1+(j:Int)∧b≤(m:Int)
      ·rw [if_pos c] at RC;rw [if_pos (by omega)];exact RC
      ·rw [if_neg c] at RC;rw [if_neg (by omega)];exact RC
    ·rintro σ J2 ⟨v7,rfl,RC⟩;symm;refine ⟨_,_,rfl,?_⟩
     by_cases c:a≤(j:Int)+1
     ·rw [if_pos (by omega)] at RC;rw [if_pos (by omega)];exact RC
     ·rw [if_neg (by omega)] at RC;rw [if_neg (by omega)];exact RC
   ·rintro σ J' ⟨v6,v7,rfl,RB⟩;symm;refine ⟨_,_,_,rfl,?_⟩;rw [if_pos (by omega)] at RB;exact RB
  ·rintro σ J ⟨v5,v6,v7,rfl,RA⟩;have hn':((tt.length:Int)).toNat=tt.length:=by omega
   rw [hn',List.take_length] at RA;have eJ:=RA.same _ _ e1;obtain ⟨ps,sq,pl,pr⟩:LL K J p1 tt:=RA.ll;symm;rw [decide_eq_true (show (ps.length:Int)=(tt.length:Int) by omega)];refine iteF ?_;symm;rw [hlen,decide_eq_true (rfl:(tt.length:Int)=(tt.length:Int))];refine iteF ?_;symm;exact q p1 J (RA.pre s1)
theorem zii {H:Hp} {tt:List (List Int)} {n:Nat} {m c:Int} {Q:VK} {E:XK} (hm:m=tt.length) (hc:c=n) (hl:tt.length≤10) (hn:n≤8) (EG:Eig n tt) (q:∀ p H',RowsAt H p tt H'→Q (.ref p) H'):zeU K [.str (rowT (dltR tt)),.int m,.int c] H Q E:=by
 subst hm hc;exact ⟨rfl,tt,n,rfl,hl,hn,EG,q⟩
def zcn (K:PySem.W.Frag):Sp:=fun vs H Q _=>vs.length=2∧∃ (a b:Addr) (ts rs:List (List Int)),vs=[.ref a,.ref b]∧LL K H a ts∧LL K H b rs∧ts.length=rs.length∧rs.length≤1000∧(∀ i,i < ts.length→(ts.getD i []).length=2)∧(∀ i,i < rs.length→(rs.getD i []).length=2)∧Q (.bl (nbB ts rs)) H
theorem zdS (T:Txt K mg t):FnOk P w K mg base CX0 1 t.f_70 t.d_70 ["_law_told","_law_rival"] (zcn K):=by
 refine T.F_70.ok sc_70 (fun _ _ _ _ h=>h.1) fun cdv A outer s H vs Q E hr h=>by
  refine ⟨_,(zac (za7 PassesOwn.never rfl (za5 (by rfl) T.z_range (zaa (zai (zak (K:=K) rfl) (by rfl) T.z_len (by rfl) (zaa (pv 1) pa_nil)) pa_nil)) (zap (i:=2) sc_70.nd rfl (Or.inl rfl))
   (zad (za7 PassesOwn.never rfl (za5 (by rfl) T.z_range (zaa zae pa_nil)) (zap (i:=3) sc_70.nd rfl (Or.inl rfl))
   (zad (zaX (zat (zcQ (K:=K) rfl hr.units0) (zaw (zaf (K:=K) rfl) (zaw (zaf (K:=K) rfl) (pv 0) (pv 2) (fun _ _=>rfl)) (pv 3) (fun _ _=>rfl)) (zaw (zaf (K:=K) rfl) (zaw (zaf (K:=K) rfl) (pv 1) (pv 2) (fun _ _=>rfl)) (pv 3) (fun _ _=>rfl)) (zaC _))
   (zad (zaj (zdG (op_lt) (zaw (zaf (K:=K) rfl) (zaw (zaf (K:=K) rfl) (pv 0) (pv 2) (fun _ _=>rfl)) (pv 3) (fun _ _=>rfl)) (zaw (zaf (K:=K) rfl) (zaw (zaf (K:=K) rfl) (pv 1) (pv 2) (fun _ _=>rfl)) (pv 3) (fun _ _=>rfl)) (zaC _)))) pss_nil)))))
   (zad (zaj zbJ))),?_⟩
  obtain ⟨_,a,b,ts,rs,rfl,hT,hR,hlen,hz,t2,r2,q⟩:=h;obtain ⟨ps,ha,hl,hrow⟩:=id hT;obtain ⟨qs,hb,hm,hrows⟩:=id hR;symm;refine zci (by omega) (by omega) ?_;refine zbM (fun i σ H'=>∃ v w,σ=[some (.ref a),some (.ref b),v,w]∧H'=H∧∀ j,j < i→(ts.getD j []).getD 0 0=(rs.getD j []).getD 0 0∧(ts.getD j []).getD 1 0=(rs.getD j []).getD 1 0) ⟨none,none,rfl,rfl,fun k hk=>absurd hk (by omega)⟩ ?_ ?_
  ·rintro i σ H' hi ⟨v,w,rfl,rfl,hall⟩;have hi':i < rs.length:=by omega
   have ei:(0+(i:Int)).toNat=i:=by omega
   have hti:=hrow i (by omega);have hri:=hrows i hi';have hti':H' (ps.getD (0+(i:Int)).toNat 0)=some (.lst ((ts.getD i []).map V.int)):=by rw [ei];exact hti
   have hri':H' (qs.getD (0+(i:Int)).toNat 0)=some (.lst ((rs.getD i []).map V.int)):=by rw [ei];exact hri
   have t2i:=t2 i (by omega);have r2i:=r2 i hi';have hd:=zhl i hall (by omega) (by omega);have d1:ts.drop i=ts.getD i []::ts.drop (i+1):=by
    rw [List.getD_eq_getElem?_getD,List.getElem?_eq_getElem (by omega)];exact List.drop_eq_getElem_cons (by omega)
   have d2:rs.drop i=rs.getD i []::rs.drop (i+1):=by
    rw [List.getD_eq_getElem?_getD,List.getElem?_eq_getElem hi'];exact List.drop_eq_getElem_cons hi'
   rw [d1,d2] at hd;symm;refine zci (by omega) (by omega) ?_;refine zbM (fun j σ H1=>∃ w,σ=[some (.ref a),some (.ref b),some (.int (0+(i:Int))),w]∧H1=H'∧∀ l,l < j→(ts.getD i []).getD l 0=(rs.getD i []).getD l 0) ⟨w,rfl,rfl,fun k hk=>absurd hk (by omega)⟩ ?_ ?_
   ·rintro j σ H1 hj ⟨w,rfl,rfl,hin⟩;have hj2:j < 2:=by omega
    have ej:(0+(j:Int)).toNat=j:=by omega
    symm;rw [ej];refine ziN (fun h0=>?_) (fun h0=>?_)
    ·symm;rw [ej];have e:nbB ts rs=decide ((ts.getD i []).getD j 0 < (rs.getD i []).getD j 0):=by
      rw [hd];have:j=0∨j=1:=by omega
      rcases this with rfl | rfl
      ·show (if (ts.getD i []).getD 0 0=(rs.getD i []).getD 0 0 then _ else _)=_;rw [if_neg h0]
      ·show (if (ts.getD i []).getD 0 0=(rs.getD i []).getD 0 0 then _ else _)=_;rw [if_pos (hin 0 (by omega)),if_neg h0]
     rw [e] at q;exact q
    ·symm;refine ⟨_,rfl,rfl,fun l hl=>?_⟩
     by_cases e:l=j
     ·subst e;exact h0
     ·exact hin l (by omega)
   ·rintro σ H1 ⟨w,rfl,rfl,hin⟩;have e2:Int.toNat 2=2:=rfl;rw [e2] at hin;refine ⟨_,_,rfl,rfl,fun j hj=>?_⟩
    by_cases e:j=i
    ·subst e;exact ⟨hin 0 (by omega),hin 1 (by omega)⟩
    ·exact hall j (by omega)
  ·rintro σ H' ⟨v,w,rfl,rfl,hall⟩;have e:nbB ts rs=true:=by
    rw [zhl rs.length (fun j hj=>hall j (by omega)) (by omega) (Nat.le_refl _),List.drop_length]
    cases ts.drop rs.length <;> rfl
   rw [e] at q;symm;exact q
theorem zd8 {H:Hp} {a b:Addr} {ts rs:List (List Int)} {Q:VK} {E:XK} (h1:LL K H a ts) (h2:LL K H b rs) (h3:ts.length=rs.length) (h4:rs.length≤1000) (h5:∀ i,i < ts.length→(ts.getD i []).length=2) (h6:∀ i,i < rs.length→(rs.getD i []).length=2) (q:Q (.bl (nbB ts rs)) H):zcn K [.ref a,.ref b] H Q E:=⟨rfl,a,b,ts,rs,rfl,h1,h2,h3,h4,h5,h6,q⟩
def zd0 (K:PySem.W.Frag):Sp:=fun vs H Q _=>vs.length=1∧∃ x:V,vs=[x]∧((∃ i:Int,x=.int i∧Q (.bl true) H))
theorem zgt (T:Txt K mg t):FnOk P w K mg base CX0 1 t.f_66 t.d_66 ["_law_found"] (zd0 K):=by
 refine T.F_66.ok sc_66 (fun _ _ _ _ h=>h.1) fun cdv A outer s H vs Q E hr h=>by
  refine ⟨_,(zad (zaj (zmj (zai (za2 (K:=K) rfl) (by rfl) T.z_isinstance (by rfl) (zaa (pv 0) (zaa (zdF (v:=.ty "int") (u:=.type "int") (by rfl) T.z_int (by rfl) rfl) pa_nil))) (zmi (zmk (zai (za2 (K:=K) rfl) (by rfl) T.z_isinstance (by rfl) (zaa (pv 0) (zaa (zdF (v:=.ty "bool") (u:=.type "bool") (by rfl) T.z_bool (by rfl) rfl) pa_nil)))))))),?_⟩;obtain ⟨_,x,rfl,i,rfl,q⟩:=h;symm;refine iteT ?_;symm;exact q
theorem zg6 {H:Hp} {i:Int} {Q:VK} {E:XK} (q:Q (.bl true) H):zd0 K [.int i] H Q E:=⟨rfl,_,rfl,i,rfl,q⟩
local macro_rules | `(tactic| walk_at "rd1")=>`(tactic| (with_reducible refine zg6 ?_))
def zeV (K:PySem.W.Frag):Sp:=fun vs H Q _=>vs.length=3∧∃ (b r:Addr) (h:Int) (rs:List (List Int)) (row:List Int),vs=[.ref b,.int h,.ref r]∧LL K H b rs∧(∀ i,i < rs.length→(rs.getD i []).length=2)∧H r=some (.lst (row.map V.int))∧Q (.bl (zcj rs h row)) H
theorem zg7 (T:Txt K mg t):FnOk P w K mg base CX0 2 t.f_68 t.d_68 ["_law_staff","_law_house","_law_row"] (zeV K):=by
 have G_66:=zgt (P:=P) (w:=w) (base:=base) T;refine T.F_68.ok sc_68 (fun _ _ _ _ h=>h.1) fun cdv A outer s H vs Q E hr h=>by
  refine ⟨_,(zac (zaX (zeW (zcw (zaF (K:=K) rfl (zai (za2 (K:=K) rfl) (by rfl) T.z_isinstance (by rfl) (zaa (pv 2) (zaa (zdF (v:=.ty "list") (u:=.type "list") (by rfl) T.z_list (by rfl) rfl) pa_nil))) (fun _=>rfl))) (zdj (zat (zcQ (K:=K) rfl hr.units0) (zai (zak (K:=K) rfl) (by rfl) T.z_len (by rfl) (zaa (pv 2) pa_nil)) zae (zaC _)))).pt
   (zad (zaj zbJ)) pss_nil)
   (zac (za7 PassesOwn.never rfl (zaB (K:=K) rfl (pv 2)) (zap (i:=3) sc_68.nd rfl (Or.inl rfl))
   (zac (zaX (zeW (zcw (zaF (K:=K) rfl (zaq G_66 (hr.mono (by decide)) (by rfl) T.m_66 T.F_66.kp T.b_66 .nil zaD (zaa (pv 3) pa_nil)) (fun _=>rfl))) (zeW (zat (op_lt) (pv 3) zae (zaC _)) (zdj (zat (op_gt) (pv 3) (zai (zak (K:=K) rfl) (by rfl) T.z_len (by rfl) (zaa (pv 0) pa_nil)) (zaC _))))).pt
   (zad (zaj zbJ)) pss_nil)
   (zad (zaX (zat (zb8 (K:=K) rfl hr.units0) (zaw (zaf (K:=K) rfl) (zaw (zaf (K:=K) rfl) (pv 0) (zay (op_sub) (pv 3) zae) (fun _ _=>rfl)) zae (fun _ _=>rfl)) (pv 1) (zaC _))
   (zad (zaj zbJ)) pss_nil))))
   (zad (zaj (zdG (op_lt) (zaw (zaf (K:=K) rfl) (pv 2) zae (fun _ _=>rfl)) (zaw (zaf (K:=K) rfl) (pv 2) zae (fun _ _=>rfl)) (zaC _)))))),?_⟩
  obtain ⟨_,b,r,h,rs,row,rfl,hL,h2,hr0,q⟩:=h;obtain ⟨ps,hb,hl,hrow⟩:=id hL;unfold zcj at q;symm;refine iteF ?_;symm;refine ziN (fun h0=>?_) (fun h0=>?_)
  ·rw [decide_eq_false (fun z=>h0 (by omega)),Bool.false_and,Bool.false_and] at q;symm;exact q
  rw [decide_eq_true (show row.length=2 by omega),Bool.true_and] at q;symm;refine zaO (SqL.of hr0) ?_;refine zdb (xs:=row.map V.int) (fun i σ H'=>∃ v,σ=[some (.ref b),some (.int h),some (.ref r),v]∧H'=H∧∀ j,j < i→(decide (1≤row.getD j 0) && decide (row.getD j 0≤(rs.length:Int)) && !decide ((rs.getD (row.getD j 0-1).toNat []).getD 0 0=h))=true) ⟨none,rfl,rfl,fun j hj=>absurd hj (by omega)⟩ ?_ ?_ ?_
  ·rintro i σ H' _ ⟨_,rfl,rfl,_⟩;exact SqL.of hr0
  ·rintro i x σ H' hxi ⟨_,rfl,rfl,hall⟩;obtain ⟨hi,rfl⟩:=zfv hxi;have no:(decide (1≤row.getD i 0) && decide (row.getD i 0≤(rs.length:Int)) && !decide ((rs.getD (row.getD i 0-1).toNat []).getD 0 0=h))=false→Q (.bl false) H':=fun z=>by
    rw [ziW (c:=fun x=>decide (1≤x) && decide (x≤(rs.length:Int)) && !decide ((rs.getD (x-1).toNat []).getD 0 0=h)) hi z,Bool.false_and] at q;exact q
   symm;refine iteF ?_;symm;refine zbL (fun h1=>?_) (fun h1=>?_)
   ·refine iteT ?_;symm;exact no (by rw [decide_eq_false (by omega)];rfl)
   symm;refine zbL (fun h3=>?_) (fun h3=>?_)
   ·symm;exact no (by rw [decide_eq_false (show ¬row.getD i 0≤(rs.length:Int) by omega),Bool.and_false];rfl)
   have hk:(row.getD i 0-1).toNat < rs.length:=by omega
   have hrk:=hrow _ hk;have h2k:=h2 _ hk;symm;refine zbL (fun h4=>?_) (fun h4=>?_)
   ·symm;refine no ?_;rw [show (rs.getD (row.getD i 0-1).toNat []).getD 0 0=h from h4,decide_eq_true (rfl:h=h)];simp
   ·symm;refine ⟨_,rfl,rfl,fun j hj=>?_⟩
    by_cases e:j=i
    ·subst e;rw [decide_eq_true (show 1≤row.getD j 0 by omega),decide_eq_true (show row.getD j 0≤(rs.length:Int) by omega),decide_eq_false (show ¬(rs.getD (row.getD j 0-1).toNat []).getD 0 0=h from h4)];rfl
    ·exact hall j (by omega)
  ·rintro σ H' ⟨_,rfl,rfl,hall⟩;rw [List.length_map] at hall;rw [zke (c:=fun x=>decide (1≤x) && decide (x≤(rs.length:Int)) && !decide ((rs.getD (x-1).toNat []).getD 0 0=h)) hall,Bool.true_and] at q;symm;exact q
theorem zij {H:Hp} {b r:Addr} {h:Int} {rs:List (List Int)} {row:List Int} {Q:VK} {E:XK} (h1:LL K H b rs) (h2:∀ i,i < rs.length→(rs.getD i []).length=2) (h3:H r=some (.lst (row.map V.int))) (q:Q (.bl (zcj rs h row)) H):zeV K [.ref b,.int h,.ref r] H Q E:=⟨rfl,b,r,h,rs,row,rfl,h1,h2,h3,q⟩
def zd1 (K:PySem.W.Frag):Sp:=fun vs H Q _=>vs.length=3∧∃ (a b c:Addr) (hs:List Int) (rs rows:List (List Int)),vs=[.ref a,.ref b,.ref c]∧SqL K H a (hs.map V.int)∧LL K H b rs∧(∀ i,i < rs.length→(rs.getD i []).length=2)∧(∃ zs,H c=some (.lst zs))∧LL K H c rows∧rs.length≤1000∧rows.length≤1000∧hs.length≤1000∧∀ H',Same H H'→Q (.bl (zaR hs rs rows)) H'
theorem zgu (T:Txt K mg t):FnOk P w K mg base CX0 3 t.f_69 t.d_69 ["_law_homes","_law_staff","_law_rows"] (zd1 K):=by
 have G_68:=zg7 (P:=P) (w:=w) (base:=base) T;refine T.F_69.ok sc_69 (fun _ _ _ _ h=>h.1) fun cdv A outer s H vs Q E hr h=>by
  refine ⟨_,(zac (zaX (zeW (zcw (zaF (K:=K) rfl (zai (za2 (K:=K) rfl) (by rfl) T.z_isinstance (by rfl) (zaa (pv 2) (zaa (zdF (v:=.ty "list") (u:=.type "list") (by rfl) T.z_list (by rfl) rfl) pa_nil))) (fun _=>rfl))) (zdj (zat (zcQ (K:=K) rfl hr.units0) (zai (zak (K:=K) rfl) (by rfl) T.z_len (by rfl) (zaa (pv 2) pa_nil)) (zai (zak (K:=K) rfl) (by rfl) T.z_len (by rfl) (zaa (pv 0) pa_nil)) (zaC _)))).pt
   (zad (zaj zbJ)) pss_nil)
   (zac (za7 PassesOwn.never rfl (za5 (by rfl) T.z_range (zaa (zai (zak (K:=K) rfl) (by rfl) T.z_len (by rfl) (zaa (pv 0) pa_nil)) pa_nil)) (zap (i:=3) sc_69.nd rfl (Or.inr rfl))
   (zad (zaX (zcw (zaF (K:=K) rfl (zaq G_68 (hr.mono (by decide)) (by rfl) T.m_68 T.F_68.kp T.b_68 .nil zaD (zaa (pv 1) (zaa (zaw (zaf (K:=K) rfl) (pv 0) (pv 3) (fun _ _=>rfl)) (zaa (zaw (zaf (K:=K) rfl) (pv 2) (pv 3) (fun _ _=>rfl)) pa_nil)))) (fun _=>rfl)))
   (zad (zaj zbJ)) pss_nil)))
   (zac (za7 PassesOwn.never rfl (za5 (by rfl) T.z_range (zaa (zai (zak (K:=K) rfl) (by rfl) T.z_len (by rfl) (zaa (pv 1) pa_nil)) pa_nil)) (zap (i:=3) sc_69.nd rfl (Or.inr rfl))
   (zad (zaX (zat (op_gt) (zai (zak (K:=K) rfl) (by rfl) T.z_len (by rfl) (zaa (zaN (zah (sc:=zab s_69) (XN:=["_law_homes","_law_staff","_law_rows","_law_k"]) (N:=["_law_row","_law_k"]) (own:=1) (js:=[3]) rfl rfl (by decide +kernel)) rfl (zaB (K:=K) rfl (pv 2)) (fun _ _ _ _ _=>(zap (i:=0) (show List.Nodup [(Str.ofString "_law_row"),(Str.ofString "_law_k")] by decide +kernel) rfl (Or.inl rfl))) (fun _ _ _ _ _=>(zcH (zat (zew (K:=K) rfl (zeX hr)) (zay (op_addG) (pv 1) zae) (pv 0) (by with_unfolding_all rfl)))) (fun _ _ _ _ _=>(pv 0))) pa_nil)) (zaw (zaf (K:=K) rfl) (zaw (zaf (K:=K) rfl) (pv 1) (pv 3) (fun _ _=>rfl)) zae (fun _ _=>rfl)) (zaC _))
   (zad (zaj zbJ)) pss_nil)))
   (zad (zaj zbJ))))),?_⟩
  obtain ⟨_,a,b,c,hs,rs,rows,rfl,ha,hL,h2,⟨zs,hz⟩,hM,l1,l2,l3,q⟩:=h;obtain ⟨ps,hb,hl,hrow⟩:=id hL;obtain ⟨qs,hc,hm,hrows⟩:=id hM;have hzs:SqL K H c (qs.map V.ref):=hc;unfold zaR at q;symm;refine iteF ?_;symm;refine ziN (fun h0=>?_) (fun h0=>?_)
  ·rw [decide_eq_false (fun z=>h0 (by omega)),Bool.false_and,Bool.false_and] at q;symm;exact q _ (Same.refl _)
  rw [decide_eq_true (show rows.length=hs.length by omega),Bool.true_and] at q;symm;refine zci (by omega) (by omega) ?_;refine zbM (fun i σ H'=>∃ v,σ=[some (.ref a),some (.ref b),some (.ref c),v]∧H'=H∧∀ k,k < i→zcj rs (hs.getD k 0) (rows.getD k [])=true) ⟨none,rfl,rfl,fun k hk=>absurd hk (by omega)⟩ ?_ ?_
  ·rintro i σ H' hi ⟨_,rfl,rfl,hall⟩;have ei:(0+(i:Int)).toNat=i:=by omega
   symm;rw [ei];refine zij hL h2 (hrows i (by omega)) ?_;symm;refine zmE (fun h1=>?_) (fun h1=>?_)
   ·rw [zcK (c:=fun k=>zcj rs (hs.getD k 0) (rows.getD k [])) (show i < hs.length by omega) h1,Bool.false_and] at q;symm;exact q _ (Same.refl _)
   ·symm;refine ⟨_,rfl,rfl,fun k hk=>?_⟩
    by_cases e:k=i
    ·subst e;exact h1
    ·exact hall k (by omega)
  rintro σ H' ⟨v,rfl,rfl,hall⟩;rw [zba (c:=fun k=>zcj rs (hs.getD k 0) (rows.getD k [])) (fun k hk=>hall k (by omega)),Bool.true_and] at q;symm;refine zci (by omega) (by omega) ?_;refine zbM (fun i σ H1=>∃ v,σ=[some (.ref a),some (.ref b),some (.ref c),v]∧Same H' H1∧∀ k,k < i→(cntB rows (0+(k:Int)+1):Int)≤(rs.getD k []).getD 1 0) ⟨v,rfl,Same.refl _,fun k hk=>absurd hk (by omega)⟩ ?_ ?_
  ·rintro i σ H1 hi ⟨_,rfl,s1,hle⟩;have ei:(0+(i:Int)).toNat=i:=by omega
   have hri:=s1 _ _ (hrow i (by omega));have h2i:=h2 i (by omega);have hc1:=s1.seq hc;have hb1:=s1.seq hb;symm;refine zaO hc1 ?_;refine zed (rows:=rows) (x:=0+(i:Int)+1) hc1 hm l2 (fun j H2 Q' hj s2 q'=>?_) fun p H2 zs2 f2 s2 e2 z2=>?_
   ·have hrj:=s2 _ _ (s1 _ _ (hrows j hj));symm;exact q'
   have hri2:=s2 _ _ hri;have hb2:=s2.seq hb1;symm;rw [ei];symm;rw [z2];refine zbL (fun h1=>?_) (fun h1=>?_)
   ·rw [zcK (c:=fun k=>decide ((cntB rows (0+(k:Int)+1):Int)≤(rs.getD k []).getD 1 0)) (show i < rs.length by omega) (decide_eq_false (show ¬(cntB rows (0+(i:Int)+1):Int)≤(rs.getD i []).getD 1 0 by have e1:Int.toNat 1=1:=rfl;rw [e1] at h1;omega))] at q;symm;exact q _ (s1.trans s2)
   ·symm;refine ⟨_,rfl,s1.trans s2,fun k hk=>?_⟩
    by_cases e:k=i
    ·subst e;have e1:Int.toNat 1=1:=rfl;rw [e1] at h1;omega
    ·exact hle k (by omega)
  ·rintro σ H1 ⟨_,rfl,s1,hle⟩;rw [zba (c:=fun k=>decide ((cntB rows (0+(k:Int)+1):Int)≤(rs.getD k []).getD 1 0)) (fun k hk=>decide_eq_true (hle k (by omega)))] at q;symm;exact q _ s1
theorem zg8 {H:Hp} {a b c:Addr} {hs:List Int} {rs rows:List (List Int)} {Q:VK} {E:XK} (h1:SqL K H a (hs.map V.int)) (h2:LL K H b rs) (h3:∀ i,i < rs.length→(rs.getD i []).length=2) (h4:∃ zs,H c=some (.lst zs)) (h5:LL K H c rows) (l1:rs.length≤1000) (l2:rows.length≤1000) (l3:hs.length≤1000)
  (q:∀ H',Same H H'→Q (.bl (zaR hs rs rows)) H'):zd1 K [.ref a,.ref b,.ref c] H Q E:=⟨rfl,a,b,c,hs,rs,rows,rfl,h1,h2,h3,h4,h5,l1,l2,l3,q⟩
def zc9 (K:PySem.W.Frag):Sp:=fun vs H Q _=>vs.length=1∧∃ (a:Addr) (xs:List Str),vs=[.ref a]∧H a=some (.lst (xs.map V.str))∧(∀ x∈xs,x.length≤1000)∧xs.length≤1000∧∀ H',Same H H'→Q (.str (rowT xs)) H'
theorem ze8 (T:Txt K mg t):FnOk P w K mg base CX0 1 t.f_73 t.d_73 ["_law_parts"] (zc9 K):=by
 refine T.F_73.ok sc_73 (fun _ _ _ _ h=>h.1) fun cdv A outer s H vs Q E hr h=>by
  refine ⟨_,(zac (zaX (zat (zb8 (K:=K) rfl hr.units0) (pv 0) (zaL pa_nil) (zaC _))
   (zad (zaj zaQ)) pss_nil)
   (zad (zaj (zbr (K:=K) rfl PySem.F.plainAttrs_str PySem.F.slot_str_join PySem.F.type_str_join (zgN (K:=K) rfl) zaQ (zaa (pv 0) pa_nil))))),?_⟩
  obtain ⟨_,a,xs,rfl,ha,hx,hl,q⟩:=h;symm;refine zau (by decide) fun o H1 f1 s1 e1=>?_;have ha1:=s1 _ _ ha;symm;refine znp (SqL.of ha1) (SqL.of e1) ?_;symm;refine zbL (fun z=>?_) (fun z=>?_)
  ·have h0:xs=[]:=List.map_eq_nil_iff.mp z;symm;subst h0;exact q _ s1
  ·have h0:xs≠[]:=fun y=>z (by rw [y];rfl);symm;refine zgg (SqL.of ha1) (zdp hx hl).1 (zdp hx hl).2 ?_;rw [← zl4 h0];exact q _ s1
theorem zcv {H:Hp} {a:Addr} {xs:List Str} {Q:VK} {E:XK} (h:H a=some (.lst (xs.map V.str))) (hx:∀ x∈xs,x.length≤1000) (hl:xs.length≤1000) (q:∀ H',Same H H'→Q (.str (rowT xs)) H'):zc9 K [.ref a] H Q E:=⟨rfl,a,xs,rfl,h,hx,hl,q⟩
def zd2 (K:PySem.W.Frag):Sp:=fun vs H Q _=>vs.length=2∧∃ (a b:Addr) (rs nm:List (List Int)),vs=[.ref a,.ref b]∧LL K H a rs∧LL K H b nm∧rs.length≤8∧nm.length≤20∧(∀ i,i < rs.length→(rs.getD i []).length=2)∧∀ p H',H p=none→Same H H'→H' p=some (.lst ((zbc rs nm).map V.int))→Q (.ref p) H'
theorem zgv (T:Txt K mg t):FnOk P w K mg base CX0 1 t.f_71 t.d_71 ["_law_staff","_law_names"] (zd2 K):=by
 refine T.F_71.ok sc_71 (fun _ _ _ _ h=>h.1) fun cdv A outer s H vs Q E hr h=>by
  refine ⟨_,(zac (zaE (i:=2) sc_71.nd rfl (Or.inl rfl) (zaL pa_nil))
   (zac (za7 PassesOwn.never rfl (za5 (by rfl) T.z_range (zaa (zai (zak (K:=K) rfl) (by rfl) T.z_len (by rfl) (zaa (pv 0) pa_nil)) pa_nil)) (zap (i:=3) sc_71.nd rfl (Or.inr rfl))
   (zad (zaV (zbr (K:=K) rfl PySem.F.plainAttrs_list PySem.F.slot_list_append PySem.F.type_list_append mt_append (pv 2) (zaa (zay (op_sub) (zaw (zaf (K:=K) rfl) (zaw (zaf (K:=K) rfl) (pv 0) (pv 3) (fun _ _=>rfl)) zae (fun _ _=>rfl)) (zai (zak (K:=K) rfl) (by rfl) T.z_len (by rfl) (zaa (zaN (zah (sc:=zab s_71) (XN:=["_law_staff","_law_names","_law_left","_law_k"]) (N:=["_law_row","_law_k"]) (own:=1) (js:=[3]) rfl rfl (by decide +kernel)) rfl (zaB (K:=K) rfl (pv 1)) (fun _ _ _ _ _=>(zap (i:=0) (show List.Nodup [(Str.ofString "_law_row"),(Str.ofString "_law_k")] by decide +kernel) rfl (Or.inl rfl))) (fun _ _ _ _ _=>(zcH (zat (zew (K:=K) rfl (zeX hr)) (zay (op_addG) (pv 1) zae) (pv 0) (by with_unfolding_all rfl)))) (fun _ _ _ _ _=>(pv 0))) pa_nil))) pa_nil)))))
   (zad (zaj (pv 2))))),?_⟩
  obtain ⟨_,a,b,rs,nm,rfl,L1,L2,l1,l2,r2,q⟩:=h;obtain ⟨ps,ha,hpl,hpr⟩:=id L1;symm;refine zau (by decide) fun p1 H1 f1 s1 e1=>?_;have ha1:=s1.seq ha;symm;refine zci (by omega) (by omega) ?_;have en:((ps.length:Int)).toNat=rs.length:=by omega
  rw [en];have hll:(zbc rs nm).length=rs.length:=by unfold zbc;rw [List.length_map,List.length_range]
  refine zbM (fun i σ H'=>(∃ v,σ=[some (.ref a),some (.ref b),some (.ref p1),v])∧Same H H'∧H' p1=some (.lst (((zbc rs nm).take i).map V.int))) ⟨⟨none,rfl⟩,s1,e1⟩ ?_ ?_
  ·rintro i σ H' hi ⟨⟨v,rfl⟩,s,ep⟩;have ei:((0+(i:Int))).toNat=i:=by omega
   have hrow:=s _ _ (hpr i hi);have h2:=r2 i hi;obtain ⟨pn,hn,ln,rn⟩:=id (L2.same s);have has:=s.seq ha;symm;rw [ei];symm;refine zaO hn ?_;refine zed hn ln (by omega) (x:=(i:Int)+1) (fun j H2 Q' hj s2 q'=>?_) fun p2 H2 zs f2 s2 e2 ez=>?_
   ·have hrow2:=s2 _ _ (rn j hj);have e0:(0:Int)+(i:Int)+1=(i:Int)+1:=by omega
    symm;rw [e0];exact q'
   have ep2:=s2 _ _ ep;symm;refine zaW ep2 (by rw [List.length_map,List.length_take];omega) fun H3 b3 e3=>?_;symm;refine ⟨⟨_,rfl⟩,(s.trans s2).but b3 f1,?_⟩;rw [e3,List.take_add_one,List.getElem?_eq_getElem (by omega),List.map_append,ez];have eg:(zbc rs nm)[i]'(by omega)=(rs.getD i []).getD 1 0-(cntB nm ((i:Int)+1):Int):=by
    have:=zfz (rs:=rs) (rows:=nm) hi;rw [List.getD_eq_getElem?_getD,List.getElem?_eq_getElem (by omega)] at this;exact this
   rw [eg];rfl
  ·rintro σ H' ⟨⟨v,rfl⟩,s,ep⟩;rw [← hll,List.take_length] at ep;symm;exact q _ _ f1 s ep
theorem zg9 {H:Hp} {a b:Addr} {rs nm:List (List Int)} {Q:VK} {E:XK} (h1:LL K H a rs) (h2:LL K H b nm) (l1:rs.length≤8) (l2:nm.length≤20) (r2:∀ i,i < rs.length→(rs.getD i []).length=2) (q:∀ p H',H p=none→Same H H'→H' p=some (.lst ((zbc rs nm).map V.int))→Q (.ref p) H'):zd2 K [.ref a,.ref b] H Q E:=⟨rfl,a,b,rs,nm,rfl,h1,h2,l1,l2,r2,q⟩
def zgw (K:PySem.W.Frag):Sp:=fun vs H Q _=>vs.length=1∧∃ (a:Addr) (ns:List Int),vs=[.ref a]∧SqL K H a (ns.map V.int)∧ns.length≤63∧∀ H',Q (.bl true) H'
theorem znR (T:Txt K mg t):FnOk P w K mg base CX0 27 t.f_74 t.d_74 ["_law_script"] (zgw K):=by
 have G_67:=ze0 (P:=P) (w:=w) (base:=base) T;have G_65:=zgi (P:=P) (w:=w) (base:=base) T;have G_53:=zih (P:=P) (w:=w) (base:=base) T;have G_72:=zg5 (P:=P) (w:=w) (base:=base) T;have G_70:=zdS (P:=P) (w:=w) (base:=base) T;have G_69:=zgu (P:=P) (w:=w) (base:=base) T;have G_73:=ze8 (P:=P) (w:=w) (base:=base) T;have G_71:=zgv (P:=P) (w:=w) (base:=base) T;refine T.F_74.ok sc_74 (fun _ _ _ _ h=>h.1) fun cdv A outer s H vs Q E hr h=>by
  refine ⟨_,(zac (zaE (i:=1) sc_74.nd rfl (Or.inl rfl) (zaq G_67 (hr.mono (by decide)) (by rfl) T.m_67 T.F_67.kp T.b_67 .nil zaD (zaa (pv 0) (zaa zae (zaa zae pa_nil)))))
   (zac (zbT (i:=2) sc_74.nd rfl (Or.inl rfl) (by rfl) (zah (sc:=zab s_74) (XN:=["_law_script","_law_made","_law_asked","_law_people","_law_more","_law_found","_law_one","_law_told","_law_rows","_law_waiting","_law_k","_law_due"]) (N:=["_law_house"]) (own:=1) (js:=[]) rfl rfl (by decide +kernel)) rfl (zaB (K:=K) rfl (zaw (zaf (K:=K) rfl) (pv 1) zae (fun _ _=>rfl))) (fun _ _ _ _ _=>(zap (i:=0) (show List.Nodup [(Str.ofString "_law_house")] by decide +kernel) rfl (Or.inl rfl))) (fun _ _ _ _ _=>zaT) (fun _ _ _ _ _=>(zcg (zbR (zbk (pv 0) pj_nil)))))
   (zac (zbT (i:=3) sc_74.nd rfl (Or.inl rfl) (by rfl) (zah (sc:=zab s_74) (XN:=["_law_script","_law_made","_law_asked","_law_people","_law_more","_law_found","_law_one","_law_told","_law_rows","_law_waiting","_law_k","_law_due"]) (N:=["_law_one"]) (own:=1) (js:=[]) rfl rfl (by decide +kernel)) rfl (zaB (K:=K) rfl (zaw (zaf (K:=K) rfl) (pv 1) zae (fun _ _=>rfl))) (fun _ _ _ _ _=>(zap (i:=0) (show List.Nodup [(Str.ofString "_law_one")] by decide +kernel) rfl (Or.inl rfl))) (fun _ _ _ _ _=>zaT) (fun _ _ _ _ _=>(zcg (zbR (zbk (zaw (zaf (K:=K) rfl) (pv 0) zae (fun _ _=>rfl)) (zbR (zbk (zaw (zaf (K:=K) rfl) (pv 0) zae (fun _ _=>rfl)) pj_nil)))))))
   (zac (zaE (i:=2) sc_74.nd rfl (Or.inl rfl) (zaw (zaf (K:=K) rfl) (zaL (zaa (zay (op_addG) (pv 2) (pv 3)) (zaa (zay (op_addG) (pv 3) (pv 2)) pa_nil))) (zay (op_mod) (zaq G_65 (hr.mono (by decide)) (by rfl) T.m_65 T.F_65.kp T.b_65 .nil zaD (zaa (pv 0) (zaa zae pa_nil))) zae) (fun _ _=>rfl)))
   (zac (zaE (i:=4) sc_74.nd rfl (Or.inl rfl) (zaL (zaa zaQ (zaa zaQ (zaa zaQ (zaa zaQ (zaa zaQ (zaa zaQ (zaa zaQ (zaa zaQ pa_nil))))))))))
   (zac (zaE (i:=5) sc_74.nd rfl (Or.inl rfl) (zaq G_53 (hr.mono (by decide)) (by rfl) T.m_53 T.F_53.kp T.b_53 .nil zaD (zaa (zay (op_addG) (pv 2) (pv 4)) pa_nil)))
   (zac (zaX (zeW (zcw (zaF (K:=K) rfl (zai (za2 (K:=K) rfl) (by rfl) T.z_isinstance (by rfl) (zaa (pv 5) (zaa (zdF (v:=.ty "list") (u:=.type "list") (by rfl) T.z_list (by rfl) rfl) pa_nil))) (fun _=>rfl))) (zdj (zat (zcQ (K:=K) rfl hr.units0) (zai (zak (K:=K) rfl) (by rfl) T.z_len (by rfl) (zaa (pv 5) pa_nil)) (zay (op_addG) (zai (zak (K:=K) rfl) (by rfl) T.z_len (by rfl) (zaa (pv 2) pa_nil)) zae) (zaC _)))).pt
   (zad (zaj zbJ)) pss_nil)
   (zac (za7 PassesOwn.never rfl (zaB (K:=K) rfl (pv 5)) (zap (i:=6) sc_74.nd rfl (Or.inl rfl))
   (zad (zaX (zcw (zaF (K:=K) rfl (zai (za2 (K:=K) rfl) (by rfl) T.z_isinstance (by rfl) (zaa (pv 6) (zaa (zdF (v:=.ty "str") (u:=.type "str") (by rfl) T.z_str (by rfl) rfl) pa_nil))) (fun _=>rfl)))
   (zad (zaj zbJ)) pss_nil)))
   (zac (zaE (i:=7) sc_74.nd rfl (Or.inl rfl) (zcU (zcV (K:=K) rfl) (pv 5) (zdH (zai (zak (K:=K) rfl) (by rfl) T.z_len (by rfl) (zaa (pv 2) pa_nil))) po_none))
   (zac (zaE (i:=8) sc_74.nd rfl (Or.inl rfl) (zaq G_72 (hr.mono (by decide)) (by rfl) T.m_72 T.F_72.kp T.b_72 .nil zaD (zaa (zaw (zaf (K:=K) rfl) (pv 7) zae (fun _ _=>rfl)) (zaa (zai (zak (K:=K) rfl) (by rfl) T.z_len (by rfl) (zaa (zaw (zaf (K:=K) rfl) (pv 1) zae (fun _ _=>rfl)) pa_nil)) (zaa (zai (zak (K:=K) rfl) (by rfl) T.z_len (by rfl) (zaa (zaw (zaf (K:=K) rfl) (pv 1) zae (fun _ _=>rfl)) pa_nil)) pa_nil)))))
   (zac (zaX (zeW (zcw (zaF (K:=K) rfl (zaq G_69 (hr.mono (by decide)) (by rfl) T.m_69 T.F_69.kp T.b_69 .nil zaD (zaa (zaw (zaf (K:=K) rfl) (pv 1) zae (fun _ _=>rfl)) (zaa (zaw (zaf (K:=K) rfl) (pv 1) zae (fun _ _=>rfl)) (zaa (pv 8) pa_nil)))) (fun _=>rfl))) (zdj (zcw (zaF (K:=K) rfl (zaq G_70 (hr.mono (by decide)) (by rfl) T.m_70 T.F_70.kp T.b_70 .nil zaD (zaa (pv 8) (zaa (zaw (zaf (K:=K) rfl) (pv 1) zae (fun _ _=>rfl)) pa_nil))) (fun _=>rfl))))).pt
   (zad (zaj zbJ)) pss_nil)
   (zac (zaE (i:=9) sc_74.nd rfl (Or.inl rfl) (zaL pa_nil))
   (zac (za7 PassesOwn.never rfl (za5 (by rfl) T.z_range (zaa (zai (zak (K:=K) rfl) (by rfl) T.z_len (by rfl) (zaa (pv 8) pa_nil)) pa_nil)) (zap (i:=10) sc_74.nd rfl (Or.inl rfl))
   (zad (zaE (i:=9) sc_74.nd rfl (Or.inl rfl) (zay (op_addG) (pv 9) (zaL (zaa (zcg (zbk (zay (op_addG) (pv 10) zae) (zbR (zbk (zaw (zaf (K:=K) rfl) (zaw (zaf (K:=K) rfl) (pv 8) (pv 10) (fun _ _=>rfl)) zae (fun _ _=>rfl)) pj_nil)))) (zaa (zcg (zbk (zay (op_addG) (pv 10) zae) (zbR (zbk (zaw (zaf (K:=K) rfl) (zaw (zaf (K:=K) rfl) (pv 8) (pv 10) (fun _ _=>rfl)) zae (fun _ _=>rfl)) pj_nil)))) pa_nil)))))))
   (zac (zaE (i:=11) sc_74.nd rfl (Or.inl rfl) (zaL (zaa zaQ (zaa zaQ (zaa (zaw (zaf (K:=K) rfl) (pv 7) zae (fun _ _=>rfl)) (zaa (zaq G_73 (hr.mono (by decide)) (by rfl) T.m_73 T.F_73.kp T.b_73 .nil zaD (zaa (pv 9) pa_nil)) pa_nil))))))
   (zac (zaV (zbr (K:=K) rfl PySem.F.plainAttrs_list PySem.F.slot_list_append PySem.F.type_list_append mt_append (pv 11) (zaa (zaq G_73 (hr.mono (by decide)) (by rfl) T.m_73 T.F_73.kp T.b_73 .nil zaD (zaa (zaN (zah (sc:=zab s_74) (XN:=["_law_script","_law_made","_law_asked","_law_people","_law_more","_law_found","_law_one","_law_told","_law_rows","_law_waiting","_law_k","_law_due"]) (N:=["_law_many"]) (own:=1) (js:=[]) rfl rfl (by decide +kernel)) rfl (zaB (K:=K) rfl (zaq G_71 (hr.mono (by decide)) (by rfl) T.m_71 T.F_71.kp T.b_71 .nil zaD (zaa (zaw (zaf (K:=K) rfl) (pv 1) zae (fun _ _=>rfl)) (zaa (pv 8) pa_nil)))) (fun _ _ _ _ _=>(zap (i:=0) (show List.Nodup [(Str.ofString "_law_many")] by decide +kernel) rfl (Or.inl rfl))) (fun _ _ _ _ _=>zaT) (fun _ _ _ _ _=>(zbx (zbY (K:=K) rfl) (by rfl) T.z_str (by rfl) (zaa (pv 0) pa_nil)))) pa_nil)) pa_nil)))
   (zac (zaV (zbr (K:=K) rfl PySem.F.plainAttrs_list PySem.F.slot_list_append PySem.F.type_list_append mt_append (pv 11) (zaa (zaq G_73 (hr.mono (by decide)) (by rfl) T.m_73 T.F_73.kp T.b_73 .nil zaD (zaa (zaN (zah (sc:=zab s_74) (XN:=["_law_script","_law_made","_law_asked","_law_people","_law_more","_law_found","_law_one","_law_told","_law_rows","_law_waiting","_law_k","_law_due"]) (N:=["_law_k"]) (own:=1) (js:=[]) rfl rfl (by decide +kernel)) rfl (za5 (by rfl) T.z_range (zaa (zai (zak (K:=K) rfl) (by rfl) T.z_len (by rfl) (zaa (pv 8) pa_nil)) pa_nil)) (fun _ _ _ _ _=>(zap (i:=0) (show List.Nodup [(Str.ofString "_law_k")] by decide +kernel) rfl (Or.inl rfl))) (fun _ _ _ _ _=>zaT) (fun _ _ _ _ _=>(zcg (zbk (zay (op_addG) (pv 0) zae) (zbR pj_nil))))) pa_nil)) pa_nil)))
   (zac (zaE (i:=11) sc_74.nd rfl (Or.inl rfl) (zay (op_addG) (pv 11) (zaL (zaa zaQ (zaa zaQ pa_nil)))))
   (zac (za7 PassesOwn.never rfl (za5 (by rfl) T.z_range (zaa zae pa_nil)) (zap (i:=10) sc_74.nd rfl (Or.inl rfl))
   (zad (zaX (zat (zcQ (K:=K) rfl hr.units0) (zaw (zaf (K:=K) rfl) (pv 7) (pv 10) (fun _ _=>rfl)) (zaw (zaf (K:=K) rfl) (pv 11) (pv 10) (fun _ _=>rfl)) (zaC _))
   (zad (zaj zbJ)) pss_nil)))
   (zad (zaj zbJ)))))))))))))))))))),?_⟩
  obtain ⟨_,a,ns,rfl,hS,hl,q⟩:=h;symm;refine zfH hS hl (by omega) (by omega) fun p ph ps pr sa ra hs rs known H3 P1 A=>?_;have B0:=A.inb;have B1:=B0.lp;have B2:=B0.lr;have hS3:=P1.same.seq hS;have ep3:=P1.at_p;have eh3:=P1.at_h;have es3:=P1.at_s;have kr3:=P1.at_r;have sl:=P1.sl;have krl:=P1.rl;have r3:=P1.s_at;have k3:=P1.r_at;symm;refine zaO (SqL.of eh3) ?_;refine zbe (zaU (SqL.of eh3)) (zaK (by rw [List.length_map];omega)) (fun _=>true) (fun i=>.str (papT (hs.getD i 0))) (fun i H' Q' hi s q'=>q') (fun i H' Q' hi s _ q'=>?_) fun p4 hp4=>?_
  ·rw [List.length_map] at hi;have ex:((hs.map V.int).getD i .non)=.int (hs.getD i 0):=zck hi;rw [ex];have hh:=B0.hh i hi;generalize hs.getD i 0=h at *;show (_:TE) (some (.int h)::_) _ _;have n1:h.natAbs < 10 ^ 40:=by omega
   have l1:(Str.ofString (toString h)).length≤41:=za3 n1;symm;rw [zjC];exact q'
  rw [List.filter_eq_self.mpr (fun _ _=>rfl),List.length_map,zcX];have e4:(upd H3 p4 (.lst ((hs.map papT).map V.str))) p4=some (.lst ((hs.map papT).map V.str)):=zar;have s4:Same H3 (upd H3 p4 (.lst ((hs.map papT).map V.str))):=zaH hp4;generalize upd H3 p4 (.lst ((hs.map papT).map V.str))=H4 at e4 s4;have ep34:=s4 _ _ ep3;have e34:=s4 _ _ es3;symm;refine zaO (SqL.of e34) ?_;refine zbe (zaU (SqL.of e34)) (zaK (by rw [List.length_map];omega)) (fun _=>true) (fun i=>.str (reaT (rs.getD i []))) (fun i H' Q' hi s q'=>q') (fun i H' Q' hi s _ q'=>?_) fun p5 hp5=>?_
  ·rw [List.length_map] at hi;have ex:((sa.map V.ref).getD i .non)=.ref (sa.getD i 0):=by rw [List.getD_eq_getElem?_getD,List.getElem?_map,List.getElem?_eq_getElem hi,List.getD_eq_getElem?_getD,List.getElem?_eq_getElem hi];rfl
   rw [ex];show (_:TE) (some (.ref _)::_) _ _;have hrow:=s _ _ (s4 _ _ (r3 i (by omega)));have b1:=B0.rh i (by omega);have b2:=B0.rl i (by omega);obtain ⟨u,v,euv⟩:=two_of (B0.r2 i (by omega));rw [euv] at hrow q' b1 b2;have hrow:H' (sa.getD i 0)=some (.lst [.int u,.int v]):=hrow;have b1:0≤u∧u≤6:=b1;have b2:0≤v∧v≤30:=b2;have n1:u.natAbs < 10 ^ 40:=by omega
   have n2:v.natAbs < 10 ^ 40:=by omega
   have l1:(Str.ofString (toString u)).length≤41:=za3 n1;have l2:(Str.ofString (toString v)).length≤41:=za3 n2;symm;rw [zjC];exact q'
  rw [List.filter_eq_self.mpr (fun _ _=>rfl),List.length_map,sl,zcX];have e5:(upd H4 p5 (.lst ((rs.map reaT).map V.str))) p5=some (.lst ((rs.map reaT).map V.str)):=zar;have s5:Same H4 (upd H4 p5 (.lst ((rs.map reaT).map V.str))):=zaH hp5;generalize upd H4 p5 (.lst ((rs.map reaT).map V.str))=H5 at e5 s5;have e45:=s5 _ _ e4;have S35:=s4.trans s5;have hS5:=S35.seq hS3;walk_at "st";refine zlD (fun σ J=>∃ (pa:Addr) (rows:List Str) (bs:List Act),σ=[some (.ref a),some (.ref p),some (.ref pa),some (.ref p5),none,none,none,none,none,none,none,none]∧Same H5 J∧J pa=some (.lst (rows.map V.str))∧Brg rows bs hs rs∧rows.length≤18) ?_ ?_
  ·intro nx' hnx;symm;refine zco e45 e5 (by simp only [List.length_map];omega) fun c1 J1 g1 t1 d1=>?_;symm;refine zco (t1 _ _ e5) (t1 _ _ e45) (by simp only [List.length_map];omega) fun c2 J2 g2 t2 d2=>?_;symm;refine zau (by simp) fun c3 J3 g3 t3 d3=>?_;have hSJ:=((t1.trans t2).trans t3).seq hS5;have d1':=t3 _ _ (t2 _ _ d1);have d2':=t3 _ _ d2;rw [← List.map_append] at d1' d2';have T3:=(t1.trans t2).trans t3;have BB:=Brg.both B0;symm;rcases (show zbO ns 0 % 2=0∨zbO ns 0 % 2=1 by omega) with z | z
   ·rw [z];refine zeo (SqL.of d3) rfl ?_;symm;exact hnx _ _ ⟨_,_,_,rfl,T3,d1',BB.1,by rw [List.length_append,List.length_map,List.length_map];omega⟩
   ·rw [z];refine zeo (SqL.of d3) rfl ?_;symm;exact hnx _ _ ⟨_,_,_,rfl,T3,d2',BB.2,by rw [List.length_append,List.length_map,List.length_map];omega⟩
  rintro σ J ⟨pa,rows,bs,rfl,t5,ea,BR,hrl⟩;have s3J:=S35.trans t5;have ehJ:=s3J _ _ eh3;have epJ:=s3J _ _ ep3;have LR:LL K J ps rs:=P1.ls.same s3J;have LKn:LL K J pr known:=P1.lr.same s3J;have hbl:rows.length=bs.length:=BR.ok.len;clear e45 hS5 hS3 hS e34 e5 e4 eh3 ep3 ep34 es3 kr3 r3 k3;symm;refine zau (by decide) fun m1 J1 g1 u1 d1=>?_;symm;refine zco (u1 _ _ ea) d1 (by rw [List.length_map];simp;omega) fun m4 J4 g4 u4 d4=>?_;have RO:=BR.ok.app more32_ok;have d4:J4 m4=some (.lst ((rows++([Str.ofString "against",Str.ofString "deal",Str.ofString "dealing",Str.ofString "due",Str.ofString "left",Str.ofString "marks",Str.ofString "against",Str.ofString "deal"]:List Str)).map V.str)):=by
   rw [d4,List.map_append];rfl
  have hml:(bs++more32).length=bs.length+8:=by rw [List.length_append];rfl
  have U4:=u1.trans u4;symm;refine zjS (as:=bs++more32) (P32 bs hs rs) d4 (by rw [List.length_append];simp;omega) RO (.inl ⟨Nat.zero_le _,rfl⟩) (fun i st hi hP=>hP.ok BR B0) (fun i st st' r hi hP hr=>hP.step BR A.right hi hr) fun p7 J7 an st7 u7 hal hR e7=>?_;rw [hml] at hal;obtain ⟨tt,FD,htl⟩:=zoj BR A.right B0 hR hal;obtain ⟨hr,hmin⟩:zaR hs rs tt=true∧∀ rows,zaR hs rs rows=true→nbB tt rows=true:=FD;have RP:=zby.mp hr;have hlen:=RP.len;have U7:=U4.trans u7;have ehK:=U7 _ _ ehJ;have epK:=U7 _ _ epJ;have eaK:=U7 _ _ ea;have LK:=LR.same U7;have MK:=LKn.same U7;symm;refine iteF ?_;symm;rw [List.length_map,List.length_map,hal,decide_eq_true (show ((bs.length+8:Nat):Int)=(rows.length:Int)+8 by rw [hbl];omega)];refine iteF ?_;symm;refine zaO (SqL.of e7) ?_;refine zdb (xs:=an.map V.str) (fun i σ J'=>∃ v8:Option V,σ=[some (.ref a),some (.ref p),some (.ref pa),some (.ref p5),some (.ref m1),some (.ref p7),v8,none,none,none,none,none]∧J7=J') ⟨none,rfl,rfl⟩ ?_ ?_ ?_
  ·rintro i σ J' _ ⟨v8,rfl,rfl⟩;exact SqL.of e7
  ·rintro i x σ J' hx ⟨v8,rfl,rfl⟩;obtain ⟨y,rfl⟩:∃ y:Str,x=.str y:=by
    rw [List.getElem?_map] at hx;obtain ⟨y,_,e⟩:=Option.map_eq_some_iff.mp hx;exact ⟨y,e.symm⟩
   symm;refine iteF ?_;symm;exact ⟨_,rfl,rfl⟩
  rintro σ J' ⟨v8,rfl,rfl⟩;symm;refine zbU (SqL.of e7) fun l9 J8 g8 u8 d8=>?_;rw [List.length_map,zes,← List.map_drop,hbl,htl] at d8;have d8w:J8 l9=some (.lst [.str "none",.str "dealt",.str (rowT (dltR tt)),.str (rowT (dueR (dueB tt []))),.str (rowT ((zbc rs tt).map tS)),.str (rowT (opnR hs.length)),.str "none",.str "refused: out of time"]):=d8;have ep8:=u8 _ _ epK;have eh8:=u8 _ _ ehK;obtain ⟨sps,ssq,ssl,ssr⟩:=LK.same u8;symm;refine zii (tt:=tt) (n:=rs.length) (by rw [hlen]) (by rw [ssl]) (by omega) B2 (zez hr) fun p9 J9 R9=>?_;have U9:=U7.trans (u8.trans R9.same);have eh9:=R9.same _ _ eh8;have ep9:=R9.same _ _ ep8;have d9:=R9.same _ _ d8;have d9w:=R9.same _ _ d8w;have L9:=LR.same U9;have M9:=LKn.same U9;obtain ⟨zt,hzt,_⟩:=R9.lst;clear d8 d8w ep8 eh8 ssq ssr LK MK e7 d4 d1 ehK epK eaK;symm;refine zg8 (SqL.of eh9) L9 B0.r2 ⟨_,hzt⟩ R9.ll (by omega) (by omega) (by omega) fun J10 u10=>?_;have R10:=R9.mono u10;have L10:=L9.same u10;have ep10:=u10 _ _ ep9;have d10:=u10 _ _ d9;have d10w:=u10 _ _ d9w;clear d9 d9w ep9 hzt;symm;rw [hr];symm;refine iteF ?_;symm;refine zd8 R10.ll (M9.same u10) (by rw [hlen,A.len]) (by have:=A.len;omega) (fun i hi=>RP.two i (by rw [← hlen];exact hi)) A.row2 ?_;rw [hmin known A.right];symm;refine iteF ?_;obtain ⟨psn,hn10,hnl,hnr⟩:LL K J10 p9 tt:=R10.ll;symm;refine zau (by decide) fun w0 J11 g11 u11 c11=>?_;have hn11:=u11.seq hn10;symm;refine zci (by omega) (by omega) ?_;have en':((psn.length:Int)).toNat=tt.length:=by omega
  rw [en'];refine zbM (fun i σ J'=>(∃ (w:Addr) (v10:Option V),σ=[some (.ref a),some (.ref p),some (.ref pa),some (.ref p5),some (.ref m1),some (.ref p7),v8,some (.ref l9),some (.ref p9),some (.ref w),v10,none]∧J' w=some (.lst ((dueR ((List.range i).flatMap fun k=>(zbu tt [] k).map fun r=>[(k:Int)+1,r])).map V.str)))∧Same J10 J'∧((List.range i).flatMap fun k=>(zbu tt [] k).map fun r=>[(k:Int)+1,r]).length≤3 * i) ⟨⟨w0,none,rfl,c11⟩,u11,by simp⟩ ?_ ?_
  ·rintro i σ J' hi ⟨⟨w,v10,rfl,ew⟩,sJ,hlw⟩;have hi:i < tt.length:=hi;have h2:=RP.two i (by rw [← hlen];exact hi);obtain ⟨fi,si,hfs⟩:=two_of h2;obtain ⟨_,g1,g2⟩:=zez hr i hi;rw [hfs] at g1 g2;have g1:1≤fi∧fi≤rs.length:=g1;have g2:1≤si∧si≤rs.length:=g2;have hrow:=hnr i hi;rw [hfs] at hrow;have hrow:J10 (psn.getD i 0)=some (.lst [.int fi,.int si]):=hrow;have hn':=sJ.seq hn10;have hrow':J' (psn.getD ((0:Int)+(i:Int)).toNat 0)=some (.lst [.int fi,.int si]):=by rw [show ((0:Int)+(i:Int)).toNat=i by omega];exact sJ _ _ hrow
   have n0:((0:Int)+(i:Int)+1).natAbs < 10 ^ 40:=by omega
   have n1:fi.natAbs < 10 ^ 40:=by omega
   have n2:si.natAbs < 10 ^ 40:=by omega
   have l0:(Str.ofString (toString ((0:Int)+(i:Int)+1))).length≤41:=za3 n0;have l1:(Str.ofString (toString fi)).length≤41:=za3 n1;have l2:(Str.ofString (toString si)).length≤41:=za3 n2;symm;refine zau (by simp) fun q1 K1 f1 s1 c1=>?_;symm;refine zco (s1 _ _ ew) c1 (by rw [List.length_map,show ∀ L:List (List Int),(dueR L).length=L.length from fun L=>List.length_map ..];show _+2≤1000;omega) fun q2 K2 f2 s2 c2=>?_;symm;refine ⟨⟨q2,_,rfl,?_⟩,(sJ.trans s1).trans s2,?_⟩
   ·rw [c2,zcP _ _ _ hi,zeg,hfs,Int.zero_add];unfold dueR;rw [List.map_append,List.map_append];rfl
   ·rw [zcP _ _ _ hi,zeg,hfs,List.length_append];simp only [List.length_map,List.length_cons,List.length_nil];omega
  rintro σ J12 ⟨⟨w,v10,rfl,ew⟩,s12,hlw⟩;have edu:((List.range tt.length).flatMap fun k=>(zbu tt [] k).map fun r=>[(k:Int)+1,r])=dueB tt []:=rfl;rw [edu] at ew hlw;have SDu:∀ x∈dueR (dueB tt []),x.length≤1000:=fun x hx=>by
   obtain ⟨r,hr',rfl⟩:=List.mem_map.mp hx;obtain ⟨k,r2,hk,hr2,rfl⟩:=zjm hr';rw [zeg] at hr2;obtain ⟨h2,g1,g2⟩:=zez hr k hk;obtain ⟨fi,si,hfs⟩:=two_of h2;rw [hfs] at g1 g2 hr2;have g1:1≤fi∧fi≤rs.length:=g1;have g2:1≤si∧si≤rs.length:=g2;have:r2=fi∨r2=si:=by simpa using hr2
   exact Nat.le_trans (zjI (k:=(k:Int)+1) (x:=r2) (by omega) (by omega)) (by decide)
  have d12:=s12 _ _ d10;have d12w:=s12 _ _ d10w;have ep12:=s12 _ _ ep10;have L12:=L10.same s12;have hn12:=s12.seq hn10;have N12:LL K J12 p9 tt:=⟨psn,hn12,hnl,fun i hi=>s12 _ _ (hnr i hi)⟩
  clear d10 d10w ep10 L10 R10 R9;symm;refine zcv ew SDu (by unfold dueR;rw [List.length_map];omega) fun J13 s13=>?_;symm;refine zau (by simp) fun q1 J14 g14 s14 w14=>?_;have S14:=s13.trans s14;have ep14:=S14 _ _ ep12;symm;refine zg9 (L12.same S14) (N12.same S14) (by omega) (by omega) B0.r2 fun p15 J15 f15 s15 e15=>?_;have ll8:(zbc rs tt).length=rs.length:=by unfold zbc;rw [List.length_map,List.length_range]
  have hbd:∀ x∈zbc rs tt,x.natAbs < 10 ^ 40:=fun x hx=>by
   obtain ⟨i,hi,rfl⟩:=List.mem_map.mp hx;have h1:=B0.rl i (List.mem_range.mp hi);have h2:cntB tt ((i:Int)+1)≤tt.length:=List.length_filter_le _ _;omega
  symm;refine zaO (SqL.of e15) ?_;refine zbe (zaU (SqL.of e15)) (zaK (by rw [List.length_map];omega)) (fun _=>true) (fun i=>.str (tS ((zbc rs tt).getD i 0))) (fun i H' Q' hi s q'=>q') (fun i H' Q' hi s _ q'=>?_) fun q2 hq2=>?_
  ·rw [List.length_map] at hi;have ex:(((zbc rs tt).map V.int).getD i .non)=.int ((zbc rs tt).getD i 0):=zck hi;rw [ex];show (_:TE) (some (.int _)::_) _ _;symm;exact zfi (hbd _ (getD_mem hi)) q'
  rw [List.filter_eq_self.mpr (fun _ _=>rfl),List.length_map,zcX];have w2:(upd J15 q2 (.lst (((zbc rs tt).map tS).map V.str))) q2=some (.lst (((zbc rs tt).map tS).map V.str)):=zar;have z2:Same J15 (upd J15 q2 (.lst (((zbc rs tt).map tS).map V.str))):=zaH hq2;generalize upd J15 q2 (.lst (((zbc rs tt).map tS).map V.str))=J16 at w2 z2;symm;refine zcv w2 (fun x hx=>?_) (by rw [List.length_map];omega) fun J17 s17=>?_
  ·obtain ⟨y,hy,rfl⟩:=List.mem_map.mp hx;have:=za3 (hbd y hy);omega
  have S17:=(s15.trans z2).trans s17;have w17:=S17 _ _ w14;symm;refine zaW w17 (by simp) fun J18 y18 w18=>?_;have U18:Same J12 J18:=fun c o e=>by rw [y18 _ (fun z=>by rw [z,s13.free g14] at e;cases e)];exact S17 _ _ (S14 _ _ e)
  have hn18:=U18.seq hn12;symm;refine zci (by omega) (by omega) ?_;rw [en'];refine zbe (zbE _ _ _) (zaK (by omega)) (fun _=>true) (fun i=>.str (opnT ((i:Int)+1))) (fun i H' Q' hi s q'=>q') (fun i H' Q' hi s _ q'=>?_) fun q3 hq3=>?_
  ·have hi:i < tt.length:=by simpa using hi
   have hn:((0:Int)+(i:Int)+1).natAbs < 10 ^ 40:=by omega
   have htl:(Str.ofString (toString ((0:Int)+(i:Int)+1))).length≤41:=za3 hn;symm;rw [show (0:Int)+(i:Int)+1=(i:Int)+1 by omega];exact q'
  rw [List.filter_eq_self.mpr (fun _ _=>rfl)];have em:(List.range tt.length).map (fun i:Nat=>V.str (opnT ((i:Int)+1)))=(opnR tt.length).map V.str:=by
   unfold opnR;rw [List.map_map];rfl
  rw [em];have hxo:∀ x∈opnR tt.length,x.length≤1000:=fun x hx=>by
   obtain ⟨i,hi,rfl⟩:=List.mem_map.mp hx;have:=List.mem_range.mp hi;exact Nat.le_trans (zjA (by omega)) (by decide)
  have w3:(upd J18 q3 (.lst ((opnR tt.length).map V.str))) q3=some (.lst ((opnR tt.length).map V.str)):=zar;have z3:Same J18 (upd J18 q3 (.lst ((opnR tt.length).map V.str))):=zaH hq3;generalize upd J18 q3 (.lst ((opnR tt.length).map V.str))=J19 at w3 z3;symm;refine zcv w3 hxo (by unfold opnR;rw [List.length_map,List.length_range];omega) fun J20 s20=>?_;have w20:=s20 _ _ (z3 _ _ w18);symm;refine zaW w20 (by simp) fun J21 y21 w21=>?_;have U21:Same J12 J21:=fun c o e=>by rw [y21 _ (fun z=>by rw [z,s13.free g14] at e;cases e)];exact s20 _ _ (z3 _ _ (U18 _ _ e))
  have d21:=U21 _ _ d12;symm;refine zau (by decide) fun q4 J22 g22 s22 w22=>?_;symm;refine zco (s22 _ _ w21) w22 (by simp) fun q5 J23 g23 s23 w23=>?_;have d23:=s23 _ _ (s22 _ _ d21);have w23:J23 q5=some (.lst ((zhx hs rs tt).map V.str)):=by
   rw [w23,hlen];rfl
  have hW:(zhx hs rs tt).length=8:=rfl;clear d12w d12 d21 w21 w20 w18 w17 w14;generalize zhx hs rs tt=W at *;symm;refine zci (by omega) (by omega) ?_;refine zbM (fun i σ J'=>∃ v10:Option V,σ=[some (.ref a),some (.ref p),some (.ref pa),some (.ref p5),some (.ref m1),some (.ref p7),v8,some (.ref l9),some (.ref p9),some (.ref w),v10,some (.ref q5)]∧J23=J') ⟨v10,rfl,rfl⟩ ?_ ?_
  ·rintro i σ J' hi ⟨v10,rfl,rfl⟩;have hi:i < 8:=hi;symm;refine zeo (SqL.of d23) (zfE (by omega)) ?_;symm;refine zeo (SqL.of w23) (zfE (by omega)) ?_;symm;refine zk5 ?_;rw [decide_eq_true rfl];symm;refine iteF ?_;symm;exact ⟨_,rfl,rfl⟩
  ·rintro σ J' ⟨v10,rfl,rfl⟩;symm;exact q _
theorem law_start {a:Addr} {ns:List Int} {H:Hp} (hl:ns.length≤63) (hS:SqL K H a (ns.map V.int)):zgw K [.ref a] H (fun v _=>v=.bl true) fun _ _ _=>False:=⟨rfl,a,ns,rfl,hS,hl,fun _=>rfl⟩
end
theorem znS {l:PySem.W.OpenLaw} {w:World} {K:PySem.W.Frag} {h:Heap} {mg:Str→Option Value} {fa:Addr} (X:K.In h) (G:h.Ns mainGlobals mg) (hfa:mg "law" = some (.ref fa))
  {C_Attempt:Addr} (aC_Attempt:PySem.W.nsIn K mainGlobals "Attempt" = some (some (.ref C_Attempt)))
  {C_Exam:Addr} (aC_Exam:PySem.W.nsIn K mainGlobals "Exam" = some (some (.ref C_Exam)))
  {tk_READERS_EACH:Tok}
  {tk_MOST_HOUSES:Tok}
  {tk_MOST_PAPERS:Tok}
  {tk_MOST_LIMIT:Tok}
  {tk_MOST_READERS:Tok}
  {tk_MOST_STEP:Tok}
  {tk_MOST_POINTS:Tok}
  {X_OutOfTime X_UnknownNumber X_NotDue X_OutOfBounds X_Full X_ReadError:Addr}
  {q_QUESTIONS:Addr} {qd_QUESTIONS:Option Addr} {qn_QUESTIONS:Nat} {qs_QUESTIONS:Array (Option Value)} {qt_QUESTIONS_0 qt_QUESTIONS_1 qt_QUESTIONS_2 qt_QUESTIONS_3 qt_QUESTIONS_4:Tok}
  (a0:PySem.W.nsIn K mainGlobals "_law_at" = some (some (.ref f0))) (l0:K.lookup f0=some ⟨oc0,od0,.func (PySem.W.fnOf "_law_at" "_law_at" (zan s_65) (zal s_65) (zab s_65) .none kV0 dc0 pm0 an0 cd0 ct0),sl0⟩) (c0:PySem.W.codeIn K cd0 "_law_at" = true) (k0:PySem.W.keepIn K (.ref f0)=true)
  (a1:PySem.W.nsIn K mainGlobals "_law_planted" = some (some (.ref f1))) (l1:K.lookup f1=some ⟨oc1,od1,.func (PySem.W.fnOf "_law_planted" "_law_planted" (zan s_67) (zal s_67) (zab s_67) .none kV1 dc1 pm1 an1 cd1 ct1),sl1⟩) (c1:PySem.W.codeIn K cd1 "_law_planted" = true) (k1:PySem.W.keepIn K (.ref f1)=true)
  (a2:PySem.W.findIn K (.ref C_Exam) "__init__" = some (some (.ref f2))) (i2:PySem.W.isFn K (.ref f2)=true) (l2:K.lookup f2=some ⟨oc2,od2,.func (PySem.W.fnOf "__init__" "Exam.__init__" (zan s_30) (zal s_30) (zab s_30) .none kV2 dc2 pm2 an2 cd2 ct2),sl2⟩) (c2:PySem.W.codeIn K cd2 "Exam.__init__" = true) (k2:PySem.W.keepIn K (.ref f2)=true)
  (a3:PySem.W.nsIn K mainGlobals "in_one_row" = some (some (.ref f3))) (l3:K.lookup f3=some ⟨oc3,od3,.func (PySem.W.fnOf "in_one_row" "in_one_row" (zan s_60) (zal s_60) (zab s_60) .none kV3 dc3 pm3 an3 cd3 ct3),sl3⟩) (c3:PySem.W.codeIn K cd3 "in_one_row" = true) (k3:PySem.W.keepIn K (.ref f3)=true)
  (a4:PySem.W.nsIn K mainGlobals "dealing_part" = some (some (.ref f4))) (l4:K.lookup f4=some ⟨oc4,od4,.func (PySem.W.fnOf "dealing_part" "dealing_part" (zan s_61) (zal s_61) (zab s_61) .none kV4 dc4 pm4 an4 cd4 ct4),sl4⟩) (c4:PySem.W.codeIn K cd4 "dealing_part" = true) (k4:PySem.W.keepIn K (.ref f4)=true)
  (a5:PySem.W.nsIn K mainGlobals "told_dealing" = some (some (.ref f5))) (l5:K.lookup f5=some ⟨oc5,od5,.func (PySem.W.fnOf "told_dealing" "told_dealing" (zan s_58) (zal s_58) (zab s_58) .none kV5 dc5 pm5 an5 cd5 ct5),sl5⟩) (c5:PySem.W.codeIn K cd5 "told_dealing" = true) (k5:PySem.W.keepIn K (.ref f5)=true)
  (a6:PySem.W.findIn K (.ref C_Exam) "dealing" = some (some (.ref f6))) (i6:PySem.W.isFn K (.ref f6)=true) (l6:K.lookup f6=some ⟨oc6,od6,.func (PySem.W.fnOf "dealing" "Exam.dealing" (zan s_40) (zal s_40) (zab s_40) .none kV6 dc6 pm6 an6 cd6 ct6),sl6⟩) (c6:PySem.W.codeIn K cd6 "Exam.dealing" = true) (k6:PySem.W.keepIn K (.ref f6)=true)
  (a7:PySem.W.nsIn K mainGlobals "told_against" = some (some (.ref f7))) (l7:K.lookup f7=some ⟨oc7,od7,.func (PySem.W.fnOf "told_against" "told_against" (zan s_59) (zal s_59) (zab s_59) .none kV7 dc7 pm7 an7 cd7 ct7),sl7⟩) (c7:PySem.W.codeIn K cd7 "told_against" = true) (k7:PySem.W.keepIn K (.ref f7)=true)
  (a8:PySem.W.nsIn K mainGlobals "greatest_of" = some (some (.ref f8))) (l8:K.lookup f8=some ⟨oc8,od8,.func (PySem.W.fnOf "greatest_of" "greatest_of" (zan s_4) (zal s_4) (zab s_4) .none kV8 dc8 pm8 an8 cd8 ct8),sl8⟩) (c8:PySem.W.codeIn K cd8 "greatest_of" = true) (k8:PySem.W.keepIn K (.ref f8)=true)
  (a9:PySem.W.nsIn K mainGlobals "sets_one_larger" = some (some (.ref f9))) (l9:K.lookup f9=some ⟨oc9,od9,.func (PySem.W.fnOf "sets_one_larger" "sets_one_larger" (zan s_3) (zal s_3) (zab s_3) .none kV9 dc9 pm9 an9 cd9 ct9),sl9⟩) (c9:PySem.W.codeIn K cd9 "sets_one_larger" = true) (k9:PySem.W.keepIn K (.ref f9)=true)
  (a10:PySem.W.nsIn K mainGlobals "sets_of" = some (some (.ref f10))) (l10:K.lookup f10=some ⟨oc10,od10,.func (PySem.W.fnOf "sets_of" "sets_of" (zan s_2) (zal s_2) (zab s_2) .none kV10 dc10 pm10 an10 cd10 ct10),sl10⟩) (c10:PySem.W.codeIn K cd10 "sets_of" = true) (k10:PySem.W.keepIn K (.ref f10)=true)
  (a11:PySem.W.nsIn K mainGlobals "may_read" = some (some (.ref f11))) (l11:K.lookup f11=some ⟨oc11,od11,.func (PySem.W.fnOf "may_read" "may_read" (zan s_0) (zal s_0) (zab s_0) .none kV11 dc11 pm11 an11 cd11 ct11),sl11⟩) (c11:PySem.W.codeIn K cd11 "may_read" = true) (k11:PySem.W.keepIn K (.ref f11)=true)
  (a12:PySem.W.nsIn K mainGlobals "room_of" = some (some (.ref f12))) (l12:K.lookup f12=some ⟨oc12,od12,.func (PySem.W.fnOf "room_of" "room_of" (zan s_6) (zal s_6) (zab s_6) .none kV12 dc12 pm12 an12 cd12 ct12),sl12⟩) (c12:PySem.W.codeIn K cd12 "room_of" = true) (k12:PySem.W.keepIn K (.ref f12)=true)
  (a13:PySem.W.nsIn K mainGlobals "room" = some (some (.ref f13))) (l13:K.lookup f13=some ⟨oc13,od13,.func (PySem.W.fnOf "room" "room" (zan s_5) (zal s_5) (zab s_5) .none kV13 dc13 pm13 an13 cd13 ct13),sl13⟩) (c13:PySem.W.codeIn K cd13 "room" = true) (k13:PySem.W.keepIn K (.ref f13)=true)
  (a14:PySem.W.nsIn K mainGlobals "is_against" = some (some (.ref f14))) (l14:K.lookup f14=some ⟨oc14,od14,.func (PySem.W.fnOf "is_against" "is_against" (zan s_7) (zal s_7) (zab s_7) .none kV14 dc14 pm14 an14 cd14 ct14),sl14⟩) (c14:PySem.W.codeIn K cd14 "is_against" = true) (k14:PySem.W.keepIn K (.ref f14)=true)
  (a15:PySem.W.nsIn K mainGlobals "first_against" = some (some (.ref f15))) (l15:K.lookup f15=some ⟨oc15,od15,.func (PySem.W.fnOf "first_against" "first_against" (zan s_8) (zal s_8) (zab s_8) .none kV15 dc15 pm15 an15 cd15 ct15),sl15⟩) (c15:PySem.W.codeIn K cd15 "first_against" = true) (k15:PySem.W.keepIn K (.ref f15)=true)
  (a16:PySem.W.findIn K (.ref C_Exam) "against" = some (some (.ref f16))) (i16:PySem.W.isFn K (.ref f16)=true) (l16:K.lookup f16=some ⟨oc16,od16,.func (PySem.W.fnOf "against" "Exam.against" (zan s_41) (zal s_41) (zab s_41) .none kV16 dc16 pm16 an16 cd16 ct16),sl16⟩) (c16:PySem.W.codeIn K cd16 "Exam.against" = true) (k16:PySem.W.keepIn K (.ref f16)=true)
  (a17:PySem.W.findIn K (.ref C_Exam) "due_readers" = some (some (.ref f17))) (i17:PySem.W.isFn K (.ref f17)=true) (l17:K.lookup f17=some ⟨oc17,od17,.func (PySem.W.fnOf "due_readers" "Exam.due_readers" (zan s_48) (zal s_48) (zab s_48) .none kV17 dc17 pm17 an17 cd17 ct17),sl17⟩) (c17:PySem.W.codeIn K cd17 "Exam.due_readers" = true) (k17:PySem.W.keepIn K (.ref f17)=true)
  (a18:PySem.W.findIn K (.ref C_Exam) "due" = some (some (.ref f18))) (i18:PySem.W.isFn K (.ref f18)=true) (l18:K.lookup f18=some ⟨oc18,od18,.func (PySem.W.fnOf "due" "Exam.due" (zan s_42) (zal s_42) (zab s_42) .none kV18 dc18 pm18 an18 cd18 ct18),sl18⟩) (c18:PySem.W.codeIn K cd18 "Exam.due" = true) (k18:PySem.W.keepIn K (.ref f18)=true)
  (a19:PySem.W.nsIn K mainGlobals "due_part" = some (some (.ref f19))) (l19:K.lookup f19=some ⟨oc19,od19,.func (PySem.W.fnOf "due_part" "due_part" (zan s_62) (zal s_62) (zab s_62) .none kV19 dc19 pm19 an19 cd19 ct19),sl19⟩) (c19:PySem.W.codeIn K cd19 "due_part" = true) (k19:PySem.W.keepIn K (.ref f19)=true)
  (a20:PySem.W.findIn K (.ref C_Exam) "points_for" = some (some (.ref f20))) (i20:PySem.W.isFn K (.ref f20)=true) (l20:K.lookup f20=some ⟨oc20,od20,.func (PySem.W.fnOf "points_for" "Exam.points_for" (zan s_49) (zal s_49) (zab s_49) .none kV20 dc20 pm20 an20 cd20 ct20),sl20⟩) (c20:PySem.W.codeIn K cd20 "Exam.points_for" = true) (k20:PySem.W.keepIn K (.ref f20)=true)
  (a21:PySem.W.nsIn K mainGlobals "mark_of" = some (some (.ref f21))) (l21:K.lookup f21=some ⟨oc21,od21,.func (PySem.W.fnOf "mark_of" "mark_of" (zan s_24) (zal s_24) (zab s_24) .none kV21 dc21 pm21 an21 cd21 ct21),sl21⟩) (c21:PySem.W.codeIn K cd21 "mark_of" = true) (k21:PySem.W.keepIn K (.ref f21)=true)
  (a22:PySem.W.findIn K (.ref C_Exam) "mark_for" = some (some (.ref f22))) (i22:PySem.W.isFn K (.ref f22)=true) (l22:K.lookup f22=some ⟨oc22,od22,.func (PySem.W.fnOf "mark_for" "Exam.mark_for" (zan s_50) (zal s_50) (zab s_50) .none kV22 dc22 pm22 an22 cd22 ct22),sl22⟩) (c22:PySem.W.codeIn K cd22 "Exam.mark_for" = true) (k22:PySem.W.keepIn K (.ref f22)=true)
  (a23:PySem.W.findIn K (.ref C_Exam) "marks" = some (some (.ref f23))) (i23:PySem.W.isFn K (.ref f23)=true) (l23:K.lookup f23=some ⟨oc23,od23,.func (PySem.W.fnOf "marks" "Exam.marks" (zan s_43) (zal s_43) (zab s_43) .none kV23 dc23 pm23 an23 cd23 ct23),sl23⟩) (c23:PySem.W.codeIn K cd23 "Exam.marks" = true) (k23:PySem.W.keepIn K (.ref f23)=true)
  (a24:PySem.W.nsIn K mainGlobals "reading_part" = some (some (.ref f24))) (l24:K.lookup f24=some ⟨oc24,od24,.func (PySem.W.fnOf "reading_part" "reading_part" (zan s_64) (zal s_64) (zab s_64) .none kV24 dc24 pm24 an24 cd24 ct24),sl24⟩) (c24:PySem.W.codeIn K cd24 "reading_part" = true) (k24:PySem.W.keepIn K (.ref f24)=true)
  (a25:PySem.W.nsIn K mainGlobals "mark_part" = some (some (.ref f25))) (l25:K.lookup f25=some ⟨oc25,od25,.func (PySem.W.fnOf "mark_part" "mark_part" (zan s_63) (zal s_63) (zab s_63) .none kV25 dc25 pm25 an25 cd25 ct25),sl25⟩) (c25:PySem.W.codeIn K cd25 "mark_part" = true) (k25:PySem.W.keepIn K (.ref f25)=true)
  (a26:PySem.W.nsIn K mainGlobals "times_in" = some (some (.ref f26))) (l26:K.lookup f26=some ⟨oc26,od26,.func (PySem.W.fnOf "times_in" "times_in" (zan s_15) (zal s_15) (zab s_15) .none kV26 dc26 pm26 an26 cd26 ct26),sl26⟩) (c26:PySem.W.codeIn K cd26 "times_in" = true) (k26:PySem.W.keepIn K (.ref f26)=true)
  (a27:PySem.W.nsIn K mainGlobals "left_after" = some (some (.ref f27))) (l27:K.lookup f27=some ⟨oc27,od27,.func (PySem.W.fnOf "left_after" "left_after" (zan s_14) (zal s_14) (zab s_14) .none kV27 dc27 pm27 an27 cd27 ct27),sl27⟩) (c27:PySem.W.codeIn K cd27 "left_after" = true) (k27:PySem.W.keepIn K (.ref f27)=true)
  (a28:PySem.W.findIn K (.ref C_Exam) "left" = some (some (.ref f28))) (i28:PySem.W.isFn K (.ref f28)=true) (l28:K.lookup f28=some ⟨oc28,od28,.func (PySem.W.fnOf "left" "Exam.left" (zan s_44) (zal s_44) (zab s_44) .none kV28 dc28 pm28 an28 cd28 ct28),sl28⟩) (c28:PySem.W.codeIn K cd28 "Exam.left" = true) (k28:PySem.W.keepIn K (.ref f28)=true)
  (a29:PySem.W.nsIn K mainGlobals "told_of" = some (some (.ref f29))) (l29:K.lookup f29=some ⟨oc29,od29,.func (PySem.W.fnOf "told_of" "told_of" (zan s_57) (zal s_57) (zab s_57) .none kV29 dc29 pm29 an29 cd29 ct29),sl29⟩) (c29:PySem.W.codeIn K cd29 "told_of" = true) (k29:PySem.W.keepIn K (.ref f29)=true)
  (a30:PySem.W.findIn K (.ref C_Exam) "refuse_behind_dealing" = some (some (.ref f30))) (i30:PySem.W.isFn K (.ref f30)=true) (l30:K.lookup f30=some ⟨oc30,od30,.func (PySem.W.fnOf "refuse_behind_dealing" "Exam.refuse_behind_dealing" (zan s_45) (zal s_45) (zab s_45) .none kV30 dc30 pm30 an30 cd30 ct30),sl30⟩) (c30:PySem.W.codeIn K cd30 "Exam.refuse_behind_dealing" = true) (k30:PySem.W.keepIn K (.ref f30)=true)
  (a31:PySem.W.nsIn K mainGlobals "refuse_unknown" = some (some (.ref f31))) (l31:K.lookup f31=some ⟨oc31,od31,.func (PySem.W.fnOf "refuse_unknown" "refuse_unknown" (zan s_26) (zal s_26) (zab s_26) .none kV31 dc31 pm31 an31 cd31 ct31),sl31⟩) (c31:PySem.W.codeIn K cd31 "refuse_unknown" = true) (k31:PySem.W.keepIn K (.ref f31)=true)
  (a32:PySem.W.nsIn K mainGlobals "refuse_full" = some (some (.ref f32))) (l32:K.lookup f32=some ⟨oc32,od32,.func (PySem.W.fnOf "refuse_full" "refuse_full" (zan s_28) (zal s_28) (zab s_28) .none kV32 dc32 pm32 an32 cd32 ct32),sl32⟩) (c32:PySem.W.codeIn K cd32 "refuse_full" = true) (k32:PySem.W.keepIn K (.ref f32)=true)
  (a33:PySem.W.findIn K (.ref C_Exam) "bring_paper" = some (some (.ref f33))) (i33:PySem.W.isFn K (.ref f33)=true) (l33:K.lookup f33=some ⟨oc33,od33,.func (PySem.W.fnOf "bring_paper" "Exam.bring_paper" (zan s_31) (zal s_31) (zab s_31) .none kV33 dc33 pm33 an33 cd33 ct33),sl33⟩) (c33:PySem.W.codeIn K cd33 "Exam.bring_paper" = true) (k33:PySem.W.keepIn K (.ref f33)=true)
  (a34:PySem.W.nsIn K mainGlobals "refuse_out_of_bounds" = some (some (.ref f34))) (l34:K.lookup f34=some ⟨oc34,od34,.func (PySem.W.fnOf "refuse_out_of_bounds" "refuse_out_of_bounds" (zan s_27) (zal s_27) (zab s_27) .none kV34 dc34 pm34 an34 cd34 ct34),sl34⟩) (c34:PySem.W.codeIn K cd34 "refuse_out_of_bounds" = true) (k34:PySem.W.keepIn K (.ref f34)=true)
  (a35:PySem.W.findIn K (.ref C_Exam) "bring_reader" = some (some (.ref f35))) (i35:PySem.W.isFn K (.ref f35)=true) (l35:K.lookup f35=some ⟨oc35,od35,.func (PySem.W.fnOf "bring_reader" "Exam.bring_reader" (zan s_32) (zal s_32) (zab s_32) .none kV35 dc35 pm35 an35 cd35 ct35),sl35⟩) (c35:PySem.W.codeIn K cd35 "Exam.bring_reader" = true) (k35:PySem.W.keepIn K (.ref f35)=true)
  (a36:PySem.W.findIn K (.ref C_Exam) "set_step" = some (some (.ref f36))) (i36:PySem.W.isFn K (.ref f36)=true) (l36:K.lookup f36=some ⟨oc36,od36,.func (PySem.W.fnOf "set_step" "Exam.set_step" (zan s_33) (zal s_33) (zab s_33) .none kV36 dc36 pm36 an36 cd36 ct36),sl36⟩) (c36:PySem.W.codeIn K cd36 "Exam.set_step" = true) (k36:PySem.W.keepIn K (.ref f36)=true)
  (a37:PySem.W.findIn K (.ref C_Exam) "enter" = some (some (.ref f37))) (i37:PySem.W.isFn K (.ref f37)=true) (l37:K.lookup f37=some ⟨oc37,od37,.func (PySem.W.fnOf "enter" "Exam.enter" (zan s_35) (zal s_35) (zab s_35) .none kV37 dc37 pm37 an37 cd37 ct37),sl37⟩) (c37:PySem.W.codeIn K cd37 "Exam.enter" = true) (k37:PySem.W.keepIn K (.ref f37)=true)
  (a38:PySem.W.nsIn K mainGlobals "pairs_of" = some (some (.ref f38))) (l38:K.lookup f38=some ⟨oc38,od38,.func (PySem.W.fnOf "pairs_of" "pairs_of" (zan s_18) (zal s_18) (zab s_18) .none kV38 dc38 pm38 an38 cd38 ct38),sl38⟩) (c38:PySem.W.codeIn K cd38 "pairs_of" = true) (k38:PySem.W.keepIn K (.ref f38)=true)
  (a39:PySem.W.nsIn K mainGlobals "readers_for" = some (some (.ref f39))) (l39:K.lookup f39=some ⟨oc39,od39,.func (PySem.W.fnOf "readers_for" "readers_for" (zan s_1) (zal s_1) (zab s_1) .none kV39 dc39 pm39 an39 cd39 ct39),sl39⟩) (c39:PySem.W.codeIn K cd39 "readers_for" = true) (k39:PySem.W.keepIn K (.ref f39)=true)
  (a40:PySem.W.nsIn K mainGlobals "keeps_to_limits" = some (some (.ref f40))) (l40:K.lookup f40=some ⟨oc40,od40,.func (PySem.W.fnOf "keeps_to_limits" "keeps_to_limits" (zan s_13) (zal s_13) (zab s_13) .none kV40 dc40 pm40 an40 cd40 ct40),sl40⟩) (c40:PySem.W.codeIn K cd40 "keeps_to_limits" = true) (k40:PySem.W.keepIn K (.ref f40)=true)
  (a41:PySem.W.findIn K (.ref C_Attempt) "__init__" = some (some (.ref f41))) (i41:PySem.W.isFn K (.ref f41)=true) (l41:K.lookup f41=some ⟨oc41,od41,.func (PySem.W.fnOf "__init__" "Attempt.__init__" (zan s_Attempt___init__) (zal s_Attempt___init__) (zab s_Attempt___init__) .none kV41 dc41 pm41 an41 cd41 ct41),sl41⟩) (c41:PySem.W.codeIn K cd41 "Attempt.__init__" = true) (k41:PySem.W.keepIn K (.ref f41)=true)
  (a42:PySem.W.findIn K (.ref C_Attempt) "free_reading" = some (some (.ref f42))) (i42:PySem.W.isFn K (.ref f42)=true) (l42:K.lookup f42=some ⟨oc42,od42,.func (PySem.W.fnOf "free_reading" "Attempt.free_reading" (zan s_Attempt_free_reading) (zal s_Attempt_free_reading) (zab s_Attempt_free_reading) .none kV42 dc42 pm42 an42 cd42 ct42),sl42⟩) (c42:PySem.W.codeIn K cd42 "Attempt.free_reading" = true) (k42:PySem.W.keepIn K (.ref f42)=true)
  (a43:PySem.W.findIn K (.ref C_Attempt) "find_reader" = some (some (.ref f43))) (i43:PySem.W.isFn K (.ref f43)=true) (l43:K.lookup f43=some ⟨oc43,od43,.func (PySem.W.fnOf "find_reader" "Attempt.find_reader" (zan s_Attempt_find_reader) (zal s_Attempt_find_reader) (zab s_Attempt_find_reader) .none kV43 dc43 pm43 an43 cd43 ct43),sl43⟩) (c43:PySem.W.codeIn K cd43 "Attempt.find_reader" = true) (k43:PySem.W.keepIn K (.ref f43)=true)
  (a44:PySem.W.nsIn K mainGlobals "readers_suffice" = some (some (.ref f44))) (l44:K.lookup f44=some ⟨oc44,od44,.func (PySem.W.fnOf "readers_suffice" "readers_suffice" (zan s_9) (zal s_9) (zab s_9) .none kV44 dc44 pm44 an44 cd44 ct44),sl44⟩) (c44:PySem.W.codeIn K cd44 "readers_suffice" = true) (k44:PySem.W.keepIn K (.ref f44)=true)
  (a45:PySem.W.nsIn K mainGlobals "with_limits" = some (some (.ref f45))) (l45:K.lookup f45=some ⟨oc45,od45,.func (PySem.W.fnOf "with_limits" "with_limits" (zan s_20) (zal s_20) (zab s_20) .none kV45 dc45 pm45 an45 cd45 ct45),sl45⟩) (c45:PySem.W.codeIn K cd45 "with_limits" = true) (k45:PySem.W.keepIn K (.ref f45)=true)
  (a46:PySem.W.nsIn K mainGlobals "can_go_on" = some (some (.ref f46))) (l46:K.lookup f46=some ⟨oc46,od46,.func (PySem.W.fnOf "can_go_on" "can_go_on" (zan s_19) (zal s_19) (zab s_19) .none kV46 dc46 pm46 an46 cd46 ct46),sl46⟩) (c46:PySem.W.codeIn K cd46 "can_go_on" = true) (k46:PySem.W.keepIn K (.ref f46)=true)
  (a47:PySem.W.nsIn K mainGlobals "first_row_behind" = some (some (.ref f47))) (l47:K.lookup f47=some ⟨oc47,od47,.func (PySem.W.fnOf "first_row_behind" "first_row_behind" (zan s_17) (zal s_17) (zab s_17) .none kV47 dc47 pm47 an47 cd47 ct47),sl47⟩) (c47:PySem.W.codeIn K cd47 "first_row_behind" = true) (k47:PySem.W.keepIn K (.ref f47)=true)
  (a48:PySem.W.nsIn K mainGlobals "first_dealing" = some (some (.ref f48))) (l48:K.lookup f48=some ⟨oc48,od48,.func (PySem.W.fnOf "first_dealing" "first_dealing" (zan s_16) (zal s_16) (zab s_16) .none kV48 dc48 pm48 an48 cd48 ct48),sl48⟩) (c48:PySem.W.codeIn K cd48 "first_dealing" = true) (k48:PySem.W.keepIn K (.ref f48)=true)
  (a49:PySem.W.findIn K (.ref C_Exam) "deal" = some (some (.ref f49))) (i49:PySem.W.isFn K (.ref f49)=true) (l49:K.lookup f49=some ⟨oc49,od49,.func (PySem.W.fnOf "deal" "Exam.deal" (zan s_34) (zal s_34) (zab s_34) .none kV49 dc49 pm49 an49 cd49 ct49),sl49⟩) (c49:PySem.W.codeIn K cd49 "Exam.deal" = true) (k49:PySem.W.keepIn K (.ref f49)=true)
  (a50:PySem.W.nsIn K mainGlobals "done" = some (some (.ref f50))) (l50:K.lookup f50=some ⟨oc50,od50,.func (PySem.W.fnOf "done" "done" (zan s_56) (zal s_56) (zab s_56) .none kV50 dc50 pm50 an50 cd50 ct50),sl50⟩) (c50:PySem.W.codeIn K cd50 "done" = true) (k50:PySem.W.keepIn K (.ref f50)=true)
  (a51:PySem.W.nsIn K mainGlobals "done_or_refused" = some (some (.ref f51))) (l51:K.lookup f51=some ⟨oc51,od51,.func (PySem.W.fnOf "done_or_refused" "done_or_refused" (zan s_55) (zal s_55) (zab s_55) .none kV51 dc51 pm51 an51 cd51 ct51),sl51⟩) (c51:PySem.W.codeIn K cd51 "done_or_refused" = true) (k51:PySem.W.keepIn K (.ref f51)=true)
  (a52:PySem.W.nsIn K mainGlobals "answer_to" = some (some (.ref f52))) (l52:K.lookup f52=some ⟨oc52,od52,.func (PySem.W.fnOf "answer_to" "answer_to" (zan s_54) (zal s_54) (zab s_54) .none kV52 dc52 pm52 an52 cd52 ct52),sl52⟩) (c52:PySem.W.codeIn K cd52 "answer_to" = true) (k52:PySem.W.keepIn K (.ref f52)=true)
  (a53:PySem.W.nsIn K mainGlobals "answers" = some (some (.ref f53))) (l53:K.lookup f53=some ⟨oc53,od53,.func (PySem.W.fnOf "answers" "answers" (zan s_53) (zal s_53) (zab s_53) .none kV53 dc53 pm53 an53 cd53 ct53),sl53⟩) (c53:PySem.W.codeIn K cd53 "answers" = true) (k53:PySem.W.keepIn K (.ref f53)=true)
  (a54:PySem.W.nsIn K mainGlobals "_law_read" = some (some (.ref f54))) (l54:K.lookup f54=some ⟨oc54,od54,.func (PySem.W.fnOf "_law_read" "_law_read" (zan s_72) (zal s_72) (zab s_72) .none kV54 dc54 pm54 an54 cd54 ct54),sl54⟩) (c54:PySem.W.codeIn K cd54 "_law_read" = true) (k54:PySem.W.keepIn K (.ref f54)=true)
  (a55:PySem.W.nsIn K mainGlobals "_law_not_behind" = some (some (.ref f55))) (l55:K.lookup f55=some ⟨oc55,od55,.func (PySem.W.fnOf "_law_not_behind" "_law_not_behind" (zan s_70) (zal s_70) (zab s_70) .none kV55 dc55 pm55 an55 cd55 ct55),sl55⟩) (c55:PySem.W.codeIn K cd55 "_law_not_behind" = true) (k55:PySem.W.keepIn K (.ref f55)=true)
  (a56:PySem.W.nsIn K mainGlobals "_law_whole" = some (some (.ref f56))) (l56:K.lookup f56=some ⟨oc56,od56,.func (PySem.W.fnOf "_law_whole" "_law_whole" (zan s_66) (zal s_66) (zab s_66) .none kV56 dc56 pm56 an56 cd56 ct56),sl56⟩) (c56:PySem.W.codeIn K cd56 "_law_whole" = true) (k56:PySem.W.keepIn K (.ref f56)=true)
  (a57:PySem.W.nsIn K mainGlobals "_law_pair" = some (some (.ref f57))) (l57:K.lookup f57=some ⟨oc57,od57,.func (PySem.W.fnOf "_law_pair" "_law_pair" (zan s_68) (zal s_68) (zab s_68) .none kV57 dc57 pm57 an57 cd57 ct57),sl57⟩) (c57:PySem.W.codeIn K cd57 "_law_pair" = true) (k57:PySem.W.keepIn K (.ref f57)=true)
  (a58:PySem.W.nsIn K mainGlobals "_law_right" = some (some (.ref f58))) (l58:K.lookup f58=some ⟨oc58,od58,.func (PySem.W.fnOf "_law_right" "_law_right" (zan s_69) (zal s_69) (zab s_69) .none kV58 dc58 pm58 an58 cd58 ct58),sl58⟩) (c58:PySem.W.codeIn K cd58 "_law_right" = true) (k58:PySem.W.keepIn K (.ref f58)=true)
  (a59:PySem.W.nsIn K mainGlobals "_law_or_none" = some (some (.ref f59))) (l59:K.lookup f59=some ⟨oc59,od59,.func (PySem.W.fnOf "_law_or_none" "_law_or_none" (zan s_73) (zal s_73) (zab s_73) .none kV59 dc59 pm59 an59 cd59 ct59),sl59⟩) (c59:PySem.W.codeIn K cd59 "_law_or_none" = true) (k59:PySem.W.keepIn K (.ref f59)=true)
  (a60:PySem.W.nsIn K mainGlobals "_law_spare" = some (some (.ref f60))) (l60:K.lookup f60=some ⟨oc60,od60,.func (PySem.W.fnOf "_law_spare" "_law_spare" (zan s_71) (zal s_71) (zab s_71) .none kV60 dc60 pm60 an60 cd60 ct60),sl60⟩) (c60:PySem.W.codeIn K cd60 "_law_spare" = true) (k60:PySem.W.keepIn K (.ref f60)=true)
  (a61:PySem.W.nsIn K mainGlobals "law" = some (some (.ref f61))) (l61:K.lookup f61=some ⟨oc61,od61,.func (PySem.W.fnOf "law" "law" (zan s_74) (zal s_74) (zab s_74) .none kV61 dc61 pm61 an61 cd61 ct61),sl61⟩) (c61:PySem.W.codeIn K cd61 "law" = true) (k61:PySem.W.keepIn K (.ref f61)=true)
  (z_abs:PySem.W.nsIn K mainGlobals "abs" = some none)
  (z_all:PySem.W.nsIn K mainGlobals "all" = some none)
  (z_bool:PySem.W.nsIn K mainGlobals "bool" = some none)
  (z_enumerate:PySem.W.nsIn K mainGlobals "enumerate" = some none)
  (z_int:PySem.W.nsIn K mainGlobals "int" = some none)
  (z_isinstance:PySem.W.nsIn K mainGlobals "isinstance" = some none)
  (z_len:PySem.W.nsIn K mainGlobals "len" = some none)
  (z_list:PySem.W.nsIn K mainGlobals "list" = some none)
  (z_max:PySem.W.nsIn K mainGlobals "max" = some none)
  (z_min:PySem.W.nsIn K mainGlobals "min" = some none)
  (z_range:PySem.W.nsIn K mainGlobals "range" = some none)
  (z_sorted:PySem.W.nsIn K mainGlobals "sorted" = some none)
  (z_str:PySem.W.nsIn K mainGlobals "str" = some none)
  (z_sum:PySem.W.nsIn K mainGlobals "sum" = some none)
  (z_zip:PySem.W.nsIn K mainGlobals "zip" = some none)
  (pg_Attempt:PySem.W.plainGet K C_Attempt Str.empty=true) (hd_Attempt:PySem.W.hasDictIn K C_Attempt=true) (po_Attempt:PySem.W.plainOver K C_Attempt=true) (sa_Attempt:PySem.W.findIn K (.ref C_Attempt) "__setattr__" = some (some (.builtin "object.__setattr__"))) (mk_Attempt:PySem.W.makesIn K C_Attempt=true) (kc_Attempt:PySem.W.keepIn K (.ref C_Attempt)=true)
  (n_Attempt_allowed:PySem.W.findIn K (.ref C_Attempt) "allowed" = some none)
  (n_Attempt_given:PySem.W.findIn K (.ref C_Attempt) "given" = some none)
  (n_Attempt_spare:PySem.W.findIn K (.ref C_Attempt) "spare" = some none)
  (pg_Exam:PySem.W.plainGet K C_Exam Str.empty=true) (hd_Exam:PySem.W.hasDictIn K C_Exam=true) (po_Exam:PySem.W.plainOver K C_Exam=true) (sa_Exam:PySem.W.findIn K (.ref C_Exam) "__setattr__" = some (some (.builtin "object.__setattr__"))) (mk_Exam:PySem.W.makesIn K C_Exam=true) (kc_Exam:PySem.W.keepIn K (.ref C_Exam)=true)
  (n_Exam_paper_houses:PySem.W.findIn K (.ref C_Exam) "paper_houses" = some none)
  (n_Exam_reader_rows:PySem.W.findIn K (.ref C_Exam) "reader_rows" = some none)
  (n_Exam_widest_step:PySem.W.findIn K (.ref C_Exam) "widest_step" = some none)
  (n_Exam_is_dealt:PySem.W.findIn K (.ref C_Exam) "is_dealt" = some none)
  (n_Exam_named_readers:PySem.W.findIn K (.ref C_Exam) "named_readers" = some none)
  (n_Exam_entered_points:PySem.W.findIn K (.ref C_Exam) "entered_points" = some none)
  (v_READERS_EACH:PySem.W.nsIn K mainGlobals "READERS_EACH" = some (some (.int 2 tk_READERS_EACH)))
  (v_MOST_HOUSES:PySem.W.nsIn K mainGlobals "MOST_HOUSES" = some (some (.int 6 tk_MOST_HOUSES)))
  (v_MOST_PAPERS:PySem.W.nsIn K mainGlobals "MOST_PAPERS" = some (some (.int 10 tk_MOST_PAPERS)))
  (v_MOST_LIMIT:PySem.W.nsIn K mainGlobals "MOST_LIMIT" = some (some (.int 30 tk_MOST_LIMIT)))
  (v_MOST_READERS:PySem.W.nsIn K mainGlobals "MOST_READERS" = some (some (.int 8 tk_MOST_READERS)))
  (v_MOST_STEP:PySem.W.nsIn K mainGlobals "MOST_STEP" = some (some (.int 100 tk_MOST_STEP)))
  (v_MOST_POINTS:PySem.W.nsIn K mainGlobals "MOST_POINTS" = some (some (.int 100 tk_MOST_POINTS)))
  (v_QUESTIONS:PySem.W.nsIn K mainGlobals "QUESTIONS" = some (some (.ref q_QUESTIONS))) (lq_QUESTIONS:K.lookup q_QUESTIONS=some ⟨.type "tuple",qd_QUESTIONS,.seq #[.str "dealing" qt_QUESTIONS_0,.str "against" qt_QUESTIONS_1,.str "due" qt_QUESTIONS_2,.str "marks" qt_QUESTIONS_3,.str "left" qt_QUESTIONS_4] qn_QUESTIONS,qs_QUESTIONS⟩)
  (mx_OutOfTime:PySem.W.nsIn K mainGlobals "OutOfTime" = some (some (.ref X_OutOfTime)))
  (mx_UnknownNumber:PySem.W.nsIn K mainGlobals "UnknownNumber" = some (some (.ref X_UnknownNumber)))
  (mx_NotDue:PySem.W.nsIn K mainGlobals "NotDue" = some (some (.ref X_NotDue)))
  (mx_OutOfBounds:PySem.W.nsIn K mainGlobals "OutOfBounds" = some (some (.ref X_OutOfBounds)))
  (mx_Full:PySem.W.nsIn K mainGlobals "Full" = some (some (.ref X_Full)))
  (mx_ReadError:PySem.W.nsIn K mainGlobals "ReadError" = some (some (.ref X_ReadError)))
  (xc_OutOfTime:PySem.W.excIn K X_OutOfTime [.type "ValueError",.type "Exception",.type "BaseException",.type "object"] "ValueError.__new__" = true)
  (xc_UnknownNumber:PySem.W.excIn K X_UnknownNumber [.type "ValueError",.type "Exception",.type "BaseException",.type "object"] "ValueError.__new__" = true)
  (xc_OutOfBounds:PySem.W.excIn K X_OutOfBounds [.type "ValueError",.type "Exception",.type "BaseException",.type "object"] "ValueError.__new__" = true)
  (xc_Full:PySem.W.excIn K X_Full [.type "ValueError",.type "Exception",.type "BaseException",.type "object"] "ValueError.__new__" = true)
  (x_OutOfTime_OutOfTime:PySem.W.exmOne K (.ref X_OutOfTime) (.ref X_OutOfTime)=some true)
  (x_OutOfTime_UnknownNumber:PySem.W.exmOne K (.ref X_OutOfTime) (.ref X_UnknownNumber)=some false)
  (x_OutOfTime_NotDue:PySem.W.exmOne K (.ref X_OutOfTime) (.ref X_NotDue)=some false)
  (x_OutOfTime_OutOfBounds:PySem.W.exmOne K (.ref X_OutOfTime) (.ref X_OutOfBounds)=some false)
  (x_OutOfTime_Full:PySem.W.exmOne K (.ref X_OutOfTime) (.ref X_Full)=some false)
  (x_UnknownNumber_OutOfTime:PySem.W.exmOne K (.ref X_UnknownNumber) (.ref X_OutOfTime)=some false)
  (x_UnknownNumber_UnknownNumber:PySem.W.exmOne K (.ref X_UnknownNumber) (.ref X_UnknownNumber)=some true)
  (x_UnknownNumber_NotDue:PySem.W.exmOne K (.ref X_UnknownNumber) (.ref X_NotDue)=some false)
  (x_UnknownNumber_OutOfBounds:PySem.W.exmOne K (.ref X_UnknownNumber) (.ref X_OutOfBounds)=some false)
  (x_UnknownNumber_Full:PySem.W.exmOne K (.ref X_UnknownNumber) (.ref X_Full)=some false)
  (x_OutOfBounds_OutOfTime:PySem.W.exmOne K (.ref X_OutOfBounds) (.ref X_OutOfTime)=some false)
  (x_OutOfBounds_UnknownNumber:PySem.W.exmOne K (.ref X_OutOfBounds) (.ref X_UnknownNumber)=some false)
  (x_OutOfBounds_NotDue:PySem.W.exmOne K (.ref X_OutOfBounds) (.ref X_NotDue)=some false)
  (x_OutOfBounds_OutOfBounds:PySem.W.exmOne K (.ref X_OutOfBounds) (.ref X_OutOfBounds)=some true)
  (x_OutOfBounds_Full:PySem.W.exmOne K (.ref X_OutOfBounds) (.ref X_Full)=some false)
  (x_Full_OutOfTime:PySem.W.exmOne K (.ref X_Full) (.ref X_OutOfTime)=some false)
  (x_Full_UnknownNumber:PySem.W.exmOne K (.ref X_Full) (.ref X_UnknownNumber)=some false)
  (x_Full_NotDue:PySem.W.exmOne K (.ref X_Full) (.ref X_NotDue)=some false)
  (x_Full_OutOfBounds:PySem.W.exmOne K (.ref X_Full) (.ref X_OutOfBounds)=some false)
  (x_Full_Full:PySem.W.exmOne K (.ref X_Full) (.ref X_Full)=some true)
  : ∃ fd:FuncData,(∀ (s:Shared) (v:Value),BindsTo s fd ⟨[v],[]⟩ [("_law_script",v)])∧∀ base:Heap,K.In base→base.Ns mainGlobals mg→FnOk l.prog w K mg base CX0 27 fa fd ["_law_script"] (zgw K):=by
 have e:=hfa.symm.trans (PySem.W.mg_of X G a61)
 cases e
 have F0:=zav (st:=s_65) l0 c0 k0;have F1:=zav (st:=s_67) l1 c1 k1;have F2:=zav (st:=s_30) l2 c2 k2;have F3:=zav (st:=s_60) l3 c3 k3;have F4:=zav (st:=s_61) l4 c4 k4;have F5:=zav (st:=s_58) l5 c5 k5;have F6:=zav (st:=s_40) l6 c6 k6;have F7:=zav (st:=s_59) l7 c7 k7;have F8:=zav (st:=s_4) l8 c8 k8;have F9:=zav (st:=s_3) l9 c9 k9;have F10:=zav (st:=s_2) l10 c10 k10;have F11:=zav (st:=s_0) l11 c11 k11;have F12:=zav (st:=s_6) l12 c12 k12;have F13:=zav (st:=s_5) l13 c13 k13;have F14:=zav (st:=s_7) l14 c14 k14;have F15:=zav (st:=s_8) l15 c15 k15;have F16:=zav (st:=s_41) l16 c16 k16;have F17:=zav (st:=s_48) l17 c17 k17;have F18:=zav (st:=s_42) l18 c18 k18;have F19:=zav (st:=s_62) l19 c19 k19;have F20:=zav (st:=s_49) l20 c20 k20;have F21:=zav (st:=s_24) l21 c21 k21;have F22:=zav (st:=s_50) l22 c22 k22;have F23:=zav (st:=s_43) l23 c23 k23;have F24:=zav (st:=s_64) l24 c24 k24;have F25:=zav (st:=s_63) l25 c25 k25;have F26:=zav (st:=s_15) l26 c26 k26;have F27:=zav (st:=s_14) l27 c27 k27;have F28:=zav (st:=s_44) l28 c28 k28;have F29:=zav (st:=s_57) l29 c29 k29;have F30:=zav (st:=s_45) l30 c30 k30;have F31:=zav (st:=s_26) l31 c31 k31;have F32:=zav (st:=s_28) l32 c32 k32;have F33:=zav (st:=s_31) l33 c33 k33;have F34:=zav (st:=s_27) l34 c34 k34;have F35:=zav (st:=s_32) l35 c35 k35;have F36:=zav (st:=s_33) l36 c36 k36;have F37:=zav (st:=s_35) l37 c37 k37;have F38:=zav (st:=s_18) l38 c38 k38;have F39:=zav (st:=s_1) l39 c39 k39;have F40:=zav (st:=s_13) l40 c40 k40;have F41:=zav (st:=s_Attempt___init__) l41 c41 k41;have F42:=zav (st:=s_Attempt_free_reading) l42 c42 k42;have F43:=zav (st:=s_Attempt_find_reader) l43 c43 k43;have F44:=zav (st:=s_9) l44 c44 k44;have F45:=zav (st:=s_20) l45 c45 k45;have F46:=zav (st:=s_19) l46 c46 k46;have F47:=zav (st:=s_17) l47 c47 k47;have F48:=zav (st:=s_16) l48 c48 k48;have F49:=zav (st:=s_34) l49 c49 k49;have F50:=zav (st:=s_56) l50 c50 k50;have F51:=zav (st:=s_55) l51 c51 k51;have F52:=zav (st:=s_54) l52 c52 k52;have F53:=zav (st:=s_53) l53 c53 k53;have F54:=zav (st:=s_72) l54 c54 k54;have F55:=zav (st:=s_70) l55 c55 k55;have F56:=zav (st:=s_66) l56 c56 k56;have F57:=zav (st:=s_68) l57 c57 k57;have F58:=zav (st:=s_69) l58 c58 k58;have F59:=zav (st:=s_73) l59 c59 k59;have F60:=zav (st:=s_71) l60 c60 k60;have F61:=zav (st:=s_74) l61 c61 k61;have T:Txt K mg ⟨_,_,_,_,_,_,_,_,_,_,_,_,_,_,_,_,_,_,_,_,_,_,_,_,_,_,_,_,_,_,_,_,_,_,_,_,_,_,_,_,_,_,_,_,_,_,_,_,_,_,_,_,_,_,_,_,_,_,_,_,_,_,_,_,_,_,_,_,_,_,_,_,_,_,_,_,_,_,_,_,_,_,_,_,_,_,_,_,_,_,_,_,_,_,_,_,_,_,_,_,_,_,_,_,_,_,_,_,_,_,_,_,_,_,_,_,_,_,_,_,_,_,_,_,_,_,_,_,_,_,_,_,_,_,⟨X_OutOfTime,X_UnknownNumber,X_NotDue,X_OutOfBounds,X_Full,X_ReadError⟩⟩:=⟨F0,F0.binds (ps:=["_law_script","_law_k"]) (fun _ _ _ _ _ _ us hl=>match us,hl with | [_,_],_=>rfl),PySem.W.mg_of X G a0,F1,F1.binds (ps:=["_law_script","_law_first","_law_least"]) (fun _ _ _ _ _ _ us hl=>match us,hl with | [_,_,_],_=>rfl),PySem.W.mg_of X G a1,F2,F2.binds (ps:=["self"]) (fun _ _ _ _ _ _ us hl=>match us,hl with | [_],_=>rfl),⟨mk_Exam,a2,i2,kc_Exam⟩,F3,F3.binds (ps:=["parts"]) (fun _ _ _ _ _ _ us hl=>match us,hl with | [_],_=>rfl),PySem.W.mg_of X G a3,F4,F4.binds (ps:=["paper","first","second"]) (fun _ _ _ _ _ _ us hl=>match us,hl with | [_,_,_],_=>rfl),PySem.W.mg_of X G a4,F5,F5.binds (ps:=["rows"]) (fun _ _ _ _ _ _ us hl=>match us,hl with | [_],_=>rfl),PySem.W.mg_of X G a5,F6,F6.binds (ps:=["self"]) (fun _ _ _ _ _ _ us hl=>match us,hl with | [_],_=>rfl),⟨a6,i6,k6⟩,F7,F7.binds (ps:=["chosen"]) (fun _ _ _ _ _ _ us hl=>match us,hl with | [_],_=>rfl),PySem.W.mg_of X G a7,F8,F8.binds (ps:=["chosen"]) (fun _ _ _ _ _ _ us hl=>match us,hl with | [_],_=>rfl),PySem.W.mg_of X G a8,F9,F9.binds (ps:=["of_one_size","many"]) (fun _ _ _ _ _ _ us hl=>match us,hl with | [_,_],_=>rfl),PySem.W.mg_of X G a9,F10,F10.binds (ps:=["many"]) (fun _ _ _ _ _ _ us hl=>match us,hl with | [_],_=>rfl),PySem.W.mg_of X G a10,F11,F11.binds (ps:=["papers","readers","paper","reader"]) (fun _ _ _ _ _ _ us hl=>match us,hl with | [_,_,_,_],_=>rfl),PySem.W.mg_of X G a11,F12,F12.binds (ps:=["papers","readers","chosen","reader"]) (fun _ _ _ _ _ _ us hl=>match us,hl with | [_,_,_,_],_=>rfl),PySem.W.mg_of X G a12,F13,F13.binds (ps:=["papers","readers","chosen"]) (fun _ _ _ _ _ _ us hl=>match us,hl with | [_,_,_],_=>rfl),PySem.W.mg_of X G a13,F14,F14.binds (ps:=["papers","readers","chosen"]) (fun _ _ _ _ _ _ us hl=>match us,hl with | [_,_,_],_=>rfl),PySem.W.mg_of X G a14,F15,F15.binds (ps:=["papers","readers"]) (fun _ _ _ _ _ _ us hl=>match us,hl with | [_,_],_=>rfl),PySem.W.mg_of X G a15,F16,F16.binds (ps:=["self"]) (fun _ _ _ _ _ _ us hl=>match us,hl with | [_],_=>rfl),⟨a16,i16,k16⟩,F17,F17.binds (ps:=["self","paper"]) (fun _ _ _ _ _ _ us hl=>match us,hl with | [_,_],_=>rfl),⟨a17,i17,k17⟩,F18,F18.binds (ps:=["self"]) (fun _ _ _ _ _ _ us hl=>match us,hl with | [_],_=>rfl),⟨a18,i18,k18⟩,F19,F19.binds (ps:=["paper","reader"]) (fun _ _ _ _ _ _ us hl=>match us,hl with | [_,_],_=>rfl),PySem.W.mg_of X G a19,F20,F20.binds (ps:=["self","paper"]) (fun _ _ _ _ _ _ us hl=>match us,hl with | [_,_],_=>rfl),⟨a20,i20,k20⟩,F21,F21.binds (ps:=["points","step"]) (fun _ _ _ _ _ _ us hl=>match us,hl with | [_,_],_=>rfl),PySem.W.mg_of X G a21,F22,F22.binds (ps:=["self","paper"]) (fun _ _ _ _ _ _ us hl=>match us,hl with | [_,_],_=>rfl),⟨a22,i22,k22⟩,F23,F23.binds (ps:=["self"]) (fun _ _ _ _ _ _ us hl=>match us,hl with | [_],_=>rfl),⟨a23,i23,k23⟩,F24,F24.binds (ps:=["reader","points"]) (fun _ _ _ _ _ _ us hl=>match us,hl with | [_,_],_=>rfl),PySem.W.mg_of X G a24,F25,F25.binds (ps:=["paper","mark"]) (fun _ _ _ _ _ _ us hl=>match us,hl with | [_,_],_=>rfl),PySem.W.mg_of X G a25,F26,F26.binds (ps:=["rows","reader"]) (fun _ _ _ _ _ _ us hl=>match us,hl with | [_,_],_=>rfl),PySem.W.mg_of X G a26,F27,F27.binds (ps:=["readers","rows"]) (fun _ _ _ _ _ _ us hl=>match us,hl with | [_,_],_=>rfl),PySem.W.mg_of X G a27,F28,F28.binds (ps:=["self"]) (fun _ _ _ _ _ _ us hl=>match us,hl with | [_],_=>rfl),⟨a28,i28,k28⟩,F29,F29.binds (ps:=["exam","question"]) (fun _ _ _ _ _ _ us hl=>match us,hl with | [_,_],_=>rfl),PySem.W.mg_of X G a29,F30,F30.binds (ps:=["self"]) (fun _ _ _ _ _ _ us hl=>match us,hl with | [_],_=>rfl),⟨a30,i30,k30⟩,F31,F31.binds (ps:=["number","least","most"]) (fun _ _ _ _ _ _ us hl=>match us,hl with | [_,_,_],_=>rfl),PySem.W.mg_of X G a31,F32,F32.binds (ps:=["many","most"]) (fun _ _ _ _ _ _ us hl=>match us,hl with | [_,_],_=>rfl),PySem.W.mg_of X G a32,F33,F33.binds (ps:=["self","house"]) (fun _ _ _ _ _ _ us hl=>match us,hl with | [_,_],_=>rfl),⟨a33,i33,k33⟩,F34,F34.binds (ps:=["number","most"]) (fun _ _ _ _ _ _ us hl=>match us,hl with | [_,_],_=>rfl),PySem.W.mg_of X G a34,F35,F35.binds (ps:=["self","house","limit"]) (fun _ _ _ _ _ _ us hl=>match us,hl with | [_,_,_],_=>rfl),⟨a35,i35,k35⟩,F36,F36.binds (ps:=["self","step"]) (fun _ _ _ _ _ _ us hl=>match us,hl with | [_,_],_=>rfl),⟨a36,i36,k36⟩,F37,F37.binds (ps:=["self","paper","reader","points"]) (fun _ _ _ _ _ _ us hl=>match us,hl with | [_,_,_,_],_=>rfl),⟨a37,i37,k37⟩,F38,F38.binds (ps:=["numbers"]) (fun _ _ _ _ _ _ us hl=>match us,hl with | [_],_=>rfl),PySem.W.mg_of X G a38,F39,F39.binds (ps:=["papers","readers","paper"]) (fun _ _ _ _ _ _ us hl=>match us,hl with | [_,_,_],_=>rfl),PySem.W.mg_of X G a39,F40,F40.binds (ps:=["readers","rows"]) (fun _ _ _ _ _ _ us hl=>match us,hl with | [_,_],_=>rfl),PySem.W.mg_of X G a40,F41,F41.binds (ps:=["self","papers","readers"]) (fun _ _ _ _ _ _ us hl=>match us,hl with | [_,_,_],_=>rfl),⟨mk_Attempt,a41,i41,kc_Attempt⟩,F42,F42.binds (ps:=["self","reader","asked"]) (fun _ _ _ _ _ _ us hl=>match us,hl with | [_,_,_],_=>rfl),⟨a42,i42,k42⟩,F43,F43.binds (ps:=["self","paper","asked"]) (fun _ _ _ _ _ _ us hl=>match us,hl with | [_,_,_],_=>rfl),⟨a43,i43,k43⟩,F44,F44.binds (ps:=["papers","readers"]) (fun _ _ _ _ _ _ us hl=>match us,hl with | [_,_],_=>rfl),PySem.W.mg_of X G a44,F45,F45.binds (ps:=["readers","limits"]) (fun _ _ _ _ _ _ us hl=>match us,hl with | [_,_],_=>rfl),PySem.W.mg_of X G a45,F46,F46.binds (ps:=["papers","readers","rows"]) (fun _ _ _ _ _ _ us hl=>match us,hl with | [_,_,_],_=>rfl),PySem.W.mg_of X G a46,F47,F47.binds (ps:=["papers","readers","rows"]) (fun _ _ _ _ _ _ us hl=>match us,hl with | [_,_,_],_=>rfl),PySem.W.mg_of X G a47,F48,F48.binds (ps:=["papers","readers"]) (fun _ _ _ _ _ _ us hl=>match us,hl with | [_,_],_=>rfl),PySem.W.mg_of X G a48,F49,F49.binds (ps:=["self"]) (fun _ _ _ _ _ _ us hl=>match us,hl with | [_],_=>rfl),⟨a49,i49,k49⟩,F50,F50.binds (ps:=["exam","deed","numbers"]) (fun _ _ _ _ _ _ us hl=>match us,hl with | [_,_,_],_=>rfl),PySem.W.mg_of X G a50,F51,F51.binds (ps:=["exam","deed","numbers"]) (fun _ _ _ _ _ _ us hl=>match us,hl with | [_,_,_],_=>rfl),PySem.W.mg_of X G a51,F52,F52.binds (ps:=["exam","row"]) (fun _ _ _ _ _ _ us hl=>match us,hl with | [_,_],_=>rfl),PySem.W.mg_of X G a52,F53,F53.binds (ps:=["rows"]) (fun _ _ _ _ _ _ us hl=>match us,hl with | [_],_=>rfl),PySem.W.mg_of X G a53,F54,F54.binds (ps:=["_law_text","_law_many","_law_count"]) (fun _ _ _ _ _ _ us hl=>match us,hl with | [_,_,_],_=>rfl),PySem.W.mg_of X G a54,F55,F55.binds (ps:=["_law_told","_law_rival"]) (fun _ _ _ _ _ _ us hl=>match us,hl with | [_,_],_=>rfl),PySem.W.mg_of X G a55,F56,F56.binds (ps:=["_law_found"]) (fun _ _ _ _ _ _ us hl=>match us,hl with | [_],_=>rfl),PySem.W.mg_of X G a56,F57,F57.binds (ps:=["_law_staff","_law_house","_law_row"]) (fun _ _ _ _ _ _ us hl=>match us,hl with | [_,_,_],_=>rfl),PySem.W.mg_of X G a57,F58,F58.binds (ps:=["_law_homes","_law_staff","_law_rows"]) (fun _ _ _ _ _ _ us hl=>match us,hl with | [_,_,_],_=>rfl),PySem.W.mg_of X G a58,F59,F59.binds (ps:=["_law_parts"]) (fun _ _ _ _ _ _ us hl=>match us,hl with | [_],_=>rfl),PySem.W.mg_of X G a59,F60,F60.binds (ps:=["_law_staff","_law_names"]) (fun _ _ _ _ _ _ us hl=>match us,hl with | [_,_],_=>rfl),PySem.W.mg_of X G a60,F61,F61.binds (ps:=["_law_script"]) (fun _ _ _ _ _ _ us hl=>match us,hl with | [_],_=>rfl),PySem.W.mg_of X G a61,⟨pg_Attempt,hd_Attempt,po_Attempt,sa_Attempt⟩,PySem.W.mg_of X G aC_Attempt,n_Attempt_allowed,n_Attempt_given,n_Attempt_spare,⟨pg_Exam,hd_Exam,po_Exam,sa_Exam⟩,PySem.W.mg_of X G aC_Exam,n_Exam_paper_houses,n_Exam_reader_rows,n_Exam_widest_step,n_Exam_is_dealt,n_Exam_named_readers,n_Exam_entered_points,PySem.W.mg_of X G v_READERS_EACH,⟨_,rfl⟩,PySem.W.mg_of X G v_MOST_HOUSES,⟨_,rfl⟩,PySem.W.mg_of X G v_MOST_PAPERS,⟨_,rfl⟩,PySem.W.mg_of X G v_MOST_LIMIT,⟨_,rfl⟩,PySem.W.mg_of X G v_MOST_READERS,⟨_,rfl⟩,PySem.W.mg_of X G v_MOST_STEP,⟨_,rfl⟩,PySem.W.mg_of X G v_MOST_POINTS,⟨_,rfl⟩,PySem.W.mg_of X G v_QUESTIONS,fun H=>.inr ⟨_,_,_,lq_QUESTIONS,rfl,rfl,Nat.le_trans (Nat.le_of_ble_eq_true rfl:_≤1000) (by decide),.cons ⟨_,rfl⟩ (.cons ⟨_,rfl⟩ (.cons ⟨_,rfl⟩ (.cons ⟨_,rfl⟩ (.cons ⟨_,rfl⟩ (.nil)))))⟩,PySem.W.mg_of X G mx_OutOfTime,PySem.W.mg_of X G mx_UnknownNumber,PySem.W.mg_of X G mx_NotDue,PySem.W.mg_of X G mx_OutOfBounds,PySem.W.mg_of X G mx_Full,PySem.W.mg_of X G mx_ReadError,xc_OutOfTime,xc_UnknownNumber,xc_OutOfBounds,xc_Full,x_OutOfTime_OutOfTime,x_OutOfTime_UnknownNumber,x_OutOfTime_NotDue,x_OutOfTime_OutOfBounds,x_OutOfTime_Full,x_UnknownNumber_OutOfTime,x_UnknownNumber_UnknownNumber,x_UnknownNumber_NotDue,x_UnknownNumber_OutOfBounds,x_UnknownNumber_Full,x_OutOfBounds_OutOfTime,x_OutOfBounds_UnknownNumber,x_OutOfBounds_NotDue,x_OutOfBounds_OutOfBounds,x_OutOfBounds_Full,x_Full_OutOfTime,x_Full_UnknownNumber,x_Full_NotDue,x_Full_OutOfBounds,x_Full_Full,PySem.W.mg_none_of X G z_abs,PySem.W.mg_none_of X G z_all,PySem.W.mg_none_of X G z_bool,PySem.W.mg_none_of X G z_enumerate,PySem.W.mg_none_of X G z_int,PySem.W.mg_none_of X G z_isinstance,PySem.W.mg_none_of X G z_len,PySem.W.mg_none_of X G z_list,PySem.W.mg_none_of X G z_max,PySem.W.mg_none_of X G z_min,PySem.W.mg_none_of X G z_range,PySem.W.mg_none_of X G z_sorted,PySem.W.mg_none_of X G z_str,PySem.W.mg_none_of X G z_sum,PySem.W.mg_none_of X G z_zip⟩;exact ⟨_,fun s v=>.of_eq rfl,fun base _ _=>znR T⟩
theorem walk {l:PySem.W.OpenLaw} {q:Program} {loose:List Str} {XP:(Str→Option Value)→Heap→Prop} {YP:World→Heap→Prop} {d:DefRec} {K:Params→PySem.W.Frag} (hn:l.most=some 63) (hdf:d.params.defaults=[])
  (hY:∀ (w:World) (h:Heap),YP w h→(K w.params).In h)
  (F:∀ (w:World) (mg:Str→Option Value) (fa:Addr) (h:Heap),(K w.params).In h→h.Ns mainGlobals mg→mg d.name=some (.ref fa) →
   ∃ fd:FuncData,(∀ (s:Shared) (u:Value),BindsTo s fd ⟨[u],[]⟩ [("_law_script",u)])∧∀ base:Heap,(K w.params).In base→base.Ns mainGlobals mg→FnOk l.prog w (K w.params) mg base CX0 27 fa fd ["_law_script"] (zgw (K w.params))) :
  PySem.W.WalkO q loose XP YP l.row.toRowW d [] (fun f vs=>PySem.call f vs) :=
 L2.zlr (n:=63) (k:=27) (x:="_law_script") (CX:=fun _=>CX0) (sp:=fun w=>zgw (K w.params)) hn (by decide) hdf ⟨rfl,by decide,by decide⟩ hY F (fun _ H a ns hl hO hS=>law_start hl hS) fun _ _ _ _ _ z=>z
end Prf
set_option genInjectivity false in
set_option genSizeOf false in
structure PySem.W.Fast:Prop where
 (tw5523655620939079065 tw10847433420525475390 tw7101918963513716165 tw2030056091810453650 tw9382541824212695734 tw3349461419122386252 tw5744716458827137674 tw2572876802731134711 tw15726004725143613286 tw15733293291628163553 tw13406260311302727594 tw266639125142782405 tw3027101445818328335 tw1919707708698581778 tw5758923031433392319 tw15480788149570544401 tw17202887399541233106 tw14016504306557232160 tw4721649907533809400 tw9768152835651579873 tw9920439122543992675 tw15917886721972472183 tw11208663144955935430 tw12923858471941172884 tw7669149278387347492 tw5393254257344555534 tw13744823830139772711 tw17609763084254354741 tw16799339612997309568 tw16711564911823625519 tw4792032319874610785 tw12179124595577808075 tw4367050850296843244 tw4992608628535366162 tw16818482104505800033 tw3098983354371760510 tw219850370357112547 tw13054013083059646193 tw7802674527539885804 tw11674980929599561002:True)
 (tw7613647042765447627 tw13167351636405186342 tw8785478933557530095 tw17711358423604628455 tw6497450014632633889 tw12514457084600225726 tw12346192104552599166 tw8790819268370902428 tw1952311229040007238 tw2163197487294128127 tw9242486903305018529 tw6701998107745336147 tw17027738650300583311 tw11993243361406504774 tw1363920272156639298 tw8632488032358821467 tw5673908289748745684 tw5342482928488429662 tw16197260105910625785 tw4509432660513241008 tw5075587023611739937 tw4056173076967122018 tw900671656161081262 tw17071504201884483143 tw14388342258195861157 tw6452576880825108814 tw11783757605823418332 tw2108165711411163113 tw9168095733221973734 tw8990796699200699094 tw2226538850487823362 tw3093890843946363269 tw16373306625927201524 tw5674834864271963562 tw2883472684797574431 tw2241841836111680638 tw2342674108107843783 tw7516840281848542895 tw14006843266748251569 tw9840247849897601487:True)
 (tw14284016625350334042 tw2606826427400643425 tw17257281457380455743 tw15219552113736024864 tw14490407458502590972 tw4246240065913827079 tw16954327365983295157 tw10283640466062162146 tw17812354856679914004 tw13117253887424300031 tw6824914363591056770 tw15887182532785919623 tw2637161696774062204 tw4995424823226736944 tw15060649909047976992 tw13182489171377980511 tw7707910875697941325 tw4922448893385976554 tw15872726259640590637 tw14648082688947381509 tw15103211726203862018 tw5665607358719420554 tw4373836683958284634 tw16158266353215430542 tw11191684168420281978 tw14826103101792257927 tw6264928512547855639 tw16548960139147880570 tw4912857196008513727 tw10924900162219538048 tw16508986176816214588 tw7856039792520320879 tw18025417054766386387 tw15927162437703260556 tw9420983435885491887 tw13090458476307713034 tw2860693244362938238 tw3634702573260411633 tw4039541982359161932 tw1401095935766850579:True)
 (tw6700872313465422168 tw16243351104600605783 tw2786359576888623721 tw7169750425311997731 tw3019505241986652453 tw13347679627470996656 tw8162113130217149649 tw4153337880603603988 tw12626377013227613177 tw10146619528840433037 tw4190961561277565057 tw16370257561996817291 tw8890271050585466370 tw7079125618321623577 tw5278307489677328411 tw3829864055512417520 tw14864919739755719380 tw14904488663305368784 tw7257549821042947179 tw7506984502519151099 tw11147930351162419758 tw5989236621391511208 tw12043458219652725307 tw3167368649780536542 tw1133839674568193905 tw520530544354333949 tw15820719315864808316 tw1951353562236349436 tw17382643296768330601 tw16615651672912527922 tw6146987508823447917 tw17996698839438645233 tw5273648431131005882 tw7239071195039620089 tw17599067602344412234 tw12458835781581044827 tw10866660292735068367 tw8124576130013455195 tw189298821273960797 tw11641132688884533333:True)
 (tw17338036098963332124 tw860329898366452308 tw13089618966107626716 tw6571742319160339081 tw5688380739478606262 tw360575212010024159 tw15104299549368798514 tw11709076784735810723 tw10347673845216342005 tw17629564630305585841 tw5344901166439743120 tw4746163506763527592 tw16772708859388642473 tw8079377879616701271 tw13311868233763627473 tw10163708001465561957 tw2081662343627274712 tw17797175380385109855 tw16404305853734573752 tw3329831698016673222 tw824964020808808328 tw15516863547589586491 tw5085807389351214989 tw17940674464691905381 tw17014669576166067362 tw5715664155408646146 tw9903674084013957660 tw5448967527498474678 tw8717453306039295373 tw2034152260082122612 tw4365570149409425965 tw6635834632209799100 tw8337809434103511499 tw11459653218439786919 tw9848702630265976199 tw2295030762553669040 tw4295898481354803630 tw3826104228377234917 tw13733683483398324437 tw9640262363456421126:True)
 (tw15275999038685703502 tw9296123374822128158 tw4633231223874018032 tw3124038405998454567 tw14972802390869184408 tw2636387808173812740 tw10532221238264729006 tw13887566590153465444 tw5411968032143913980 tw604580165318025866 tw11952675949083281607 tw3923270999653749121 tw17067814806872893979 tw5805738147264663079 tw3198596954872924320 tw17177625430583863932 tw12436025461749334087 tw3585729773937729732 tw9176756626293165704 tw5964344285727089016 tw11974186655262170535 tw16018235661332749012 tw10171456222369105669 tw16463513352041924664 tw2949244663350289614 tw9327204599048704774 tw6905899083103573682 tw8680570986890572072 tw6168457767982756638 tw14811662547290457829 tw17464847215254902622 tw2587809602476887221 tw18113322537377098695 tw18273299062064751965 tw2756475733635319553 tw2476813441582029502 tw9747692583579187554 tw14462149139519456187 tw15583938485531671969 tw13713003169274509302:True)
 (tw4334301303862657025 tw9157768962460092245 tw11994470235441751419 tw6738457940557086950 tw8579504993655567730 tw11193668091139184684 tw10592806139335116643 tw2479720819323397497 tw1219920934662648382 tw17009677497972338567 tw16982799444485993853 tw7207521541874758425 tw16892203161575014640 tw18125348684299644968 tw10375124508809958486 tw3939196690466455192 tw16000555399346470829 tw16577018216550310338 tw6191537807917777211 tw7441041890285302068 tw1604546955887834700 tw15525455683293571258 tw1078861755512041390 tw15834350724671944511 tw8235652596516877607 tw1369618149985305127 tw13551588021270527501 tw1720545715552354489 tw8338027122436342649 tw2139565958738942855 tw15399907032766029603 tw18078519559197174537 tw1704878463522932434 tw9927451346745159004 tw13708246747093631790 tw8992205814667344390 tw4332728296122710630 tw6833619257741657441 tw14370809807354072662 tw8369292784619190305:True)
 (tw4290321088105595421 tw14238546761052143766 tw3722133228590926768 tw1825121193419135343 tw11579808171612106468 tw3658308997697779106 tw18344431803827406395 tw8708690355216810837 tw12293633599887996102 tw16310936357433155004 tw6732499271629896763 tw11410377485028794677 tw6304290197648736451 tw14563143563000457810 tw7129214078591336466 tw16053425591614725751 tw6121045966037004590 tw4166716524451142533 tw10466145061045884620 tw2078088899603074977 tw12543391790814802238 tw12118919027535355126 tw2564303128019470267 tw551539989867872869 tw14241231171996257910 tw17658822535358825910 tw16942258764920645345 tw17009891833680131380 tw1103059867333101165 tw7072346058739644245 tw8953366636424099455 tw3231154214647927575 tw12372400540581999102 tw10307186354457172551 tw2640916878962278948 tw17469427251104946998 tw9491385803926630731 tw7670805996626404025 tw11673758377708309190 tw7476581674993872842:True)
 (tw15210553763034590788 tw2084406330932565841 tw383402526576979895 tw4031471561873649564 tw15776548997859749039 tw7795322200142871577 tw13789978751427409262 tw9866980666337758894 tw9680104368320460767 tw12855491548581566054 tw1699916145195448504 tw9409272303962568219 tw2709968826600009605 tw4214876984153713112 tw5767965257449195790 tw7302392231642015299 tw14831767281378513853 tw13017811241980210873 tw13141048268602693930 tw6883247138744069274 tw1257836098395037207 tw8279230048113247915 tw3673300601427930179 tw14894817784716035665 tw4623115067298625084 tw190912095773004001 tw11941371781843045978 tw3604456184131781619 tw16013358815440398232 tw14751075626533658566 tw11960751576872523707 tw6023846065973215177 tw5772125251447341985 tw10990191466227270355 tw9649480922910172950 tw10740942152696690514 tw17226862145450429264 tw15951214590175779040 tw14708665225441110085 tw1873750416888730191:True)
 (tw8281364578437616913 tw17554558776299706331 tw15669778877590661106 tw12937050531456869775 tw12959943497350111079 tw15032418853832063288 tw3602840510816193340 tw5065207710957647597 tw8300726560856227360 tw18132929586024706511 tw14955480857095266137 tw7359856936536058727 tw14112770562728823631 tw6826124776866044914 tw4049103469315383646 tw5510815335650127914 tw16136687511467250599 tw1720136377162463951 tw15296926756031037983 tw3899953637950541239 tw8422223068726193968 tw810116967067928388 tw970190942075046759 tw18171206180589969162 tw17129419590679521557 tw17224452447412231442 tw12809908394644334458 tw71092578096911520 tw12909410766125334656 tw6519945704553654144 tw7089128866177286305 tw11112293768502643239 tw6447291320442400715 tw7919771573776864659 tw9175237318541860263 tw12850400957629123635 tw11982874020019388741 tw13520470713419411058 tw1177990295320505092 tw15612882061996076420:True)
 (tw5229209962913830352 tw99580770873110 tw18345988182874891318 tw16474127368122335008 tw3699523027497186705 tw10635051104184789687 tw789217510807134240 tw2941361342220931820 tw104890678844990168 tw4188390328431681692 tw9854797842081569851 tw16261381905718851378 tw7800727477923160736 tw17429995468567235767 tw4203056353979600862 tw10068952144585601523 tw15942268523611060537 tw15077954853310583482 tw7718857491685711287 tw10615490323735107740 tw6422756705855094321 tw14518954325043375284 tw14346230512565394633 tw4427420171059264317 tw1311198160288268386 tw12386168367097246178 tw15340348270864800514 tw7237300304095347066 tw3374785467424085914 tw6258786072633470487 tw13439211381846796590 tw2685601926773990397 tw266544052114525863 tw9812098000288329887 tw9759521536743733804 tw4850047996971849139 tw9485752792644708809 tw5877214883096273592 tw6026545164594413698 tw16291190485175710488:True)
 (tw17612483524474717127 tw16887069380132971401 tw3032458536869629900 tw18106073067309507534 tw8106551548667072767 tw7166919942358552021 tw11871340735305767026 tw14090152618485563670 tw11158202668959477234 tw16694100291635491938 tw17549294462134655024 tw1037292934621929220 tw15897095445977117438 tw1951165621231940784 tw6332211678115309730 tw7937877898429434463 tw1342536377175277042 tw793440279415112862 tw18357459651415853661 tw9736608089341909036 tw17531552691943251223 tw8074684754151654546 tw11713306155791012431 tw13666370587534986134 tw11051433304186945478 tw9999773023334221860 tw15537748607036358860 tw5711890758329636003 tw9058008056886367250 tw17509520488952919494 tw11370769209492469609 tw10700101207983736273 tw3480930163070623195 tw15464650721150697103 tw12692517776100688010 tw16817800278748277439 tw13331810307860850380 tw18091531345624850824 tw17569459400753841648 tw6561145190064145625:True)
 (tw570544496794642038 tw1013500741432337784 tw2243556099680956547 tw523865600452471849 tw209318677846002096 tw3391427035746619345 tw16288019751612405715 tw6411495169809032577 tw1033490674880576479 tw12629740395805703386 tw8310721927697241083 tw12704297939039919791 tw18226278300437105637 tw10176228081528099174 tw8960111973662329905 tw2770512247825668704 tw3930950322363471057 tw14607740376184879901 tw7146498291507767419 tw8781253099471999012 tw11472957919744303224 tw11686760897020539589 tw5459591098933644235 tw1498607902739297759 tw9875740592021848735 tw17848111790789346540 tw8730274872918454534 tw4073170633215161930 tw4942351803041426020 tw2771414359057716882 tw11503033825828937956 tw8142059348332751752 tw3682479886488075055 tw2157210507359853070 tw787102449410066443 tw14849161556830985270 tw5233910013331483960 tw17608388445738298501 tw9942832870981142185 tw14132617873509910156:True)
 (tw5455760936496095662 tw17664397336199993331 tw15069801239642021021 tw4144806302583903311 tw10726408676051394531 tw4750286372403451008 tw5580530818401937674 tw11312385831100067972 tw9066115182745186816 tw6912048520868601851 tw13362627598496772489 tw12977899809697468580 tw4066208611337478333 tw17582462464351776962 tw5661450193671862277 tw423436938533079441 tw4180948768794921236 tw14292881886731914992 tw15968656335961374088 tw17916054104522408330 tw14162642574049117811 tw17035826058148588085 tw7213635761193484663 tw16216313555022408101 tw15819689838327285484 tw8186872832327867914 tw17133934479864153778 tw11444135815395641510 tw10597388817649209336 tw4177396295689488064 tw17465561537503984200 tw7120580384337865449 tw5115155661340971421 tw8087306969182097256 tw2050797642300180825 tw2731017012610388883 tw6361180818397990431 tw9952530063960680332 tw5959189219359373228 tw12147861465886615523:True)
 (tw1869909707299558995 tw11189596792095387605 tw16821295260812750061 tw9625905930719043032 tw6934373692202802470 tw17749440396178863585 tw17912856908213999094 tw10800921866352773533 tw16807262339518068337 tw13651120209416338716 tw6115000774140165280 tw7130644360411888196 tw1764743656199877650 tw1751876494605949301 tw13805348548521377858 tw12630227659875572063 tw187913094508094699 tw2973748012984658384 tw10809787265364362552 tw12618705991249000114 tw5910125851683671482 tw5901148325980471279 tw14089578568554573466 tw17137973700898359394 tw681397305116137427 tw17097409839227131340 tw13659047017626307232 tw12176123280883982278 tw2551039413437984882 tw15712416724710632401 tw3745657712302640315 tw13770487680041693708 tw966569323024549767 tw16066166712705422602 tw8624703832389988517 tw12194250040822304225 tw2917472381498017252 tw11125636883702115705 tw14627019901523690673 tw3642828308448126339:True)
 (tw9470375040005475122 tw12819574817250405968 tw15841633275147257513 tw12919650060389114061 tw13414662365454752803 tw11436359262500990910 tw12624027799010035847 tw1748109278010218242 tw13630018440475965442 tw9629383978380995403 tw17729848560168684504 tw16902753652805207828 tw8357706762602194360 tw17516609339017809172 tw9328338304932131456 tw4448710560251999008 tw14325383188391092805 tw11919418733723351373 tw2933654036125665999 tw2395673506053869924 tw1306305584582911848 tw11370412198547053286 tw2578439817630681773 tw55603860605712352 tw106050014734895564 tw13374137258736564819 tw16767118061547828845 tw8383965988492793859 tw8446018266765604110 tw6673600748985617739 tw7655784212011302667 tw7510173373203029251 tw2731287659865007377 tw18228100929806078060 tw18378541181839474368 tw12386338932829538139 tw11685916039575912385 tw7586806167851437122 tw18004922251886463203 tw9307705751793736375:True)
 (tw4772887183190028002 tw17830960983329172793 tw17788333016193906010 tw9118215439306627239 tw8398604265475447792 tw17726498856202301375 tw10554416696200793212 tw1866644710750110905 tw13383253312862127011 tw10020616549151253764 tw13927440853128055971 tw9634154246845863763 tw7038366305078608759 tw18015869604615038686 tw3334409437317531010 tw18333187391446146902 tw7719066552789144044 tw1005927748343940038 tw13262141824882085527 tw10496645089568618942 tw11671147439710217117 tw3062521240155186554 tw5619079805024521648 tw8623164945775296368 tw6782065261960394530 tw11664070323738165290 tw11221311085146382116 tw6137113886676900304 tw11634242468987435189 tw13215472704758004102 tw3836925502672797327 tw5829716330116221775 tw10350411030550212702 tw17422646899683718737 tw13222864262915038446 tw1280002602662243496 tw3612283326996252981 tw3934001289324577757 tw3035188935337379704 tw14321226339068858729:True)
 (tw6432276189049912765 tw17313883886170608940 tw18025587011629352807 tw10495679626215076503 tw8526449014365881511 tw17657942210024782560 tw12949923001392897755 tw2320682214889878922 tw11031655063883112822 tw1160104971798823525 tw176644270058859823 tw10573990446426033661 tw17809697410785180796 tw16392280917454462398 tw10833162766861527624 tw11141084643278740797 tw6060329324527514427 tw11917924487631585473 tw15177357817943039674 tw13588333590014876334 tw1950482872656843405 tw10030813953856137711 tw16748637501094006448 tw7227898915873949875 tw15681431976517093533 tw8841650217953788935 tw13032067837340239852 tw15370212153275937454 tw8096670496685060577 tw6268444280789218962 tw775337558925565946 tw2231763234381542423 tw5009807706550836603 tw17206059522254801346 tw5670318335164270313 tw13136443275279464547 tw1119486303102656399 tw11747154703747304040 tw9328776592896975381 tw14985662765361320984:True)
 (tw9892547268651763846 tw7706980715158175801 tw17744730006016952384 tw15573311810921102154 tw8205225444769546380 tw5217029558809043223 tw13661477498967953588 tw8355941001920013236:True)
open PySem PySem.W PyProof.Rows
set_option maxRecDepth 100000 in
set_option maxHeartbeats 0 in
theorem PySem.Challenge.cw_secondread_k32_desk_dealing_holds : PySem.Challenge.rw_secondread_k32_desk_dealing.Holds := by
 w_on;o_law;k_head;(case hw=>w_witness2)
 k_fill
 refine Prf.walk (l:=PySem.Challenge.rw_secondread_k32_desk_dealing) rfl rfl (fun w h Y=>PySem.W.kIn_of Y) ?F
 case F =>
  intro w mg fa h KX G hmg;refine' Prf.znS KX G hmg ?aC_Attempt ?aC_Exam ?a0 ?l0 ?c0 ?k0 ?a1 ?l1 ?c1 ?k1 ?a2 ?i2 ?l2 ?c2 ?k2 ?a3 ?l3 ?c3 ?k3 ?a4 ?l4 ?c4 ?k4 ?a5 ?l5 ?c5 ?k5 ?a6 ?i6 ?l6 ?c6 ?k6 ?a7 ?l7 ?c7 ?k7 ?a8 ?l8 ?c8 ?k8 ?a9 ?l9 ?c9 ?k9 ?a10 ?l10 ?c10 ?k10 ?a11 ?l11 ?c11 ?k11 ?a12 ?l12 ?c12 ?k12 ?a13 ?l13 ?c13 ?k13 ?a14 ?l14 ?c14 ?k14 ?a15 ?l15 ?c15 ?k15 ?a16 ?i16 ?l16 ?c16 ?k16 ?a17 ?i17 ?l17 ?c17 ?k17 ?a18 ?i18 ?l18 ?c18 ?k18 ?a19 ?l19 ?c19 ?k19 ?a20 ?i20 ?l20 ?c20 ?k20 ?a21 ?l21 ?c21 ?k21 ?a22 ?i22 ?l22 ?c22 ?k22 ?a23 ?i23 ?l23 ?c23 ?k23 ?a24 ?l24 ?c24 ?k24 ?a25 ?l25 ?c25 ?k25 ?a26 ?l26 ?c26 ?k26 ?a27 ?l27 ?c27 ?k27 ?a28 ?i28 ?l28 ?c28 ?k28 ?a29 ?l29 ?c29 ?k29 ?a30 ?i30 ?l30 ?c30 ?k30 ?a31 ?l31 ?c31 ?k31 ?a32 ?l32 ?c32 ?k32 ?a33 ?i33 ?l33 ?c33 ?k33 ?a34 ?l34 ?c34 ?k34 ?a35 ?i35 ?l35 ?c35 ?k35 ?a36 ?i36 ?l36 ?c36 ?k36 ?a37 ?i37 ?l37 ?c37 ?k37 ?a38 ?l38 ?c38 ?k38 ?a39 ?l39 ?c39 ?k39 ?a40 ?l40 ?c40 ?k40 ?a41 ?i41 ?l41 ?c41 ?k41 ?a42 ?i42 ?l42 ?c42 ?k42 ?a43 ?i43 ?l43 ?c43 ?k43 ?a44 ?l44 ?c44 ?k44 ?a45 ?l45 ?c45 ?k45 ?a46 ?l46 ?c46 ?k46 ?a47 ?l47 ?c47 ?k47 ?a48 ?l48 ?c48 ?k48 ?a49 ?i49 ?l49 ?c49 ?k49 ?a50 ?l50 ?c50 ?k50 ?a51 ?l51 ?c51 ?k51 ?a52 ?l52 ?c52 ?k52 ?a53 ?l53 ?c53 ?k53 ?a54 ?l54 ?c54 ?k54 ?a55 ?l55 ?c55 ?k55 ?a56 ?l56 ?c56 ?k56 ?a57 ?l57 ?c57 ?k57 ?a58 ?l58 ?c58 ?k58 ?a59 ?l59 ?c59 ?k59 ?a60 ?l60 ?c60 ?k60 ?a61 ?l61 ?c61 ?k61 ?pg_Attempt ?hd_Attempt ?po_Attempt ?sa_Attempt ?mk_Attempt ?kc_Attempt ?n_Attempt_allowed ?n_Attempt_given ?n_Attempt_spare ?pg_Exam ?hd_Exam ?po_Exam ?sa_Exam ?mk_Exam ?kc_Exam ?n_Exam_paper_houses ?n_Exam_reader_rows ?n_Exam_widest_step ?n_Exam_is_dealt ?n_Exam_named_readers ?n_Exam_entered_points ?v_READERS_EACH ?v_MOST_HOUSES ?v_MOST_PAPERS ?v_MOST_LIMIT ?v_MOST_READERS ?v_MOST_STEP ?v_MOST_POINTS ?v_QUESTIONS ?lq_QUESTIONS ?mx_OutOfTime ?mx_UnknownNumber ?mx_NotDue ?mx_OutOfBounds ?mx_Full ?mx_ReadError ?xc_OutOfTime ?xc_UnknownNumber ?xc_OutOfBounds ?xc_Full ?x_OutOfTime_OutOfTime ?x_OutOfTime_UnknownNumber ?x_OutOfTime_NotDue ?x_OutOfTime_OutOfBounds ?x_OutOfTime_Full ?x_UnknownNumber_OutOfTime ?x_UnknownNumber_UnknownNumber ?x_UnknownNumber_NotDue ?x_UnknownNumber_OutOfBounds ?x_UnknownNumber_Full ?x_OutOfBounds_OutOfTime ?x_OutOfBounds_UnknownNumber ?x_OutOfBounds_NotDue ?x_OutOfBounds_OutOfBounds ?x_OutOfBounds_Full ?x_Full_OutOfTime ?x_Full_UnknownNumber ?x_Full_NotDue ?x_Full_OutOfBounds ?x_Full_Full ?z_abs ?z_all ?z_bool ?z_enumerate ?z_int ?z_isinstance ?z_len ?z_list ?z_max ?z_min ?z_range ?z_sorted ?z_str ?z_sum ?z_zip
  (case aC_Attempt=>k_is)
  (case aC_Exam=>k_is)
  (case v_QUESTIONS=>k_is)
  (case mx_OutOfTime=>k_is)
  (case mx_UnknownNumber=>k_is)
  (case mx_NotDue=>k_is)
  (case mx_OutOfBounds=>k_is)
  (case mx_Full=>k_is)
  (case mx_ReadError=>k_is)
  all_goals (try k_is)
  all_goals (first | k_is | k_exc | kts_exm)
