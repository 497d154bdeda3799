import PyProof.Rows.All
import Wide.All
import OpenK.AllK
import Wide.FinOn
import Lean
import PyProof.EqAt
import PyProof.EqKinds
import PyProof.TupleCall
import PyProof.NeKinds
import KE.RegKTryMore
import PySem.Challenge.RW_secondread_k21_bounds
set_option Elab.async false
set_option linter.all false
set_option maxRecDepth 100000
set_option maxHeartbeats 4000000
local macro_rules | `(tactic| omega)=>`(tactic| lia)
namespace L2
open PySem PySem.Spec PyProof.Rows
abbrev Key:=Sum Int Str
def keyIs:Key→Value→Bool
 | .inl k,v=>Value.isInt k v
 | .inr x,v=>Value.isStrOf x v
def keyH (w:World):Key→Int
 | .inl k=>hashInt k
 | .inr x=>hashStr w x
theorem keyIs_shape:∀ {k:Key} {v:Value},keyIs k v=true→(∃ i t,k=Sum.inl i∧v=Value.int i t)∨(∃ x t,k=Sum.inr x∧v=Value.str x t)
 | .inl i,v,h=>by
   obtain ⟨t,e⟩:=Value.isInt_shape (k:=i) (v:=v) h;exact .inl ⟨i,t,rfl,e⟩
 | .inr x,v,h=>by
   obtain ⟨t,e⟩:=Value.isStrOf_shape (x:=x) (v:=v) h;exact .inr ⟨x,t,rfl,e⟩
theorem ze8 (i:Int) (t:Tok):keyIs (.inl i) (.int i t)=true:=by simp [keyIs,Value.isInt]
theorem ze9 (x:Str) (t:Tok):keyIs (.inr x) (.str x t)=true:=by simp [keyIs,Value.isStrOf]
theorem zhE (a b:Int):decide ((Sum.inl a:Key)=Sum.inl b)=(a == b):=by
 by_cases e:a=b
 ·subst e;simp
 ·have h:¬(Sum.inl a:Key)=Sum.inl b:=fun q=>e (Sum.inl.inj q);rw [decide_eq_false h];exact (beq_eq_false_iff_ne.mpr e).symm
theorem zhF (a b:Str):decide ((Sum.inr a:Key)=Sum.inr b)=decide (a=b):=by
 by_cases e:a=b
 ·subst e;simp
 ·have h:¬(Sum.inr a:Key)=Sum.inr b:=fun q=>e (Sum.inr.inj q);rw [decide_eq_false h,decide_eq_false e]
theorem zhG (a:Int) (b:Str):decide ((Sum.inl a:Key)=Sum.inr b)=false:=decide_eq_false (fun q=>nomatch q)
theorem zhH (a:Str) (b:Int):decide ((Sum.inr a:Key)=Sum.inl b)=false:=decide_eq_false (fun q=>nomatch q)
def zbc (prog:Program) (w:World):PySem.KeyKind prog w Key where
 is:=keyIs
 hash:=keyH w
 inj:=fun v a b ha hb=>by
  rcases keyIs_shape ha with ⟨i,t,rfl,rfl⟩ | ⟨x,t,rfl,rfl⟩
  ·rcases keyIs_shape hb with ⟨j,u,rfl,e⟩ | ⟨y,u,rfl,e⟩
   ·injection e with e1 _;rw [e1]
   ·exact nomatch e
  ·rcases keyIs_shape hb with ⟨j,u,rfl,e⟩ | ⟨y,u,rfl,e⟩
   ·exact nomatch e
   ·injection e with e1 _;rw [e1]
 byValue:=fun k v h=>by
  rcases keyIs_shape h with ⟨i,t,rfl,rfl⟩ | ⟨x,t,rfl,rfl⟩ <;> rfl
 pyHash:=fun hv h=>by
  rcases keyIs_shape hv with ⟨i,t,rfl,rfl⟩ | ⟨x,t,rfl,rfl⟩
  ·exact wpAny_pyHash_int h
  ·exact wpAny_pyHash_str h
 eqBool:=fun hu hv h=>by
  rcases keyIs_shape hu with ⟨i,t,rfl,rfl⟩ | ⟨x,t,rfl,rfl⟩
  ·rcases keyIs_shape hv with ⟨j,u,rfl,rfl⟩ | ⟨y,u,rfl,rfl⟩
   ·rw [zhE] at h;exact wpAny_eqBool_int h
   ·rw [zhG] at h;exact SeqAt.EqAt.int_str i t y u _ _ _ _ h
  ·rcases keyIs_shape hv with ⟨j,u,rfl,rfl⟩ | ⟨y,u,rfl,rfl⟩
   ·rw [zhH] at h;exact SeqAt.EqAt.str_int x t j u _ _ _ _ h
   ·rw [zhF] at h;exact wpAny_eqBool_str h
 «strs»:=fun k x t v h=>by
  rcases keyIs_shape h with ⟨i,u,rfl,e⟩ | ⟨y,u,rfl,e⟩
  ·exact nomatch e
  ·injection e with e1 _;subst e1
   cases v <;> rfl
theorem zdY (prog:Program) (w:World) (i:Int) (t:Tok):(zbc prog w).is (.inl i) (.int i t)=true:=ze8 i t
theorem zdZ (prog:Program) (w:World) (x:Str) (t:Tok):(zbc prog w).is (.inr x) (.str x t)=true:=ze9 x t
end L2
namespace L2
open PySem PySem.Spec PyProof.Rows
inductive V where
 | non | bl (b:Bool) | int (i:Int) | str (x:Str) | byt (b:Array UInt8) | flt (b:UInt64) | ref (a:Addr) | ty (n:String)
 deriving DecidableEq
def RelV:V→Value→Prop
 | .non,u=>u=Value.none
 | .bl b,u=>u=Value.bool b
 | .int i,u=>∃ t,u=Value.int i t
 | .str x,u=>∃ t,u=Value.str x t
 | .byt b,u=>∃ t,u=Value.bytes b t
 | .flt b,u=>∃ t,u=Value.float b t
 | .ref a,u=>u=Value.ref a
 | .ty n,u=>u=Value.type n
abbrev Vals:List V→List Value→Prop:=Paired RelV
theorem Vals.length {xs:List V} {us:List Value} (r:Vals xs us):xs.length=us.length:=Paired.length r
theorem Vals.get:∀ {xs:List V} {us:List Value} {i:Nat} {x:V},Vals xs us→xs[i]? = some x→∃ u,us[i]? = some u∧RelV x u
 | _,_,_,_,.nil,e=>by simp at e
 | _,_,0,_,.cons r _,e=>by simp at e;subst e;exact ⟨_,rfl,r⟩
 | _,_,i+1,x,.cons _ t,e=>by
   obtain ⟨u,h1,h2⟩:=Vals.get (i:=i) (x:=x) t (by simpa using e);exact ⟨u,by simpa using h1,h2⟩
theorem Vals.append:∀ {xs ys:List V} {us ws:List Value},Vals xs us→Vals ys ws→Vals (xs++ys) (us++ws)
 | _,_,_,_,.nil,s=>s
 | _,_,_,_,.cons r t,s=>.cons r (Vals.append t s)
theorem Vals.take:∀ {xs:List V} {us:List Value} (n:Nat),Vals xs us→Vals (xs.take n) (us.take n)
 | _,_,0,_=>.nil
 | _,_,_+1,.nil=>.nil
 | _,_,n+1,.cons r t=>.cons r (Vals.take n t)
theorem Vals.drop:∀ {xs:List V} {us:List Value} (n:Nat),Vals xs us→Vals (xs.drop n) (us.drop n)
 | _,_,0,r=>r
 | _,_,_+1,.nil=>.nil
 | _,_,n+1,.cons _ t=>Vals.drop n t
def RelO:Option V→Option Value→Prop
 | some v,some u=>RelV v u
 | none,none=>True
 | _,_=>False
def KV {κ:Type}:List (κ×V)→List (κ×Value)→Prop:=Paired fun (p:κ×V) (q:κ×Value)=>p.1=q.1∧RelV p.2 q.2
def kV:Key→V
 | .inl i=>.int i
 | .inr x=>.str x
inductive HO where
 | lst (xs:List V)
 | tup (xs:List V)
 | dK (kvs:List (Key×V)) | dT (kvs:List (List Key×V))
 | set (S:Int→Bool) (n:Nat)
 | ins (C dx:Addr) (fs:List (Str×V))
 | own (x:Addr)
 | xd (fs:List (Str×V))
 | met (f x:Addr)
 | rng (lo hi:Int)
 | frz (o:Obj) (u:HO)
 | tbl (ps:Array Value)
 | ext (φ:Heap→Prop)
abbrev Hp:=Addr→Option HO
def upd (H:Hp) (a:Addr) (o:HO):Hp:=fun b=>if b=a then some o else H b
theorem zal {H:Hp} {a:Addr} {o:HO}:upd H a o a=some o:=by unfold upd;rw [if_pos rfl]
theorem zau {H:Hp} {a b:Addr} {o:HO} (h:b≠a):upd H a o b=H b:=by unfold upd;rw [if_neg h]
theorem zgQ {H:Hp} {a:Addr} {o u:HO}:upd (upd H a o) a u=upd H a u:=by
 funext b;unfold upd;split <;> rfl
theorem zaf {H:Hp} {a b:Addr} {o:HO} (h:H a=some o) (h':H b=none):a≠b:=by
 intro e;subst e;rw [h] at h';cases h'
section
variable (P:Program) (w:World)
def za5 (H:Hp) (h:Heap) (a:Addr):HO→Prop
 | .lst xs=>xs.length≤sizeLine∧∃ (its:List Value) (n:Nat),Vals xs its∧h.get? a=some { cls:=.type "list",data:=.seq its.toArray n }
 | .tup xs=>xs.length≤sizeLine∧∃ its:List Value,Vals xs its∧IsTup h a its.toArray
 | .dK kvs=>kvs.length≤sizeLine∧(a == sysModules)=false∧∃ vs,KV kvs vs∧h.DictOf (zbc P w) a vs
 | .dT kvs=>kvs.length≤sizeLine∧(a == sysModules)=false∧∃ xs:List (List Key×Addr×Value),
    Paired (fun (p:List Key×V) (q:List Key×Addr×Value)=>p.1=q.1∧H q.2.1=some (.tup (p.1.map kV))∧RelV p.2 q.2.2) kvs xs ∧
    ∃ o es ep,h.get? a=some o∧o.ExactDict∧o.data=.dict es ep∧es.toList=xs.map (entryOfKey (tupleKind (zbc P w)))∧(xs.map (·.1)).Nodup
 | .set S n=>h.SetOf (intKind P w) a S n
 | .ins C dx fs=>H dx=some (.own a)∧fs.length≤1000∧dx≠a∧h.get? a=some (PySem.W.instObj C dx) ∧
    ∃ mA,h.Ns1 dx mA∧(∀ f,RelO (fs.lookup f) (mA f))∧PySem.Within mA (fs.map (·.1))
 | .own _=>∃ o,h.get? a=some o
 | .xd fs=>∃ mA,h.Ns1 a mA∧∀ f,RelO (fs.lookup f) (mA f)
 | .rng lo hi=>∃ t u v,h.get? a=some { cls:=.type "range",data:=.fields #[.int lo t,.int hi u,.int 1 v] }
 | .frz o u=>h.get? a=some o∧za5 H h a u
 | .tbl ps=>h.get? a=some { cls:=.none,data:=.fields ps }
 | .met f x=>h.get? a=some (PySem.W.methodObj (.ref f) (.ref x))
 | .ext φ=>φ h∧(∃ o,h.get? a=some o)∧∀ h1 h2:Heap,φ h1→(∀ o,h1.get? a=some o→h2.get? a=some o)→φ h2
def HOk (H:Hp) (h:Heap):Prop:=∀ a o,H a=some o→za5 P w H h a o
end
section
variable {P:Program} {w:World} {H H':Hp} {h h':Heap} {a:Addr} {o:HO}
theorem za5.lt (x:za5 P w H h a o):a < h.objs.size:=by
 cases o with
 | lst xs=>obtain ⟨_,_,_,_,e⟩:=x;exact Heap.lt_size e
 | tup xs=>obtain ⟨_,_,_,p⟩:=x;exact p.lt
 | dK kvs=>obtain ⟨_,_,_,_,o,_,_,e,_⟩:=x;exact Heap.lt_size e
 | dT kvs=>obtain ⟨_,_,_,_,o,_,_,e,_⟩:=x;exact Heap.lt_size e
 | set S n=>obtain ⟨o,_,_,_,e,_⟩:=x;exact Heap.lt_size e
 | ins C dx fs=>obtain ⟨_,_,_,e,_⟩:=x;exact Heap.lt_size e
 | own y=>obtain ⟨_,e⟩:=x;exact Heap.lt_size e
 | xd fs=>obtain ⟨_,⟨_,_,_,e,_⟩,_⟩:=x;exact Heap.lt_size e
 | rng lo hi=>obtain ⟨_,_,_,e⟩:=x;exact Heap.lt_size e
 | frz ob u=>obtain ⟨e,_⟩:=x;exact Heap.lt_size e
 | tbl ps=>exact Heap.lt_size (show h.get? a=some _ from x)
 | met f y=>exact Heap.lt_size (show h.get? a=some _ from x)
 | ext φ=>obtain ⟨_,⟨_,e⟩,_⟩:=x;exact Heap.lt_size e
theorem Paired.mapP {α β:Type} {F G:α→β→Prop}:∀ {l₁:List α} {l₂:List β},Paired F l₁ l₂→(∀ a b,F a b→G a b)→Paired G l₁ l₂
 | _,_,.nil,_=>.nil
 | _,_,.cons r t,f=>.cons (f _ _ r) (Paired.mapP t f)
theorem za5.stay (x:za5 P w H h a o) (k:∀ b u,(b=a∨H b=some (.own a))→h.get? b=some u→h'.get? b=some u)
  (ho:∀ b,H b=some (.own a)→H' b=some (.own a)) (ht:∀ b xs,H b=some (.tup xs)→H' b=some (.tup xs)):za5 P w H' h' a o:=by
 induction o with
 | lst xs=>obtain ⟨z,its,n,r,e⟩:=x;exact ⟨z,its,n,r,k _ _ (.inl rfl) e⟩
 | tup xs=>obtain ⟨z,its,r,ob,e,c⟩:=x;exact ⟨z,its,r,ob,k _ _ (.inl rfl) e,c⟩
 | dK kvs=>obtain ⟨z,y,vs,r,ob,es,ep,e,c⟩:=x;exact ⟨z,y,vs,r,ob,es,ep,k _ _ (.inl rfl) e,c⟩
 | dT kvs =>
   obtain ⟨z,y,xs,r,ob,es,ep,e,c⟩:=x;exact ⟨z,y,xs,Paired.mapP r fun p q z=>⟨z.1,ht _ _ z.2.1,z.2.2⟩,ob,es,ep,k _ _ (.inl rfl) e,c⟩
 | set S n=>obtain ⟨ob,es,ep,t,e,c⟩:=x;exact ⟨ob,es,ep,t,k _ _ (.inl rfl) e,c⟩
 | ins C dx fs =>
   obtain ⟨d,z,ne,e,mA,⟨od,es,ep,e2,c⟩,r⟩:=x;exact ⟨ho _ d,z,ne,k _ _ (.inl rfl) e,mA,⟨od,es,ep,k _ _ (.inr d) e2,c⟩,r⟩
 | own y=>obtain ⟨ob,e⟩:=x;exact ⟨ob,k _ _ (.inl rfl) e⟩
 | xd fs=>obtain ⟨mA,⟨od,es,ep,e,c⟩,r⟩:=x;exact ⟨mA,⟨od,es,ep,k _ _ (.inl rfl) e,c⟩,r⟩
 | rng lo hi=>obtain ⟨t,u,v,e⟩:=x;exact ⟨t,u,v,k _ _ (.inl rfl) e⟩
 | frz ob u ih=>obtain ⟨e,q⟩:=x;exact ⟨k _ _ (.inl rfl) e,ih q⟩
 | tbl ps =>
   have e:h.get? a=some { cls:=.none,data:=.fields ps }:=x;show h'.get? a=some { cls:=.none,data:=.fields ps };exact k a _ (.inl rfl) e
 | met f y =>
   have e:h.get? a=some (PySem.W.methodObj (.ref f) (.ref y)):=x;show h'.get? a=some (PySem.W.methodObj (.ref f) (.ref y));exact k a _ (.inl rfl) e
 | ext φ=>obtain ⟨p,⟨o,e⟩,st⟩:=x;exact ⟨st _ _ p fun o q=>k _ _ (.inl rfl) q,⟨o,k _ _ (.inl rfl) e⟩,st⟩
theorem HOk.lt (x:HOk P w H h) (e:H a=some o):a < h.objs.size:=(x a o e).lt
theorem HOk.fresh (x:HOk P w H h) (e:h.objs.size≤a):H a=none:=by
 cases q:H a with
 | none=>rfl
 | some u=>exact absurd (Nat.lt_of_lt_of_le (x.lt q) e) (Nat.lt_irrefl _)
theorem HOk.kept (x:HOk P w H h) (k:∀ b u,h.get? b=some u→h'.get? b=some u):HOk P w H h':=fun a o e =>
 (x a o e).stay (fun b u _ q=>k b u q) (fun _ q=>q) fun _ _ q=>q
theorem HOk.laid (x:HOk P w H h) (k:∀ b u,h.get? b=some u→h'.get? b=some u) (hp:h.objs.size≤a) (new:za5 P w (upd H a o) h' a o):HOk P w (upd H a o) h':=fun b u e=>by
 have hn:=x.fresh hp
 by_cases hb:b=a
 ·subst hb;rw [zal] at e;cases e;exact new
 ·rw [zau hb] at e;exact (x b u e).stay (fun c v _ q=>k c v q) (fun c q=>by rw [zau (zaf q hn)];exact q) fun c xs q=>by rw [zau (zaf q hn)];exact q
end
def Rd (H:Hp) (a:Addr) (u:HO):Prop:=H a=some u∨∃ o,H a=some (.frz o u)
theorem Rd.ok {P:Program} {w:World} {H:Hp} {h:Heap} {a:Addr} {u:HO} (r:Rd H a u) (x:HOk P w H h):za5 P w H h a u:=by
 rcases r with r | ⟨o,r⟩
 ·exact x a u r
 ·obtain ⟨_,q⟩:=x a _ r;exact q
def Mut:Option HO→Prop
 | some (.lst _)=>True
 | some (.dK _)=>True
 | some (.dT _)=>True
 | some (.set _ _)=>True
 | some (.ins _ _ _)=>True
 | some (.ext _)=>True
 | _=>False
section
variable {P:Program} {w:World} {H:Hp} {h h':Heap} {x e:Addr} {o':HO}
theorem HOk.write (ok:HOk P w H h) (mu:Mut (H x)) (he:e=x∨H e=some (.own x)) (k:∀ b u,b≠e→h.get? b=some u→h'.get? b=some u) (heo:∃ u,h'.get? e=some u)
  (new:za5 P w (upd H x o') h' x o'):HOk P w (upd H x o') h':=fun b u q=>by
 have nown:∀ c y,H c=some (.own y)→c≠x:=fun c y r z=>by subst z;rw [r] at mu;exact mu
 have ntup:∀ c xs,H c=some (.tup xs)→c≠x:=fun c xs r z=>by subst z;rw [r] at mu;exact mu
 by_cases hb:b=x
 ·subst hb;rw [zal] at q;cases q;exact new
 ·rw [zau hb] at q
  by_cases hbe:b=e
  ·have q':H b=some (.own x):=by
    rcases he with z | z
    ·exact absurd (hbe.trans z) hb
    ·rw [hbe];exact z
   rw [q] at q';cases q'
   obtain ⟨v,hv⟩:=heo;exact ⟨v,by rw [hbe];exact hv⟩
  ·refine (ok b u q).stay (fun c v hc r=>k c v ?_ r) (fun c r=>by rw [zau (nown c b r)];exact r) fun c xs r=>by rw [zau (ntup c xs r)];exact r
   rcases hc with rfl | hc
   ·exact hbe
   ·rintro rfl;rcases he with z | z
    ·exact nown c b hc z
    ·rw [hc] at z;cases z;exact hb rfl
end
structure Un (fs ex:List Addr) (H H':Hp) (h h':Heap):Prop where
 keep:∀ b o,h.get? b=some o→H b=none→b∉fs→b∉ex→h'.get? b=some o
 slot:∀ b o,h.get? b=some o→H b=none→b∈fs→b∉ex→∃ sl,h'.get? b=some { o with slots:=sl }
 free:∀ b o,h.get? b=some o→H b=none→b∉ex→H' b=none
 there:∀ b o,h.get? b=some o→b∉ex→∃ o',h'.get? b=some o'
 tups:∀ b xs,H b=some (.tup xs)→H' b=some (.tup xs)
 frzs:∀ b o u,H b=some (.frz o u)→H' b=some (.frz o u)
 tbls:∀ b ps,H b=some (.tbl ps)→∃ more,H' b=some (.tbl (ps++more))
section
variable {fs fs' ex ex':List Addr} {H H1 H2:Hp} {h h1 h2 h':Heap} {a x e:Addr} {o:HO}
theorem Un.any (u:Un fs ex H H1 h h1) {b:Addr} {ob:Obj} (q:h.get? b=some ob) (n:H b=none) (hx:b∉ex):∃ sl,h1.get? b=some { ob with slots:=sl }:=by
 by_cases hb:b∈fs
 ·exact u.slot b ob q n hb hx
 ·exact ⟨ob.slots,u.keep b ob q n hb hx⟩
theorem Un.kept (k:∀ b u,h.get? b=some u→h'.get? b=some u):Un fs ex H H h h' :=
 ⟨fun b ob q _ _ _=>k b ob q,fun b ob q _ _ _=>⟨ob.slots,k b ob q⟩,fun _ _ _ n _=>n,fun b ob q _=>⟨ob,k b ob q⟩,fun _ _ q=>q,fun _ _ _ q=>q,fun _ ps q=>⟨#[],by rw [q];simp⟩⟩
theorem Un.refl:Un fs ex H H h h:=Un.kept fun _ _ q=>q
theorem Un.laid (k:∀ b u,h.get? b=some u→h'.get? b=some u) (hp:h.objs.size≤a) (hn:H a=none):Un fs ex H (upd H a o) h h' where
 keep:=fun b u q _ _ _=>k b u q
 slot:=fun b u q _ _ _=>⟨u.slots,k b u q⟩
 free:=fun b u q n _=>by rw [zau (Nat.ne_of_lt (Nat.lt_of_lt_of_le (Heap.lt_size q) hp))];exact n
 there:=fun b u q _=>⟨u,k b u q⟩
 tups:=fun b xs q=>by rw [zau (zaf q hn)];exact q
 frzs:=fun b u xs q=>by rw [zau (zaf q hn)];exact q
 tbls:=fun b ps q=>⟨#[],by rw [zau (zaf q hn),q];simp⟩
theorem Un.write (mu:Mut (H x)) (he:e=x∨H e=some (.own x)) (k:∀ b u,b≠e→h.get? b=some u→h'.get? b=some u) (heo:∃ u,h'.get? e=some u):Un fs ex H (upd H x o) h h':=by
 have hx:∀ b,H b=none→b≠x:=fun b n z=>by subst z;rw [n] at mu;exact mu
 have hb:∀ b,H b=none→b≠e:=fun b n z=>by
  subst z;rcases he with r | r
  ·exact hx b n r
  ·rw [n] at r;cases r
 have hm:∀ b u,H b=some u→¬Mut (some u)→b≠x:=fun b u q nm z=>by subst z;rw [q] at mu;exact nm mu
 refine ⟨fun b u q n _ _=>k b u (hb b n) q,fun b u q n _ _=>⟨u.slots,k b u (hb b n) q⟩,fun b u q n _=>by rw [zau (hx b n)];exact n,fun b u q _=>?_,
  fun b xs q=>by rw [zau (hm b _ q fun z=>z)];exact q,fun b u xs q=>by rw [zau (hm b _ q fun z=>z)];exact q,fun b ps q=>⟨#[],by rw [zau (hm b _ q fun z=>z),q];simp⟩⟩
 by_cases hbe:b=e
 ·subst hbe;exact heo
 ·exact ⟨u,k b u hbe q⟩
end
def trk (h:Heap) (H:Hp):List Addr:=(List.range h.objs.size).filter fun a=>(H a).isSome
def hidT (h:Heap) (H:Hp):Heap:=PySem.W.hideAll h (trk h H)
theorem zfa (h:Heap) (H:Hp):(hidT h H).objs.size=h.objs.size:=PySem.W.hideAll_size _ _
theorem zf3 {h:Heap} {H:Hp} {b:Addr} {o:Obj} (e:h.get? b=some o) (n:H b=none):(hidT h H).get? b=some o :=
 PySem.W.hideAll_get _ e fun hm=>by
  have q:(H b).isSome=true:=(List.mem_filter.mp hm).2;rw [n] at q;simp at q
theorem zgR {h:Heap} {H:Hp} {b:Addr} {o:Obj} (e:(hidT h H).get? b=some o):h.get? b=some o∧H b=none:=by
 have e':h.get? b=some o:=PySem.W.of_hideAll (trk h H) e;refine ⟨e',?_⟩
 cases q:H b with
 | none=>rfl
 | some x =>
   have hm:b∈trk h H:=List.mem_filter.mpr ⟨List.mem_range.mpr (Heap.lt_size e'),by simp [q]⟩;have z:(hidT h H).get? b=none:=PySem.W.hideAll_none (trk h H) hm;rw [z] at e;cases e
end L2
namespace L2
open PySem PySem.Spec PyProof.Rows
structure Mod (K:PySem.W.Frag) (mg:Str→Option Value) (base:Heap):Prop where
 kin:K.In base
 glob:base.Ns mainGlobals mg
 blt:∃ mb,base.Ns builtinsNs mb∧∀ x:Str,x≠"__name__"→mb x=bootBuiltins x
 nolimit:base.NoLimit
structure Cx where
 prog:Program
 w:World
 K:PySem.W.Frag
 mg:Str→Option Value
 base:Heap
 A:Around
 N:List Str
 s₀:Shared
 H₀:Hp
 env:Env
 outer:List Env
 stack:List Env
 ex:List Addr
 fn:Str→Bool
 calm:Bool
 pn:List (Addr×Obj)
 xe:Value→Shared→Prop
def frs (l:List Env):List Addr:=l.filterMap (·.frame)
abbrev Cx.fs (X:Cx):List Addr:=frs X.outer
def Vis (sc:Scope) (x:Str):Prop:=sc.names.lookup x=some .local∨sc.names.lookup x=some .cell∨sc.names.lookup x=some .free
def Loc (sc:Scope) (x:Str):Prop:=sc.names.lookup x=some .local∨sc.names.lookup x=some .cell
def Look (env:Env) (h:Heap) (m:Str→Option Value) (x:Str) (u:Value):Prop :=
 (env.kindOf x=some .local∧m x=some u)∨((env.kindOf x=some .cell∨env.kindOf x=some .free)∧∃ c,env.cells.lookup x=some c∧h.IsCell c (some u))
structure Cx.Ok (X:Cx):Prop where
 mod:Mod X.K X.mg X.base
 kind:X.env.scope.kind=.function
 glob:X.env.globals=mainGlobals
 blt:X.env.builtins=builtinsNs
 above:X.s₀.heap.objs.size≤X.env.locals
 inj:∀ x y c,X.env.cells.lookup x=some c→X.env.cells.lookup y=some c→x=y
 has:∀ x,(X.env.kindOf x=some .cell∨X.env.kindOf x=some .free)→∃ c,X.env.cells.lookup x=some c
 cab:∀ x c,X.fn x=true→X.env.cells.lookup x=some c→X.s₀.heap.objs.size≤c
 hd:X.calm=true→X.A.handled=none
 frames:X.A.frames=some X.stack
 stk:X.stack=X.outer∨(X.stack=X.env::X.outer∧X.env.frame=some X.env.locals)
 exf:∀ b∈X.ex,b≠X.env.locals∧∀ x c,X.env.cells.lookup x=some c→c≠b
 bs:∀ b o,X.base.get? b=some o→X.s₀.heap.get? b=some o∧X.H₀ b=none
 bsz:X.base.objs.size≤X.s₀.heap.objs.size
 noex:∀ b o,X.base.get? b=some o→b∉X.ex
 exfs:∀ b∈X.ex,b∉X.fs
 funs:X.s₀.heap.FunFrames X.base X.outer
 frf:∀ b∈X.fs,X.H₀ b=none
structure Inv (X:Cx) (pins:List (Addr×Obj)) (σ:List (Option V)) (H:Hp) (s:Shared):Prop where
 ok:X.Ok
 os:s.os=X.s₀.os
 bare:AllBare s.gens
 base:Un X.fs X.ex X.H₀ H X.s₀.heap s.heap
 loc:∃ m,s.heap.Ns X.env.locals m∧∀ (i:Nat) (x:Str) (v:V),X.N[i]? = some x→σ[i]? = some (some v)→Vis X.env.scope x→∃ u,RelV v u∧Look X.env s.heap m x u
 cell:∀ x c,X.env.cells.lookup x=some c→∃ v,s.heap.IsCell c v
 free:H X.env.locals=none
 freeC:∀ x c,X.env.cells.lookup x=some c→H c=none
 pin:∀ p∈X.pn++pins,s.heap.get? p.1=some p.2∧H p.1=none∧p.1≠X.env.locals∧p.1∉X.fs∧∀ v,p.2.data≠.cell v
 hok:HOk X.prog X.w H s.heap
 len:σ.length=X.N.length
section
variable {X:Cx} {pins:List (Addr×Obj)} {σ:List (Option V)} {H H':Hp} {s:Shared} {h':Heap}
theorem Cx.Ok.nofr (ok:X.Ok) {b:Addr} {o:Obj} (e:X.base.get? b=some o):b∉X.fs:=fun hb=>by
 have:=(ok.funs.mem hb).1;rw [e] at this;cases this
theorem Inv.bs (I:Inv X pins σ H s):∀ b o,X.base.get? b=some o→s.heap.get? b=some o∧H b=none:=fun b o e =>
 ⟨I.base.keep b o (I.ok.bs b o e).1 (I.ok.bs b o e).2 (I.ok.nofr e) (I.ok.noex b o e),I.base.free b o (I.ok.bs b o e).1 (I.ok.bs b o e).2 (I.ok.noex b o e)⟩
theorem Inv.bk (I:Inv X pins σ H s):∀ b o,X.base.get? b=some o→s.heap.get? b=some o:=fun b o e=>(I.bs b o e).1
theorem Inv.mod (I:Inv X pins σ H s):Mod X.K X.mg X.base:=I.ok.mod
theorem Inv.kIn (I:Inv X pins σ H s):X.K.In s.heap:=I.ok.mod.kin.keeps I.bk
theorem Inv.lt (I:Inv X pins σ H s):X.env.locals < s.heap.objs.size:=let ⟨_,hn,_⟩:=I.loc;hn.lt
theorem Inv.sz (I:Inv X pins σ H s):X.s₀.heap.objs.size≤s.heap.objs.size:=Nat.le_trans I.ok.above (Nat.le_of_lt I.lt)
theorem Inv.nofs (I:Inv X pins σ H s) {a:Addr} (h:s.heap.objs.size≤a):a∉X.fs:=fun hb=>by
 obtain ⟨_,o,ho,_⟩:=I.ok.funs.mem hb;exact absurd (Nat.lt_of_lt_of_le (Heap.lt_size ho) (Nat.le_trans I.sz h)) (Nat.lt_irrefl _)
theorem Inv.cne (I:Inv X pins σ H s):∀ x c,X.env.cells.lookup x=some c→c≠X.env.locals:=fun x c e z=>by
 obtain ⟨v,o,ho,hd⟩:=I.cell x c e;obtain ⟨m,⟨o',es,ep,ho',hd',_⟩,_⟩:=I.loc;rw [z,ho'] at ho;cases ho;rw [hd'] at hd;cases hd
theorem Inv.funs (I:Inv X pins σ H s):s.heap.FunFrames X.base X.outer:=by
 have all:∀ (l:List Env),(∀ b∈frs l,b∈X.fs)→X.s₀.heap.FunFrames X.base l→s.heap.FunFrames X.base l:=by
  intro l
  induction l with
  | nil=>intro _ _;trivial
  | cons env r ih =>
    intro hs hl;obtain ⟨hk,⟨L,o,hf,hn,ho,hd⟩,hr⟩:=hl;have hL:L∈X.fs:=hs L (by unfold frs;rw [List.filterMap_cons,hf];exact List.mem_cons_self);obtain ⟨sl,e⟩:=I.base.slot L o ho (I.ok.frf L hL) hL fun z=>I.ok.exfs L z hL;exact ⟨hk,⟨L,_,hf,hn,e,hd⟩,ih (fun b hb=>hs b (by unfold frs;rw [List.filterMap_cons,hf];exact List.mem_cons_of_mem _ hb)) hr⟩
 exact all X.outer (fun _ hb=>hb) I.ok.funs
theorem Inv.stack (I:Inv X pins σ H s):s.heap.FunFrames X.base X.stack:=by
 rcases I.ok.stk with e | ⟨e,hf⟩
 ·rw [e];exact I.funs
 ·rw [e];obtain ⟨m,hn,_⟩:=I.loc;refine .cons (by rw [I.ok.kind];decide) hf hn ?_ I.funs;exact Heap.get?_none_of_le (Nat.le_trans I.ok.bsz I.ok.above)
theorem Inv.stkSub (I:Inv X pins σ H s):∀ b∈frs X.stack,b∈X.env.locals::X.fs:=fun b hb=>by
 rcases I.ok.stk with e | ⟨e,hf⟩
 ·rw [e] at hb;exact List.mem_cons_of_mem _ hb
 ·rw [e] at hb;unfold frs at hb;rw [List.filterMap_cons,hf] at hb;exact hb
theorem Inv.stkFree (I:Inv X pins σ H s):∀ b∈frs X.stack,H b=none:=fun b hb=>by
 rcases List.mem_cons.mp (I.stkSub b hb) with e | hb
 ·rw [e];exact I.free
 ·obtain ⟨_,o,ho,_⟩:=I.ok.funs.mem hb;exact I.base.free b o ho (I.ok.frf b hb) fun z=>I.ok.exfs b z hb
theorem Inv.step {g':Array GenState} {t':Nat} {d':Drawn} {ch:List Addr} (I:Inv X pins σ H s)
  (hch:∀ b∈ch,(b∈X.ex∨X.s₀.heap.objs.size≤b)∧b≠X.env.locals∧(∀ x c,X.env.cells.lookup x=some c→c≠b)∧∀ p∈X.pn++pins,p.1≠b)
  (keep:∀ b o,b≠X.env.locals→b∉X.fs→b∉ch→s.heap.get? b=some o→H b=none→h'.get? b=some o)
  (slot:∀ b o,b≠X.env.locals→b∈X.fs→b∉ch→s.heap.get? b=some o→H b=none→∃ sl,h'.get? b=some { o with slots:=sl }) (free:∀ b o,b∉ch→s.heap.get? b=some o→H b=none→H' b=none)
  (there:∀ b o,b∉ch→s.heap.get? b=some o→∃ o',h'.get? b=some o')
  (tups:∀ b xs,H b=some (.tup xs)→H' b=some (.tup xs)) (frzs:∀ b o u,H b=some (.frz o u)→H' b=some (.frz o u)) (tbls:∀ b ps,H b=some (.tbl ps)→∃ more,H' b=some (.tbl (ps++more)))
  (ns:∀ m,s.heap.Ns X.env.locals m→h'.Ns X.env.locals m) (hok:HOk X.prog X.w H' h') (hg:AllBare g') :
  Inv X pins σ H' { s with heap:=h',gens:=g',drawn:=d',toks:=t' }:=by
 have neL:∀ b o,X.s₀.heap.get? b=some o→b≠X.env.locals:=fun b o e=>Nat.ne_of_lt (Nat.lt_of_lt_of_le (Heap.lt_size e) I.ok.above);have neC:∀ b o,X.s₀.heap.get? b=some o→b∉X.ex→b∉ch:=fun b o e hx hb=>by
  rcases (hch b hb).1 with z | z
  ·exact hx z
  ·exact absurd (Nat.lt_of_lt_of_le (Heap.lt_size e) z) (Nat.lt_irrefl _)
 have cellK:∀ x c,X.env.cells.lookup x=some c→∀ v,s.heap.IsCell c v→h'.IsCell c v:=fun x c e v ⟨o,ho,hd⟩=>by
  have nch:c∉ch:=fun z=>(hch c z).2.2.1 x c e rfl
  by_cases hc:c∈X.fs
  ·obtain ⟨sl,q⟩:=slot c o (I.cne x c e) hc nch ho (I.freeC x c e);exact ⟨_,q,hd⟩
  ·exact ⟨o,keep c o (I.cne x c e) hc nch ho (I.freeC x c e),hd⟩
 refine ⟨I.ok,I.os,hg,⟨fun b o e n hb hx=>?_,fun b o e n hb hx=>?_,fun b o e n hx=>?_,fun b o e hx=>?_,fun b xs e=>tups b xs (I.base.tups b xs e),fun b o xs e=>frzs b o xs (I.base.frzs b o xs e),fun b ps e=>?_⟩,?_,fun x c e=>?_,?_,fun x c e=>?_,fun p hp=>?_,hok,I.len⟩
 ·exact keep b o (neL b o e) hb (neC b o e hx) (I.base.keep b o e n hb hx) (I.base.free b o e n hx)
 ·obtain ⟨sl,e1⟩:=I.base.slot b o e n hb hx;obtain ⟨sl',e2⟩:=slot b _ (neL b o e) hb (neC b o e hx) e1 (I.base.free b o e n hx);exact ⟨sl',e2⟩
 ·obtain ⟨o',e1⟩:=I.base.there b o e hx;exact free b o' (neC b o e hx) e1 (I.base.free b o e n hx)
 ·obtain ⟨o',e1⟩:=I.base.there b o e hx;exact there b o' (neC b o e hx) e1
 ·obtain ⟨m1,e1⟩:=I.base.tbls b ps e;obtain ⟨m2,e2⟩:=tbls b _ e1;exact ⟨m1++m2,by rw [e2,Array.append_assoc]⟩
 ·obtain ⟨m,hn,hl⟩:=I.loc;refine ⟨m,ns m hn,fun i x v e1 e2 e3=>?_⟩;obtain ⟨u,r,l⟩:=hl i x v e1 e2 e3;refine ⟨u,r,?_⟩;rcases l with l | ⟨k,c,e,z⟩
  ·exact .inl l
  ·exact .inr ⟨k,c,e,cellK x c e _ z⟩
 ·obtain ⟨v,z⟩:=I.cell x c e;exact ⟨v,cellK x c e v z⟩
 ·obtain ⟨m,⟨o,_,_,ho,_⟩,_⟩:=I.loc;exact free _ o (fun z=>(hch _ z).2.1 rfl) ho I.free
 ·obtain ⟨v,o,ho,hd⟩:=I.cell x c e;exact free c o (fun z=>(hch c z).2.2.1 x c e rfl) ho (I.freeC x c e)
 ·obtain ⟨e,n,ne,nf,d⟩:=I.pin p hp;have nch:p.1∉ch:=fun z=>(hch p.1 z).2.2.2 p hp rfl;exact ⟨keep p.1 p.2 ne nf nch e n,free p.1 p.2 nch e n,ne,nf,d⟩
theorem Inv.un {t':Nat} (I:Inv X pins σ H s) (u:Un X.fs [] H H' s.heap h') (hok:HOk X.prog X.w H' h'):Inv X pins σ H' { s with heap:=h',toks:=t' }:=by
 obtain ⟨m,⟨o,es,ep,ho,r⟩,_⟩:=id I.loc;obtain ⟨sl,hL⟩:=u.any ho I.free (by simp);exact I.step (g':=s.gens) (d':=s.drawn) (ch:=[]) (fun _ z=>nomatch z) (fun b o _ hb _ e n=>u.keep b o e n hb (by simp)) (fun b o _ hb _ e n=>u.slot b o e n hb (by simp)) (fun b o _ e n=>u.free b o e n (by simp)) (fun b o _ e=>u.there b o e (by simp)) u.tups u.frzs u.tbls (fun m' hm=>by
  obtain ⟨o',es',ep',ho',r'⟩:=hm;rw [ho] at ho';cases ho'
  exact ⟨_,es',ep',hL,r'⟩) hok I.bare
theorem Inv.call {g':Array GenState} {t':Nat} {d':Drawn} {ch:List Addr} (I:Inv X pins σ H s) (u:Un (frs X.stack) ch H H' s.heap h') (hok:HOk X.prog X.w H' h') (hg:AllBare g')
  (hch:∀ b∈ch,(b∈X.ex∨X.s₀.heap.objs.size≤b)∧b≠X.env.locals∧(∀ x c,X.env.cells.lookup x=some c→c≠b)∧∀ p∈X.pn++pins,p.1≠b) :
  Inv X pins σ H' { s with heap:=h',gens:=g',drawn:=d',toks:=t' }:=by
 obtain ⟨m,⟨o,es,ep,ho,r⟩,_⟩:=id I.loc;obtain ⟨sl,hL⟩:=u.any ho I.free fun z=>(hch _ z).2.1 rfl;exact I.step (ch:=ch) hch (fun b o hL hb hc e n=>u.keep b o e n (fun z=>(List.mem_cons.mp (I.stkSub b z)).elim hL hb) hc) (fun b o _ _ hc e n=>u.any e n hc) (fun b o hc e n=>u.free b o e n hc) (fun b o hc e=>u.there b o e hc) u.tups u.frzs u.tbls (fun m' hm=>by
  obtain ⟨o',es',ep',ho',r'⟩:=hm;rw [ho] at ho';cases ho'
  exact ⟨_,es',ep',hL,r'⟩) hok hg
theorem Inv.turned {t':Nat} {it:Addr} (I:Inv X pins σ H s) (k:∀ b o,b≠it→s.heap.get? b=some o→h'.get? b=some o) (hn:H it=none) (hL:it≠X.env.locals)
  (h1:it∈X.ex∨X.s₀.heap.objs.size≤it) (h2:∀ x c,X.env.cells.lookup x=some c→c≠it) (h3:∀ p∈X.pn++pins,p.1≠it):Inv X pins σ H { s with heap:=h',toks:=t' }:=by
 have nit:∀ b u,H b=some u→b≠it:=fun b u e z=>by rw [z,hn] at e;cases e
 refine I.step (g':=s.gens) (d':=s.drawn) (ch:=[it]) (fun b hb=>?_) (fun b o _ _ hc e _=>k b o (fun z=>hc (by simp [z])) e) (fun b o _ _ hc e _=>⟨o.slots,k b o (fun z=>hc (by simp [z])) e⟩) (fun _ _ _ _ n=>n)
  (fun b o hc e=>⟨o,k b o (fun z=>hc (by simp [z])) e⟩) (fun _ _ e=>e) (fun _ _ _ e=>e) (fun b ps e=>⟨#[],by rw [e];simp⟩) (fun m hm=>?_) (fun b u e=>?_) I.bare
 ·have e:b=it:=by simpa using hb
  subst e;exact ⟨h1,hL,h2,h3⟩
 ·obtain ⟨o,es,ep,ho,r⟩:=hm;exact ⟨o,es,ep,k _ o (Ne.symm hL) ho,r⟩
 ·refine (I.hok b u e).stay (fun c v hc q=>k c v ?_ q) (fun _ q=>q) fun _ _ q=>q;rcases hc with z | z
  ·rw [z];exact nit b u e
  ·exact nit c _ z
theorem Inv.tok (I:Inv X pins σ H s) (t:Nat):Inv X pins σ H { s with toks:=t }:=I.un (h':=s.heap) (t':=t) Un.refl I.hok
theorem Inv.kept {t':Nat} (I:Inv X pins σ H s) (k:∀ b u,s.heap.get? b=some u→h'.get? b=some u):Inv X pins σ H { s with heap:=h',toks:=t' }:=I.un (Un.kept k) (I.hok.kept k)
theorem Inv.laid {a:Addr} {o:HO} {t':Nat} (I:Inv X pins σ H s) (k:∀ b u,s.heap.get? b=some u→h'.get? b=some u) (hp:s.heap.objs.size≤a) (new:za5 X.prog X.w (upd H a o) h' a o) :
  Inv X pins σ (upd H a o) { s with heap:=h',toks:=t' }:=I.un (Un.laid k hp (I.hok.fresh hp)) (I.hok.laid k hp new)
theorem Inv.write {x e:Addr} {o:HO} {t':Nat} (I:Inv X pins σ H s) (mu:Mut (H x)) (he:e=x∨H e=some (.own x)) (k:∀ b u,b≠e→s.heap.get? b=some u→h'.get? b=some u) (heo:∃ u,h'.get? e=some u)
  (new:za5 X.prog X.w (upd H x o) h' x o):Inv X pins σ (upd H x o) { s with heap:=h',toks:=t' }:=I.un (Un.write mu he k heo) (I.hok.write mu he k heo new)
theorem Inv.pins_of {pins':List (Addr×Obj)} (I:Inv X pins σ H s) (h:∀ p∈pins',s.heap.get? p.1=some p.2∧H p.1=none∧p.1≠X.env.locals∧p.1∉X.fs∧∀ v,p.2.data≠.cell v):Inv X pins' σ H s :=
 ⟨I.ok,I.os,I.bare,I.base,I.loc,I.cell,I.free,I.freeC,fun p hp=>(List.mem_append.mp hp).elim (fun z=>I.pin p (List.mem_append_left _ z)) (h p),I.hok,I.len⟩
theorem zei {N:List Str} (hN:N.Nodup) {i j:Nat} {x:Str} (a:N[i]? = some x) (b:N[j]? = some x):i=j:=by
 obtain ⟨h1,e1⟩:=List.getElem?_eq_some_iff.mp a;obtain ⟨h2,e2⟩:=List.getElem?_eq_some_iff.mp b;exact (List.getElem_inj hN).mp (e1.trans e2.symm)
theorem zdq {M:Model} {A:Around} {E:Value→Shared→Prop} {i:Nat} {x:Str} {v:V} {u:Value} {Q:Unit→Shared→Prop} (I:Inv X pins σ H s) (hN:X.N.Nodup) (hi:X.N[i]? = some x) (hx:Loc X.env.scope x) (r:RelV v u)
  (h:∀ s',Inv X pins (σ.set i (some v)) H s'→(∃ a,Heap.SameBut a s.heap s'.heap∧(a=X.env.locals∨X.env.cells.lookup x=some a))→Q () s') (hf:X.fn x=true∨X.env.scope.names.lookup x=some .local:=by first | exact .inl rfl | exact .inr rfl | assumption):wpAny M A (storeName X.env x u) Q E s:=by
 obtain ⟨m,hn,hl⟩:=id I.loc;have hcls:(X.env.scope.kind == .class || (X.env.scope.kind == .module && X.env.locals != X.env.globals))=false:=by rw [I.ok.kind];rfl
 have hiσ:i < σ.length:=by rw [I.len];exact (List.getElem?_eq_some_iff.mp hi).1
 have cne:=I.cne;have tracked:∀ {a:Addr} {h':Heap},(∃ o,s.heap.get? a=some o∧H a=none)→Heap.SameBut a s.heap h'→HOk X.prog X.w H h':=fun {a h'} ha hs b ob e=>by
  obtain ⟨_,_,hfree⟩:=ha;refine (I.hok b ob e).stay (fun c w' hc q=>(hs.2 c ?_).trans q) (fun _ q=>q) fun _ _ q=>q;rintro rfl;rcases hc with rfl | hc
  ·rw [hfree] at e;cases e
  ·rw [hfree] at hc;cases hc
 rcases hx with hk | hk
 ·refine wpAny_storeName_local hk hn (fun h' hn' hs=>?_) hcls;obtain ⟨oL,_,_,hoL,_⟩:=id hn;refine h _ ⟨I.ok,I.os,I.bare,⟨fun b o e n hb hx=>?_,fun b o e n hb hx=>?_,I.base.free,fun b o e hx=>?_,I.base.tups,I.base.frzs,I.base.tbls⟩,⟨_,hn',fun j y v' e1 e2 e3=>?_⟩,fun y c e=>?_,I.free,I.freeC,fun p hp=>?_,tracked ⟨oL,hoL,I.free⟩ hs,by simpa using I.len⟩ ⟨_,hs,.inl rfl⟩
  ·exact (hs.2 b (Nat.ne_of_lt (Nat.lt_of_lt_of_le (Heap.lt_size e) I.ok.above))).trans (I.base.keep b o e n hb hx)
  ·obtain ⟨sl,e1⟩:=I.base.slot b o e n hb hx;exact ⟨sl,(hs.2 b (Nat.ne_of_lt (Nat.lt_of_lt_of_le (Heap.lt_size e) I.ok.above))).trans e1⟩
  ·obtain ⟨o',e1⟩:=I.base.there b o e hx;exact ⟨o',(hs.2 b (Nat.ne_of_lt (Nat.lt_of_lt_of_le (Heap.lt_size e) I.ok.above))).trans e1⟩
  ·by_cases hj:j=i
   ·subst hj;rw [hi] at e1;cases e1
    rw [List.getElem?_set_self hiσ] at e2
    cases e2
    exact ⟨u,r,.inl ⟨hk,by simp⟩⟩
   ·rw [List.getElem?_set_ne (Ne.symm hj)] at e2;obtain ⟨u',r',q⟩:=hl j y v' e1 e2 e3;refine ⟨u',r',?_⟩;rcases q with ⟨k,e⟩ | ⟨k,c,e,z⟩
    ·refine .inl ⟨k,?_⟩;have:y≠x:=fun e=>hj (zei hN e1 (e▸hi));simp [this,e]
    ·exact .inr ⟨k,c,e,z.sameBut hs (cne y c e)⟩
  ·obtain ⟨w',z⟩:=I.cell y c e;exact ⟨w',z.sameBut hs (cne y c e)⟩
  ·obtain ⟨e,n,ne,nf,d⟩:=I.pin p hp;exact ⟨(hs.2 p.1 ne).trans e,n,ne,nf,d⟩
 ·have hfn:X.fn x=true:=by
   rcases hf with z | z
   ·exact z
   ·rw [z] at hk;cases hk
  obtain ⟨c,hc⟩:=I.ok.has x (.inl hk);obtain ⟨w',z⟩:=I.cell x c hc;refine wpAny_storeName_cell I.ok.kind hk hc z (fun h' hc' hs=>?_);obtain ⟨oc,hoc,hocd⟩:=id z;refine h { s with heap:=h' } ⟨I.ok,I.os,I.bare,⟨fun b o e n hb hx=>?_,fun b o e n hb hx=>?_,I.base.free,fun b o e hx=>?_,I.base.tups,I.base.frzs,I.base.tbls⟩,⟨m,hn.sameBut hs (Ne.symm (cne x c hc)),fun j y v' e1 e2 e3=>?_⟩,fun y c' e=>?_,I.free,I.freeC,fun p hp=>?_,tracked ⟨oc,hoc,I.freeC x c hc⟩ hs,by simpa using I.len⟩ ⟨c,hs,.inr hc⟩
  ·exact (hs.2 b (Nat.ne_of_lt (Nat.lt_of_lt_of_le (Heap.lt_size e) (I.ok.cab x c hfn hc)))).trans (I.base.keep b o e n hb hx)
  ·obtain ⟨sl,e1⟩:=I.base.slot b o e n hb hx;exact ⟨sl,(hs.2 b (Nat.ne_of_lt (Nat.lt_of_lt_of_le (Heap.lt_size e) (I.ok.cab x c hfn hc)))).trans e1⟩
  ·obtain ⟨o',e1⟩:=I.base.there b o e hx;exact ⟨o',(hs.2 b (Nat.ne_of_lt (Nat.lt_of_lt_of_le (Heap.lt_size e) (I.ok.cab x c hfn hc)))).trans e1⟩
  ·by_cases hj:j=i
   ·subst hj;rw [hi] at e1;cases e1
    rw [List.getElem?_set_self hiσ] at e2
    cases e2
    exact ⟨u,r,.inr ⟨.inl hk,c,hc,hc'⟩⟩
   ·rw [List.getElem?_set_ne (Ne.symm hj)] at e2;obtain ⟨u',r',q⟩:=hl j y v' e1 e2 e3;refine ⟨u',r',?_⟩;rcases q with q | ⟨k,c',e,z'⟩
    ·exact .inl q
    ·refine .inr ⟨k,c',e,z'.sameBut hs ?_⟩;rintro rfl;exact hj (zei hN e1 (I.ok.inj _ _ _ e hc▸hi))
  ·by_cases hcc:c'=c
   ·subst hcc;exact ⟨_,hc'⟩
   ·obtain ⟨w2,z2⟩:=I.cell y c' e;exact ⟨w2,z2.sameBut hs hcc⟩
  ·obtain ⟨e,n,ne,nf,d⟩:=I.pin p hp;refine ⟨(hs.2 p.1 ?_).trans e,n,ne,nf,d⟩;intro q;rw [q,hoc] at e;have q':oc=p.2:=Option.some.inj e;exact d w' (by rw [← q'];exact hocd)
theorem zej {M:Model} {A:Around} {E:Value→Shared→Prop} {i:Nat} {x:Str} {v:V} {u:Value} {Q:Unit→Shared→Prop} (I:Inv X pins σ H s) (hN:X.N.Nodup) (hi:X.N[i]? = some x) (hx:Loc X.env.scope x) (r:RelV v u)
  (h:∀ s',Inv X pins (σ.set i (some v)) H s'→Q () s') (hf:X.fn x=true∨X.env.scope.names.lookup x=some .local:=by first | exact .inl rfl | exact .inr rfl | assumption):wpAny M A (storeName X.env x u) Q E s :=
 zdq I hN hi hx r (fun s' I' _=>h s' I') hf
theorem Inv.call' {s':Shared} {ch:List Addr} (I:Inv X pins σ H s) (ho:s'.os=s.os) (u:Un (frs X.stack) ch H H' s.heap s'.heap) (hok:HOk X.prog X.w H' s'.heap) (hg:AllBare s'.gens)
  (hch:∀ b∈ch,(b∈X.ex∨X.s₀.heap.objs.size≤b)∧b≠X.env.locals∧(∀ x c,X.env.cells.lookup x=some c→c≠b)∧∀ p∈X.pn++pins,p.1≠b):Inv X pins σ H' s':=by
 obtain ⟨h',g',d',t',o'⟩:=s';have e:o'=s.os:=ho;subst e;exact I.call (g':=g') (t':=t') (d':=d') u hok hg hch
end
abbrev XK:=Value→Option Addr→Hp→Prop
abbrev St:=List (Option V)
abbrev VK:=V→Hp→Prop
abbrev TE:=St→Hp→VK→Prop
abbrev TT:=St→Hp→(Bool→Hp→Prop)→Prop
abbrev TA:=St→Hp→(List V→Hp→Prop)→Prop
structure Ends where
 nx:St→Hp→Prop
 rt:VK
 bk:St→Hp→Prop:=fun _ _=>False
 ct:St→Hp→Prop:=fun _ _=>False
abbrev TS:=Ends→St→Hp→Prop
def EP (X:Cx) (pins:List (Addr×Obj)) (σ:St) (Q:VK) (u:Value) (s':Shared):Prop:=∃ v H',Inv X pins σ H' s'∧RelV v u∧Q v H'
def TP (X:Cx) (pins:List (Addr×Obj)) (σ:St) (Q:Bool→Hp→Prop) (b:Bool) (s':Shared):Prop:=∃ H',Inv X pins σ H' s'∧Q b H'
def AP (X:Cx) (pins:List (Addr×Obj)) (σ:St) (Q:List V→Hp→Prop) (us:List Value) (s':Shared):Prop:=∃ vs H',Inv X pins σ H' s'∧Vals vs us∧Q vs H'
def SP (X:Cx) (pins:List (Addr×Obj)) (D:Ends) (f:Flow) (s':Shared):Prop :=
 match f with
 | .next=>∃ σ' H',Inv X pins σ' H' s'∧D.nx σ' H'
 | .brk=>∃ σ' H',Inv X pins σ' H' s'∧D.bk σ' H'
 | .cont=>∃ σ' H',Inv X pins σ' H' s'∧D.ct σ' H'
 | .ret u=>∃ v σ' H',Inv X pins σ' H' s'∧RelV v u∧D.rt v H'
def PE (X:Cx) (e:Expr) (t:TE):Prop :=
 ∀ (pins:List (Addr×Obj)) (s:Shared) (σ:St) (H:Hp) (Q:VK),Inv X pins σ H s→t σ H Q→wpAny (model X.prog X.w) X.A (eval e X.env) (EP X pins σ Q) X.xe s
def PT (X:Cx) (e:Expr) (t:TT):Prop :=
 ∀ (pins:List (Addr×Obj)) (s:Shared) (σ:St) (H:Hp) (Q:Bool→Hp→Prop),Inv X pins σ H s→t σ H Q→wpAny (model X.prog X.w) X.A (isTrue e X.env (eval e X.env)) (TP X pins σ Q) X.xe s
def PW (X:Cx) (e:Expr) (t:TT):Prop :=
 ∀ (whole:Sem Value) (pins:List (Addr×Obj)) (s:Shared) (σ:St) (H:Hp) (Q:Bool→Hp→Prop),Inv X pins σ H s→t σ H Q→wpAny (model X.prog X.w) X.A (isTrue e X.env whole) (TP X pins σ Q) X.xe s
theorem PW.pt {X:Cx} {e:Expr} {t:TT} (h:PW X e t):PT X e t:=h _
def PA (X:Cx) (es:List Expr) (t:TA):Prop :=
 ∀ (pos:Pos) (pins:List (Addr×Obj)) (s:Shared) (σ:St) (H:Hp) (Q:List V→Hp→Prop),Inv X pins σ H s→t σ H Q→wpAny (model X.prog X.w) X.A (spliced (backTo pos (starEach es X.env))) (AP X pins σ Q) X.xe s
def PS (X:Cx) (st:Stmt) (t:TS):Prop :=
 ∀ (pins:List (Addr×Obj)) (s:Shared) (σ:St) (H:Hp) (D:Ends),Inv X pins σ H s→t D σ H→wpAny (model X.prog X.w) X.A (exec st X.env) (SP X pins D) X.xe s
def PSs (X:Cx) (st:List Stmt) (t:TS):Prop :=
 ∀ (pins:List (Addr×Obj)) (s:Shared) (σ:St) (H:Hp) (D:Ends),Inv X pins σ H s→t D σ H→wpAny (model X.prog X.w) X.A (execs st X.env) (SP X pins D) X.xe s
theorem thn {α:Type} {t:Sem α} {Q Q':α→Shared→Prop} {M:Model} {A:Around} {E:Value→Shared→Prop} {s:Shared} (h:wpAny M A t Q E s) (hQ:∀ a s,Q a s→Q' a s):wpAny M A t Q' E s:=wpAny_mono h hQ fun _ _ x=>x
end L2
namespace L2
open PySem PySem.Spec PyProof.Rows
section
variable {X:Cx}
def tVar (i:Nat):TE:=fun σ H Q=>∃ v,σ[i]? = some (some v)∧Q v H
def tC (v:V):TE:=fun _ H Q=>Q v H
theorem zhI {i:Nat} {x:Str} {pos:Pos} (hN:X.N[i]? = some x) (hv:Vis X.env.scope x) (hd:(x == ("__debug__" : Str))=false:=by decide) (hcd:(x == ("__classdict__" : Str))=false:=by decide):PE X (.Name x pos) (tVar i):=by
 intro pins s σ H Q I h;obtain ⟨v,e,h⟩:=h;obtain ⟨m,hn,hl⟩:=I.loc;obtain ⟨u,r,l⟩:=hl i x v hN e hv;have fin:EP X pins σ Q u s:=⟨v,H,I,r,h⟩
 rcases l with ⟨hk,hm⟩ | ⟨hk,c,hc,hcell⟩
 ·exact wpAny_Name (wpAny_loadName_local I.ok.kind hk hn hm fin) hd
 ·rcases hk with hk | hk
  ·exact wpAny_Name (wpAny_loadName_cell I.ok.kind hk hc hcell fin) hd
  ·exact wpAny_Name (wpAny_loadName_free I.ok.kind hk hc hcell fin hcd) hd
theorem zae {i j pos}:PE X (.Constant (.int i) j pos) (tC (.int i)):=fun _ _ _ H _ I h=>wpAny_Constant_int ⟨.int i,H,I.tok _,⟨_,rfl⟩,h⟩
theorem zbt {b j pos}:PE X (.Constant (.bool b) j pos) (tC (.bl b)):=fun _ _ _ H _ I h=>Constant_bool ⟨.bl b,H,I,rfl,h⟩
theorem zdr {j pos}:PE X (.Constant .none j pos) (tC .non):=fun _ _ _ H _ I h=>Constant_none ⟨.non,H,I,rfl,h⟩
theorem zck {x j pos}:PE X (.Constant (.str x) j pos) (tC (.str x)):=fun _ _ _ H _ I h=>Calls.Constant_str ⟨.str x,H,I.tok _,⟨_,rfl⟩,h⟩
def Gl (X:Cx) (x:Str):Prop:=X.env.kindOf x=some .globalImplicit
theorem zcw {E:Value→Shared→Prop} {pins:List (Addr×Obj)} {s:Shared} {σ:St} {H:Hp} {x:Str} {u:Value} {pos:Pos} {Q:Value→Shared→Prop} (I:Inv X pins σ H s) (hg:Gl X x) (hm:X.mg x=some u) (h:Q u s)
  (hd:(x == ("__debug__" : Str))=false:=by decide):wpAny (model X.prog X.w) X.A (eval (.Name x pos) X.env) Q E s :=
 Calls.Name_function_global I.ok.kind hg (Calls.loadGlobal_global (by rw [I.ok.glob];exact I.mod.glob.keeps I.bk) hm h) hd
theorem zcx {E:Value→Shared→Prop} {pins:List (Addr×Obj)} {s:Shared} {σ:St} {H:Hp} {x:Str} {u:Value} {pos:Pos} {Q:Value→Shared→Prop} (I:Inv X pins σ H s) (hg:Gl X x) (hm:X.mg x=none) (hv:bootBuiltins x=some u) (h:Q u s)
  (hn:x≠"__name__":=by decide) (hd:(x == ("__debug__" : Str))=false:=by decide):wpAny (model X.prog X.w) X.A (eval (.Name x pos) X.env) Q E s:=by
 obtain ⟨mb,h1,h2⟩:=I.mod.blt;exact Calls.Name_function_global I.ok.kind hg (Calls.loadGlobal_builtin (by rw [I.ok.glob];exact I.mod.glob.keeps I.bk) hm (by rw [I.ok.blt];exact h1.keeps I.bk) ((h2 x hn).trans hv) h) hd
theorem za6 {x:Str} {v:V} {u:Value} {pos:Pos} (hg:Gl X x) (hm:X.mg x=some u) (r:RelV v u) (hd:(x == ("__debug__" : Str))=false:=by decide):PE X (.Name x pos) (tC v) :=
 fun _ _ _ H _ I h=>zcw I hg hm ⟨v,H,I,r,h⟩ hd
theorem zce {x:Str} {v:V} {u:Value} {pos:Pos} (hg:Gl X x) (hm:X.mg x=none) (hv:bootBuiltins x=some u) (r:RelV v u) (hn:x≠"__name__":=by decide) (hd:(x == ("__debug__" : Str))=false:=by decide):PE X (.Name x pos) (tC v) :=
 fun _ _ _ H _ I h=>zcx I hg hm hv ⟨v,H,I,r,h⟩ hn hd
variable {a b:Expr} {ta tb:TE} {pos:Pos}
def PC (X:Cx) (op:CmpOp) (a b:Expr) (t:TE):Prop :=
 ∀ (pins:List (Addr×Obj)) (s:Shared) (σ:St) (H:Hp) (Q:VK),Inv X pins σ H s→t σ H Q →
  wpAny (model X.prog X.w) X.A (eval a X.env) (fun v s₁=>wpAny (model X.prog X.w) X.A (eval b X.env) (fun u s₂=>wpAny (model X.prog X.w) X.A (compareOp op v u) (EP X pins σ Q) X.xe s₂) X.xe s₁) X.xe s
theorem zf4 (b:Expr) {op:CmpOp} (h:op≠.In) (h2:op≠.NotIn):behindInMarks op b=false:=by
 have e1:(op == CmpOp.In)=false:=by cases op <;> first | rfl | exact absurd rfl h
 have e2:(op == CmpOp.NotIn)=false:=by cases op <;> first | rfl | exact absurd rfl h2
 cases b <;> simp [behindInMarks,e1,e2]
def tB (t:TE):TT:=fun σ H Q=>t σ H fun x H1=>∃ c,x=.bl c∧Q c H1
theorem zhJ {op:CmpOp} {t:TE} (h:PC X op a b t) (h1:behindInMarks op b=false:=by first | exact zf4 _ (by decide) (by decide) | rfl):PT X (.Compare a [op] [b] pos) (tB t):=by
 intro pins s σ H Q I hw;refine wpAny_isTrue_Compare1 (thn (h pins s σ H _ I hw) fun v s1 h1=>thn h1 fun u s2 h2=>thn h2 fun c s3 ⟨x,H1,I1,r1,q1⟩=>?_) h1;obtain ⟨d,rfl,q⟩:=q1
 cases r1
 exact wpAny_truthy_bool ⟨H1,I1,q⟩
variable {tA tB':TT} {rest:List Expr}
def tAnd (t u:TT):TT:=fun σ H Q=>t σ H fun c H1=>if c=true then u σ H1 Q else Q false H1
def tOr (t u:TT):TT:=fun σ H Q=>t σ H fun c H1=>if c=true then Q true H1 else u σ H1 Q
def tNot (t:TT):TT:=fun σ H Q=>t σ H fun c H1=>Q (!c) H1
theorem zc8 (ha:PT X a tA):PW X (.BoolOp .And [a] pos) tA:=by
 intro wh pins s σ H Q I h;refine isTrue_and (thn (ha pins s σ H Q I h) fun c s1 e=>?_)
 cases c with
 | true=>exact isTrue_and_nil e
 | false=>exact e
theorem zbZ (ha:PT X a tA):PW X (.BoolOp .Or [a] pos) tA:=by
 intro wh pins s σ H Q I h;refine isTrue_or (thn (ha pins s σ H Q I h) fun c s1 e=>?_)
 cases c with
 | false=>exact isTrue_or_nil e
 | true=>exact e
theorem zek (ha:PT X a tA) (hb:PW X (.BoolOp .And (b::rest) pos) tB'):PW X (.BoolOp .And (a::b::rest) pos) (tAnd tA tB'):=by
 intro wh pins s σ H Q I h;refine isTrue_and (thn (ha pins s σ H _ I h) fun c s1 ⟨H1,I1,q1⟩=>?_)
 cases c with
 | true=>exact hb wh pins s1 σ H1 Q I1 q1
 | false=>exact ⟨H1,I1,q1⟩
theorem zc9 (ha:PT X a tA) (hb:PW X (.BoolOp .Or (b::rest) pos) tB'):PW X (.BoolOp .Or (a::b::rest) pos) (tOr tA tB'):=by
 intro wh pins s σ H Q I h;refine isTrue_or (thn (ha pins s σ H _ I h) fun c s1 ⟨H1,I1,q1⟩=>?_)
 cases c with
 | true=>exact ⟨H1,I1,q1⟩
 | false=>exact hb wh pins s1 σ H1 Q I1 q1
theorem zaZ (ha:PT X a tA):PT X (.UnaryOp .Not a pos) (tNot tA):=by
 intro pins s σ H Q I h;exact isTrue_not (ha pins s σ H (fun c H1=>Q (!c) H1) I h)
def zhK (ta tb:TE):TE:=fun σ H Q=>ta σ H fun x H1=>∃ c,x=.bl c∧if c=true then tb σ H1 Q else Q (.bl false) H1
def zhL (ta:TE):TE:=fun σ H Q=>ta σ H fun x H1=>∃ c,x=.bl c∧Q (.bl (!c)) H1
theorem zb0 {op} {t:TE} (h:PE X a t):PE X (.BoolOp op [a] pos) t:=fun pins s σ H Q I hw=>BoolOp_one (h pins s σ H Q I hw)
theorem zbE (ha:PE X a ta) (hb:PE X (.BoolOp .And (b::rest) pos) tb):PE X (.BoolOp .And (a::b::rest) pos) (zhK ta tb):=by
 intro pins s σ H Q I h;refine BoolOp_and (thn (ha pins s σ H _ I h) fun v s1 ⟨x,H1,I1,r1,q1⟩=>?_);obtain ⟨c,rfl,q1⟩:=q1
 cases r1
 refine wpAny_truthy_bool ?_
 cases c with
 | true=>exact hb pins s1 σ H1 Q I1 q1
 | false=>exact ⟨.bl false,H1,I1,rfl,q1⟩
theorem zgD (ha:PE X a ta):PE X (.UnaryOp .Not a pos) (zhL ta):=by
 intro pins s σ H Q I h;refine UnaryOp_ (thn (ha pins s σ H _ I h) fun v s1 ⟨x,H1,I1,r1,q1⟩=>?_);obtain ⟨c,rfl,q1⟩:=q1
 cases r1
 exact not_of (wpAny_truthy_bool ⟨.bl (!c),H1,I1,rfl,q1⟩)
end
end L2
namespace L2
open PySem PySem.Spec PyProof.Rows
def SqL (K:PySem.W.Frag) (H:Hp) (a:Addr) (xs:List V):Prop :=
 Rd H a (.lst xs) ∨
  ∃ (o:Obj) (its:Array Value) (n:Nat),K.lookup a=some o∧o.cls=.type "list"∧o.dict=none∧o.data=.seq its n∧its.size≤sizeLine∧Vals xs its.toList
def SqT (K:PySem.W.Frag) (H:Hp) (a:Addr) (xs:List V):Prop :=
 Rd H a (.tup xs) ∨
  ∃ (o:Obj) (its:Array Value) (n:Nat),K.lookup a=some o∧o.cls=.type "tuple"∧o.data=.seq its n∧its.size≤sizeLine∧Vals xs its.toList
def absV:Value→Option V
 | .none=>some .non
 | .bool b=>some (.bl b)
 | .int i _=>some (.int i)
 | .str x _=>some (.str x)
 | .bytes b _=>some (.byt b)
 | .float b _=>some (.flt b)
 | .ref a=>some (.ref a)
 | .type n=>some (.ty n)
 | _=>none
theorem RelV.abs {x:V} {u:Value} (r:RelV x u):absV u=some x:=by
 cases x with
 | non=>cases r;rfl
 | bl _=>cases r;rfl
 | int _=>obtain ⟨t,rfl⟩:=r;rfl
 | str _=>obtain ⟨t,rfl⟩:=r;rfl
 | byt _=>obtain ⟨t,rfl⟩:=r;rfl
 | flt _=>obtain ⟨t,rfl⟩:=r;rfl
 | ref _=>cases r;rfl
 | ty _=>cases r;rfl
theorem RelV.inj {x y:V} {u:Value} (r:RelV x u) (q:RelV y u):x=y:=Option.some.inj (r.abs.symm.trans q.abs)
theorem Vals.inj:∀ {xs ys:List V} {us:List Value},Vals xs us→Vals ys us→xs=ys
 | _,_,_,.nil,.nil=>rfl
 | _,_,_,.cons r t,.cons r' t'=>by rw [r.inj r',Vals.inj t t']
section
variable {X:Cx} {pins:List (Addr×Obj)} {σ:St} {H:Hp} {s:Shared} {a:Addr} {xs ys:List V}
theorem SqL.of {K:PySem.W.Frag} (h:H a=some (.lst xs)):SqL K H a xs:=.inl (.inl h)
theorem SqT.of {K:PySem.W.Frag} (h:H a=some (.tup xs)):SqT K H a xs:=.inl (.inl h)
theorem Inv.list (I:Inv X pins σ H s) (h:SqL X.K H a xs):∃ its:List Value,Vals xs its∧PlainL s.heap a its.toArray∧xs.length≤sizeLine:=by
 rcases h with h | ⟨o,its,n,hk,hc,hd,hs,hz,r⟩
 ·obtain ⟨z,its,n,r,e⟩:=h.ok I.hok;exact ⟨its,r,⟨_,n,e,rfl,rfl,rfl⟩,z⟩
 ·refine ⟨its.toList,r,⟨o,n,I.kIn a o hk,hc,hd,by simpa using hs⟩,?_⟩;have e:=r.length;simp only [Array.length_toList] at e;omega
theorem Inv.tuple (I:Inv X pins σ H s) (h:SqT X.K H a xs):∃ its:List Value,Vals xs its∧IsTup s.heap a its.toArray∧xs.length≤sizeLine:=by
 rcases h with h | ⟨o,its,n,hk,hc,hs,hz,r⟩
 ·obtain ⟨z,its,r,p⟩:=h.ok I.hok;exact ⟨its,r,p,z⟩
 ·refine ⟨its.toList,r,⟨o,I.kIn a o hk,hc,n,by simpa using hs⟩,?_⟩;have e:=r.length;simp only [Array.length_toList] at e;omega
theorem Inv.list_inj (I:Inv X pins σ H s) (h:SqL X.K H a xs) (h':SqL X.K H a ys):xs=ys:=by
 obtain ⟨its,r,⟨o,n,e,_,_,d⟩,_⟩:=I.list h;obtain ⟨its',r',⟨o',n',e',_,_,d'⟩,_⟩:=I.list h';rw [e] at e';cases e'
 rw [d] at d';injection d' with d1 _;have:its=its':=by simpa using congrArg Array.toList d1
 subst this;exact r.inj r'
end
abbrev Cx.wish (X:Cx) (E:Value→Shared→Prop):Cx:={ X with xe:=E }
abbrev Cx.nox (X:Cx):Cx:=X.wish fun _ _=>False
theorem Cx.Ok.wish {X:Cx} (ok:X.Ok) (E:Value→Shared→Prop):(X.wish E).Ok :=
 ⟨ok.mod,ok.kind,ok.glob,ok.blt,ok.above,ok.inj,ok.has,ok.cab,ok.hd,ok.frames,ok.stk,ok.exf,ok.bs,ok.bsz,ok.noex,ok.exfs,ok.funs,ok.frf⟩
theorem Cx.Ok.unwish {X:Cx} {E:Value→Shared→Prop} (ok:(X.wish E).Ok):X.Ok :=
 ⟨ok.mod,ok.kind,ok.glob,ok.blt,ok.above,ok.inj,ok.has,ok.cab,ok.hd,ok.frames,ok.stk,ok.exf,ok.bs,ok.bsz,ok.noex,ok.exfs,ok.funs,ok.frf⟩
section
variable {X:Cx} {pins:List (Addr×Obj)} {σ:St} {H:Hp} {s:Shared} {E:Value→Shared→Prop}
theorem Inv.wish (I:Inv X pins σ H s) (E:Value→Shared→Prop):Inv (X.wish E) pins σ H s:=⟨I.ok.wish E,I.os,I.bare,I.base,I.loc,I.cell,I.free,I.freeC,I.pin,I.hok,I.len⟩
theorem Inv.unwish (I:Inv (X.wish E) pins σ H s):Inv X pins σ H s:=⟨I.ok.unwish,I.os,I.bare,I.base,I.loc,I.cell,I.free,I.freeC,I.pin,I.hok,I.len⟩
theorem SP.unwish {D:Ends} {f:Flow} {s':Shared} (h:SP (X.wish E) pins D f s'):SP X pins D f s':=by
 cases f with
 | next=>obtain ⟨σ',H',I,q⟩:=h;exact ⟨σ',H',I.unwish,q⟩
 | brk=>obtain ⟨σ',H',I,q⟩:=h;exact ⟨σ',H',I.unwish,q⟩
 | cont=>obtain ⟨σ',H',I,q⟩:=h;exact ⟨σ',H',I.unwish,q⟩
 | ret u=>obtain ⟨v,σ',H',I,r,q⟩:=h;exact ⟨v,σ',H',I.unwish,r,q⟩
theorem PSs.nox {st:List Stmt} {t:TS} (h:PSs X.nox st t):PSs X st t:=fun pins s σ H D I hw =>
 wpAny_mono (h pins s σ H D (I.wish _) hw) (fun _ _ q=>q.unwish) fun _ _ z=>False.elim z
end
section
variable {X:Cx} {st:Stmt} {rest:List Stmt} {t u:TS} {e:Expr} {te:TE} {pos:Pos}
def tNext:TS:=fun D σ H=>D.nx σ H
def tSeq (t u:TS):TS:=fun D σ H=>t { D with nx:=u D } σ H
theorem pss_nil:PSs X [] tNext:=fun _ _ σ H _ I h=>wpAny_execs_nil ⟨σ,H,I,h⟩
theorem zac (h1:PS X st t) (h2:PSs X rest u):PSs X (st::rest) (tSeq t u):=by
 intro pins s σ H D I h;refine wpAny_execs_cons (thn (h1 pins s σ H { D with nx:=u D } I h) fun f s1 q=>?_)
 cases f with
 | next =>
   obtain ⟨σ',H',I',q⟩:=q;exact h2 pins s1 σ' H' D I' q
 | ret v=>exact q
 | brk=>exact q
 | cont=>exact q
theorem zad (h1:PS X st t):PSs X [st] t:=by
 intro pins s σ H D I h;refine wpAny_execs_cons (thn (h1 pins s σ H D I h) fun f s1 q=>?_)
 cases f with
 | next=>exact wpAny_execs_nil q
 | ret v=>exact q
 | brk=>exact q
 | cont=>exact q
theorem Inv.quiet {pins:List (Addr×Obj)} {σ:St} {H:Hp} {s:Shared} (I:Inv X pins σ H s):interactive X.env=false:=by simp [interactive,I.ok.kind]
def zhM (te:TE):TS:=fun D σ H=>te σ H fun _ H1=>D.nx σ H1
theorem zaP (he:PE X e te) (hs:swapsWith e none pos.line X.env=pure false:=by rfl):PS X (.Expr e pos) (zhM te):=by
 intro pins s σ H D I h;exact wpAny_Expr_any (thn (he pins s σ H _ I h) fun v s1 ⟨x,H1,I1,r1,q1⟩=>⟨σ,H1,I1,q1⟩) I.quiet hs
def tRet (te:TE):TS:=fun D σ H=>te σ H D.rt
theorem zak (he:PE X e te):PS X (.Return (some e) pos) (tRet te):=by
 intro pins s σ H D I h;exact wpAny_Return_some (thn (he pins s σ H _ I h) fun v s1 ⟨x,H1,I1,r1,q1⟩=>⟨x,σ,H1,I1,r1,q1⟩)
def tIfS (c:TT) (t u:TS):TS:=fun D σ H=>c σ H fun b H1=>if b=true then t D σ H1 else u D σ H1
theorem zaQ {c:Expr} {a b:List Stmt} {tc:TT} (hc:PT X c tc) (ha:PSs X a t) (hb:PSs X b u):PS X (.If c a b pos) (tIfS tc t u):=by
 intro pins s σ H D I h;refine wpAny_If (thn (hc pins s σ H _ I h) fun d s1 ⟨H1,I1,q1⟩=>?_)
 cases d with
 | true=>exact ha pins s1 σ H1 D I1 q1
 | false=>exact hb pins s1 σ H1 D I1 q1
def tNever:TS:=fun _ _ _=>False
end
abbrev TG:=V→St→Hp→(St→Hp→Prop)→Prop
abbrev TGs:=List V→St→Hp→(St→Hp→Prop)→Prop
def PG (X:Cx) (target:Expr) (t:TG):Prop :=
 ∀ (pins:List (Addr×Obj)) (s:Shared) (σ:St) (H:Hp) (v:V) (u:Value) (Q:St→Hp→Prop),Inv X pins σ H s→RelV v u→t v σ H Q →
  wpAny (model X.prog X.w) X.A (assign target X.env u) (fun _ s'=>∃ σ' H',Inv X pins σ' H' s'∧Q σ' H') X.xe s
def PGs (X:Cx) (ts:List Expr) (t:TGs):Prop :=
 ∀ (pins:List (Addr×Obj)) (s:Shared) (σ:St) (H:Hp) (vs:List V) (us:List Value) (Q:St→Hp→Prop),Inv X pins σ H s→Vals vs us→t vs σ H Q →
  wpAny (model X.prog X.w) X.A (assignInOrder ((assignEach ts X.env).map (·.2)) us) (fun _ s'=>∃ σ' H',Inv X pins σ' H' s'∧Q σ' H') X.xe s
section
variable {X:Cx} {pos:Pos}
def zbR (i:Nat):TG:=fun v σ H Q=>Q (σ.set i (some v)) H
theorem zaK {i:Nat} {x:Str} (hN:X.N.Nodup) (hi:X.N[i]? = some x) (hx:Loc X.env.scope x) (hf:X.fn x=true∨X.env.scope.names.lookup x=some .local:=by first | exact .inl rfl | exact .inr rfl | assumption):PG X (.Name x pos) (zbR i):=by
 intro pins s σ H v u Q I r h;exact wpAny_assign_Name (zej I hN hi hx r (fun s' I'=>⟨_,H,I',h⟩) hf)
def gNil:TGs:=fun vs σ H Q=>vs=[]∧Q σ H
def zfb (t:TG) (u:TGs):TGs:=fun vs σ H Q=>∃ v r,vs=v::r∧t v σ H fun σ' H'=>u r σ' H' Q
theorem pgs_nil:PGs X [] gNil:=by
 intro pins s σ H vs us Q I r h;obtain ⟨e,h⟩:=h;subst e
 cases r
 exact assignInOrder_nil ⟨σ,H,I,h⟩
theorem zct {e:Expr} {es:List Expr} {t:TG} {u:TGs} (h1:PG X e t) (h2:PGs X es u)
  (hs:(assignEach (e::es) X.env).map (·.2)=assign e X.env::(assignEach es X.env).map (·.2):=by rfl):PGs X (e::es) (zfb t u):=by
 intro pins s σ H vs us Q I r h;obtain ⟨v,vr,e1,h⟩:=h;subst e1
 cases r with
 | cons r rr =>
   rw [hs];refine assignInOrder_cons (thn (h1 pins s σ H _ _ _ I r h) fun _ s1 ⟨σ1,H1,I1,q1⟩=>?_);exact h2 pins s1 σ1 H1 _ _ Q I1 rr q1
def gTup (K:PySem.W.Frag) (n:Nat) (t:TGs):TG:=fun v σ H Q=>∃ a xs,v=.ref a∧SqT K H a xs∧xs.length=n∧t xs σ H Q
theorem zhN {es:List Expr} {k:Nat} {t:TGs} {n:Nat} (hc:X.calm=true) (h:PGs X es t)
  (hn:(assignEach es X.env).length=n:=by rfl) (hst:(assignEach es X.env).findIdx? (·.1)=none:=by rfl):PG X (.Tuple es k pos) (gTup X.K n t):=by
 intro pins s σ H v u Q I r hw;obtain ⟨a,xs,e1,hq,hl,hw⟩:=hw;subst e1
 cases r
 obtain ⟨its,rv,ht,hz⟩:=I.tuple hq;refine assign_Tuple_tuple (I.ok.hd hc) ht (by simp [hn,← hl,rv.length]) hst fun h' hx=>?_;have I1:Inv X pins σ H { s with heap:=h' }:=I.kept (t':=s.toks) fun b o e=>hx b o (Nat.ne_of_lt (Heap.lt_size e)) e;exact h pins _ σ H xs _ Q I1 (by simpa using rv) hw
def tAsg (te:TE) (g:TG):TS:=fun D σ H=>te σ H fun x H1=>g x σ H1 D.nx
theorem zaJ {i:Nat} {x:Str} {e:Expr} {te:TE} {pos':Pos} (hN:X.N.Nodup) (hi:X.N[i]? = some x) (hx:Loc X.env.scope x) (he:PE X e te) (hs:swapsWith e (some (.Name x pos')) pos.line X.env=pure false:=by rfl) (hf:X.fn x=true∨X.env.scope.names.lookup x=some .local:=by first | exact .inl rfl | exact .inr rfl | assumption) :
  PS X (.Assign [.Name x pos'] e pos) (tAsg te (zbR i)):=by
 intro pins s σ H D I h;refine wpAny_Assign_Name (thn (he pins s σ H _ I h) fun v s1 ⟨y,H1,I1,r1,q1⟩=>?_) hs;exact zej I1 hN hi hx r1 (fun s2 I2=>⟨_,H1,I2,q1⟩) hf
end
section
variable {X:Cx} {pos:Pos}
def zhO (c:TT) (tb:TS):TS:=fun D σ H=>∃ W:Nat→St→Hp→Prop,(∃ m,W m σ H)∧∀ m σ H,W m σ H →
 c σ H fun b H1=>if b=true then ∃ N:St→Hp→Prop,(∀ σ' H',N σ' H'→∃ m',m' < m∧W m' σ' H')∧tb { D with nx:=N,ct:=N,bk:=D.nx } σ H1 else D.nx σ H1
theorem zf5 {c:Expr} {body:List Stmt} {tc:TT} {tb:TS} (hp:PassesOwn (model X.prog X.w) X.A X.env X.xe) (hc:PT X c tc) (hb:PSs X body tb):PS X (.While c body [] pos) (zhO tc tb):=by
 intro pins s σ H D I h;obtain ⟨W,⟨m0,w0⟩,turn⟩:=h;refine wpAny_While (codeAny_whileLoop (fun n s'=>∃ σ' H',Inv X pins σ' H' s'∧W n σ' H') ?_ m0 ⟨σ,H,I,w0⟩);rintro n s1 ⟨σ1,H1,I1,w1⟩;refine wpAny_passesOwn hp (thn (hc pins s1 σ1 H1 _ I1 (turn n σ1 H1 w1)) fun b s2 ⟨H2,I2,q2⟩=>?_)
 cases b with
 | true =>
   obtain ⟨N,hN,q2⟩:=q2;rw [if_pos rfl];refine wpAny_passesOwn hp (thn (hb pins s2 σ1 H2 _ I2 q2) fun f s3 q3=>?_)
   cases f with
   | next =>
     obtain ⟨σ3,H3,I3,n3⟩:=q3;obtain ⟨m',hm,w3⟩:=hN σ3 H3 n3;exact ⟨m',hm,σ3,H3,I3,w3⟩
   | cont =>
     obtain ⟨σ3,H3,I3,n3⟩:=q3;obtain ⟨m',hm,w3⟩:=hN σ3 H3 n3;exact ⟨m',hm,σ3,H3,I3,w3⟩
   | brk=>exact q3
   | ret v=>exact q3
 | false =>
   rw [if_neg Bool.false_ne_true];exact wpAny_execs_nil ⟨σ1,H2,I2,q2⟩
end
structure It where
 go:Nat→Hp→Prop
 yld:Nat→Hp→V→Hp→Prop
 stop:Nat→Hp→Prop
def FpOk (X:Cx) (pins:List (Addr×Obj)) (H:Hp) (b:Addr):Prop :=
 H b=none∧b≠X.env.locals∧b∉X.fs∧(b∈X.ex∨X.s₀.heap.objs.size≤b)∧(∀ x c,X.env.cells.lookup x=some c→c≠b)∧∀ p∈X.pn++pins,p.1≠b
theorem Inv.fpOk {X:Cx} {pins:List (Addr×Obj)} {σ:St} {H H':Hp} {s:Shared} {b:Addr} (I:Inv X pins σ H s) (hb:s.heap.objs.size≤b) (hn:H' b=none):FpOk X pins H' b:=by
 refine ⟨hn,Nat.ne_of_gt (Nat.lt_of_lt_of_le I.lt hb),I.nofs hb,.inr (Nat.le_trans I.sz hb),fun x c e z=>?_,fun p hp z=>?_⟩
 ·obtain ⟨v,q⟩:=I.cell x c e;exact absurd (Nat.lt_of_lt_of_le q.lt (by rw [z];exact hb)) (Nat.lt_irrefl _)
 ·exact absurd (Nat.lt_of_lt_of_le (Heap.lt_size (I.pin p hp).1) (by rw [z];exact hb)) (Nat.lt_irrefl _)
structure Turn (P:Program) (w:World) (K:PySem.W.Frag) (tg:Expr) (J:It) (fp:List Addr) (it:Addr) (tn:Nat→Heap→Prop):Prop where
 mem:it∈fp
 obj:∀ i h,tn i h→∀ b∈fp,∃ o,h.get? b=some o∧∀ v,o.data≠.cell v
 keep:∀ i h h',tn i h→(∀ b∈fp,∀ o,h.get? b=some o→h'.get? b=some o)→tn i h'
 item:∀ (X:Cx),X.prog=P→X.w=w→X.K=K→X.calm=true→∀ (i:Nat) (pins:List (Addr×Obj)) (s:Shared) (σ:St) (H:Hp) (E:Value→Shared→Prop),Inv X pins σ H s→(∀ b∈fp,FpOk X pins H b)→tn i s.heap→J.go i H →
  wpAny (model P w) X.A (pyNext (.ref it)) (fun r s1=>∃ u,r=some u ∧
   wpAny (model P w) X.A (letOwnedTupleGo tg (.ref it) u) (fun _ s2=>∃ x H',Inv X pins σ H' s2∧RelV x u∧J.yld i H x H'∧tn (i+1) s2.heap∧∀ b∈fp,H' b=none) E s1) E s
 done:∀ (X:Cx),X.prog=P→X.w=w→X.K=K→X.calm=true→∀ (i:Nat) (pins:List (Addr×Obj)) (s:Shared) (σ:St) (H:Hp) (E:Value→Shared→Prop),Inv X pins σ H s→(∀ b∈fp,FpOk X pins H b)→tn i s.heap→J.stop i H →
  wpAny (model P w) X.A (pyNext (.ref it)) (fun r s1=>r=none∧Inv X pins σ H s1) E s
 self:∀ (A:Around) (i:Nat) (s:Shared) (Q:Value→Shared→Prop) (E:Value→Shared→Prop),tn i s.heap→Q (.ref it) s→wpAny (model P w) A (pyIter (.ref it)) Q E s
abbrev TI:=St→Hp→(It→Hp→Prop)→Prop
def PIE (X:Cx) (pins:List (Addr×Obj)) (σ:St) (tg:Expr) (R:It→Hp→Prop) (itv:Value) (s2:Shared):Prop :=
 ∃ (it:Addr) (fp:List Addr) (tn:Nat→Heap→Prop) (J:It) (H':Hp),itv=.ref it∧Inv X pins σ H' s2∧Turn X.prog X.w X.K tg J fp it tn∧tn 0 s2.heap∧(∀ b∈fp,FpOk X pins H' b)∧R J H'
def PI (X:Cx) (tg iter:Expr) (wi:TI):Prop :=
 ∀ (pins:List (Addr×Obj)) (s:Shared) (σ:St) (H:Hp) (R:It→Hp→Prop),Inv X pins σ H s→wi σ H R →
  wpAny (model X.prog X.w) X.A (eval iter X.env) (fun v s1=>wpAny (model X.prog X.w) X.A (pyIter v) (PIE X pins σ tg R) X.xe s1) X.xe s
theorem zhP {M:Model} {A:Around} {E:Value→Shared→Prop} {s:Shared} {tg:Expr} {it:Addr} {u:Value} {o:Obj} {n:String} {vs:Array Value} {Q:Unit→Shared→Prop} (ho:s.heap.get? it=some o) (hc:o.cls=.type n) (hd:o.data=.fields vs)
  (hn:["enumerate","zip","dict_itemiterator","dict_reverseitemiterator","odict_iterator","itertools.zip_longest","itertools.pairwise"].contains n=false) (hQ:Q () s):wpAny M A (letOwnedTupleGo tg (.ref it) u) Q E s:=by
 unfold letOwnedTupleGo
 cases tg <;> first
  | exact wpAny_pure hQ
  | (cases u <;> first
     | exact wpAny_pure hQ
     | (refine wpAny_bind (wpAny_load ho ?_)
        rw [hc,hd];show wpAny M A (if (["enumerate","zip","dict_itemiterator","dict_reverseitemiterator","odict_iterator","itertools.zip_longest","itertools.pairwise"].contains n && vs[0]? == some (rawInt _))=true then _ else _) Q E s;rw [if_neg (by intro h;rw [hn,Bool.false_and] at h;cases h)];exact wpAny_pure hQ))
def Itl (K:PySem.W.Frag) (a:Addr):It :=
 ⟨fun i H=>∃ xs x,SqL K H a xs∧xs[i]? = some x,fun i H x H'=>H'=H∧∀ xs,SqL K H a xs→xs[i]? = some x,fun i H=>∃ xs,SqL K H a xs∧xs.length≤i⟩
def Itr (lo:Int) (n:Nat):It:=⟨fun i _=>i < n,fun i H x H'=>H'=H∧x=.int (lo+i),fun i _=>n≤i⟩
theorem zfc {P:Program} {w:World} {K:PySem.W.Frag} {tg:Expr} (a it:Addr):Turn P w K tg (Itl K a) [it] it (fun i h=>h.IsListIter it a i) where
 mem:=by simp
 obj:=fun i h st b hb=>by
  have e:b=it:=by simpa using hb
  subst e;obtain ⟨o,e,c,d⟩:=st;exact ⟨o,e,fun v z=>by rw [d] at z;cases z⟩
 keep:=fun i h h' st k=>st.at fun o e=>k it (by simp) o e
 item:=by
  intro X hP hw hK hc i pins s σ H E I hf st hg;subst hP hw hK;obtain ⟨xs,x,hq,hx⟩:=hg;obtain ⟨its,rv,p,hz⟩:=I.list hq;obtain ⟨u,hu,ru⟩:=rv.get hx;obtain ⟨f0,f1,f2,f3,f4,f5⟩:=hf it (by simp);refine wpAny_pyNext_list_item st p.isList (x:=u) (by simpa using hu) fun h' st' sb=>?_;have I1:Inv X pins σ H { s with heap:=h' }:=I.turned (t':=s.toks) (fun b o hb e=>(sb.2 b hb).trans e) f0 f1 f3 f4 f5;obtain ⟨o,e,c,d⟩:=id st';exact ⟨u,rfl,zhP (s:={ s with heap:=h' }) e c d (by decide) ⟨x,H,I1,ru,⟨rfl,fun ys hy=>by rw [I.list_inj hy hq];exact hx⟩,st',fun b hb=>(hf b hb).1⟩⟩
 done:=by
  intro X hP hw hK hc i pins s σ H E I hf st hg;subst hP hw hK;obtain ⟨xs,hq,hx⟩:=hg;obtain ⟨its,rv,p,hz⟩:=I.list hq;obtain ⟨f0,f1,f2,f3,f4,f5⟩:=hf it (by simp);have hl:=rv.length;exact wpAny_pyNext_list_end (I.ok.hd hc) st p.isList (by simp;omega) fun h' eb=>⟨rfl,I.turned (t':=s.toks) (fun b o hb e=>eb b o hb e) f0 f1 f3 f4 f5⟩
 self:=fun _ _ _ _ _ st h=>wpAny_pyIter_listiter st h
theorem zeA {P:Program} {w:World} {K:PySem.W.Frag} {tg:Expr} (it:Addr) (lo:Int) (n:Nat):Turn P w K tg (Itr lo n) [it] it (fun i h=>IsRangeIter h it (lo+(i:Nat) * 1) ((n:Int)-(i:Nat)) 1) where
 mem:=by simp
 obj:=fun i h st b hb=>by
  have e:b=it:=by simpa using hb
  subst e;exact ⟨_,st,fun v z=>by
   have z':Data.fields _=Data.cell v:=z
   cases z'⟩
 keep:=fun i h h' st k=>k it (by simp) _ st
 item:=by
  intro X hP hw hK hc i pins s σ H E I hf st hg;subst hP hw hK;obtain ⟨f0,f1,f2,f3,f4,f5⟩:=hf it (by simp);have W:=Walks.range (prog:=X.prog) (w:=X.w) (I.ok.hd hc) it lo 1 n;refine W.item i s _ _ hg st fun v h' tk hv st' kk=>?_;obtain ⟨t,rfl⟩:=hv;have I1:Inv X pins σ H { s with heap:=h',toks:=tk }:=I.turned (fun b o hb e=>kk b o (by simpa using hb) e) f0 f1 f3 f4 f5;refine ⟨_,rfl,zhP (s:={ s with heap:=h',toks:=tk }) (n:="range_iterator") st' rfl rfl (by decide) ⟨.int (lo+i),H,I1,⟨t,?_⟩,⟨rfl,rfl⟩,st',fun b hb=>(hf b hb).1⟩⟩;rw [Int.mul_one]
 done:=by
  intro X hP hw hK hc i pins s σ H E I hf st hg;subst hP hw hK;obtain ⟨f0,f1,f2,f3,f4,f5⟩:=hf it (by simp);exact wpAny_pyNext_range_end (I.ok.hd hc) st (by have:n≤i:=hg;omega) fun h' eb=>⟨rfl,I.turned (t':=s.toks) (fun b o hb e=>eb b o hb e) f0 f1 f3 f4 f5⟩
 self:=fun _ _ _ _ _ st h=>wpAny_pyIter_rangeiter st h
end L2
namespace L2
open PySem PySem.Spec PyProof.Rows
section
variable {X:Cx} {tg:Expr}
def zf6 (K:PySem.W.Frag) (tl:TE):TI:=fun σ H R=>tl σ H fun x H1=>∃ a,x=.ref a∧(∃ xs,SqL K H1 a xs)∧R (Itl K a) H1
theorem zgS {l:Expr} {tl:TE} (hl:PE X l tl):PI X tg l (zf6 X.K tl):=by
 intro pins s σ H R I h;refine thn (hl pins s σ H _ I h) fun v s1 ⟨x,H1,I1,r1,q1⟩=>?_;obtain ⟨a,e,⟨xs,hq⟩,q⟩:=q1;subst e
 cases r1
 obtain ⟨its,rv,p,hz⟩:=I1.list hq;refine wpAny_pyIter_list p.isList ?_;refine ⟨s1.heap.objs.size,[s1.heap.objs.size],_,_,H1,rfl,I1.kept (t':=s1.toks) fun b o e=>Heap.get?_push_of_some _ e,zfc a _,⟨_,Heap.get?_push_size _ rfl,rfl,rfl⟩,fun b hb=>?_,q⟩;have e:b=s1.heap.objs.size:=by simpa using hb
 subst e;exact I1.fpOk (Nat.le_refl _) (I1.hok.fresh (Nat.le_refl _))
theorem zel {pins:List (Addr×Obj)} {σ:St} {H:Hp} {s:Shared} {R:It→Hp→Prop} {E:Value→Shared→Prop} {lo hi:Int} {t u v:Tok} {tk:Nat} (I:Inv X pins σ H s) (h1 : -(2 ^ 62)≤lo) (h2:lo < 2 ^ 62) (h3 : -(2 ^ 62)≤hi) (h4:hi < 2 ^ 62)
  (q:R (Itr lo (hi-lo).toNat) H):wpAny (model X.prog X.w) X.A (pyIter (.ref s.heap.objs.size)) (PIE X pins σ tg R) E { s with heap:=s.heap.push { cls:=.type "range",data:=.fields #[.int lo t,.int hi u,.int 1 v] },toks:=tk }:=by
 refine wpAny_pyIter_range (IsRange.new ..) (small_one h1 h2 h3 h4) ?_;have I1:Inv X pins σ H { s with heap:=s.heap.push { cls:=.type "range",data:=.fields #[.int lo t,.int hi u,.int 1 v] },toks:=tk }:=I.kept fun b o e=>Heap.get?_push_of_some _ e;refine ⟨(s.heap.push { cls:=.type "range",data:=.fields #[.int lo t,.int hi u,.int 1 v] }).objs.size,[(s.heap.push { cls:=.type "range",data:=.fields #[.int lo t,.int hi u,.int 1 v] }).objs.size],_,_,H,rfl,
  I1.kept (t':=tk) fun b o e=>Heap.get?_push_of_some _ e,zeA _ lo (hi-lo).toNat,?_,fun b hb=>?_,q⟩
 ·have e1:lo+((0:Nat):Int) * 1=lo:=by simp
  have e2:(((hi-lo).toNat:Nat):Int)-((0:Nat):Int)=Builtin.Range.rangeSize lo hi 1:=by rw [rangeSize_one];split <;> omega
  show IsRangeIter _ _ (lo+((0:Nat):Int) * 1) ((((hi-lo).toNat:Nat):Int)-((0:Nat):Int)) 1;rw [e1,e2];exact Heap.get?_push_size _ rfl
 ·have e:b=(s.heap.push { cls:=.type "range",data:=.fields #[.int lo t,.int hi u,.int 1 v] }).objs.size:=by simpa using hb
  subst e;exact I1.fpOk (Nat.le_refl _) (I1.hok.fresh (Nat.le_refl _))
def zhQ (ta:TA):TI:=fun σ H R=>ta σ H fun vs H1=>∃ j:Int,vs=[.int j]∧-(2 ^ 62)≤j∧j < 2 ^ 62∧R (Itr 0 j.toNat) H1
def zgT (ta:TA):TI:=fun σ H R=>ta σ H fun vs H1=>∃ i j:Int,vs=[.int i,.int j]∧(-(2 ^ 62)≤i∧i < 2 ^ 62∧-(2 ^ 62)≤j∧j < 2 ^ 62)∧R (Itr i (j-i).toNat) H1
theorem zds {a:Expr} {ta:TA} {p pos:Pos} (hg:Gl X "range") (hm:X.mg "range" = none) (ha:PA X [a] ta) (hs:starEach [a] X.env=[(false,eval a X.env)]:=by rfl):PI X tg (.Call (.Name "range" p) [a] [] pos) (zhQ ta):=by
 intro pins s σ H R I h;refine Call_ (zcx I hg hm boot_range (PyProof.Rows.callWith_type1 (thn (ha pos pins s σ H _ I h) fun us s1 ⟨vs,H1,I1,r1,q1⟩=>?_) hs rfl));obtain ⟨j,e,q1,q2,q⟩:=q1;subst e
 cases r1 with
 | cons r rr =>
   cases rr
   obtain ⟨t,rfl⟩:=r;exact call_range_1 (zel I1 (by omega) (by omega) q1 q2 (by simpa using q))
theorem zdt {a b:Expr} {ta:TA} {p pos:Pos} (hg:Gl X "range") (hm:X.mg "range" = none) (ha:PA X [a,b] ta) (hs:starEach [a,b] X.env=[(false,eval a X.env),(false,eval b X.env)]:=by rfl) (hs2:starEach [b] X.env=[(false,eval b X.env)]:=by rfl) :
  PI X tg (.Call (.Name "range" p) [a,b] [] pos) (zgT ta):=by
 intro pins s σ H R I h;refine Call_ (zcx I hg hm boot_range (PyProof.Rows.callWith_type1 (thn (ha pos pins s σ H _ I h) fun us s1 ⟨vs,H1,I1,r1,q1⟩=>?_) (by rw [hs,hs2]) (by rw [hs2];rfl)));obtain ⟨i,j,e,⟨q1,q2,q3,q4⟩,q⟩:=q1;subst e
 cases r1 with
 | cons r rr =>
   cases rr with
   | cons r' rr =>
     cases rr
     obtain ⟨t,rfl⟩:=r;obtain ⟨t',rfl⟩:=r';exact call_range_2 (zel I1 q1 q2 q3 q4 q)
def tFor (wi:TI) (g:TG) (tb:TS):TS:=fun D σ H=>wi σ H fun J H1=>∃ W:Nat→Nat→St→Hp→Prop,(∃ m,W 0 m σ H1)∧∀ i m σ H,W i m σ H →
 (J.stop i H∧D.nx σ H)∨(J.go i H∧∃ N:St→Hp→Prop,(∀ σ' H',N σ' H'→∃ m',m' < m∧W (i+1) m' σ' H')∧∀ x H',J.yld i H x H'→g x σ H' fun σ2 H2=>tb { D with nx:=N,ct:=N,bk:=D.nx } σ2 H2)
def zdu (fp:List Addr) (h:Heap):List (Addr×Obj):=fp.filterMap fun b=>(h.get? b).map fun o=>(b,o)
theorem zbL {fp:List Addr} {h:Heap} {b:Addr} {o:Obj} (hb:b∈fp) (e:h.get? b=some o):(b,o)∈zdu fp h:=List.mem_filterMap.mpr ⟨b,hb,by rw [e];rfl⟩
theorem zfd {fp:List Addr} {h:Heap} {p:Addr×Obj} (hp:p∈zdu fp h):p.1∈fp∧h.get? p.1=some p.2:=by
 obtain ⟨b,hb,e⟩:=List.mem_filterMap.mp hp
 cases q:h.get? b with
 | none=>rw [q] at e;cases e
 | some o =>
   rw [q] at e;have e':(b,o)=p:=Option.some.inj e;subst e';exact ⟨hb,q⟩
theorem Inv.pinned {pins:List (Addr×Obj)} {σ:St} {H:Hp} {s:Shared} {fp:List Addr} (I:Inv X pins σ H s) (hf:∀ b∈fp,FpOk X pins H b) (ho:∀ b∈fp,∃ o,s.heap.get? b=some o∧∀ v,o.data≠.cell v):Inv X (pins++zdu fp s.heap) σ H s :=
 I.pins_of fun p hp=>(List.mem_append.mp hp).elim (fun z=>I.pin p (List.mem_append_right _ z)) fun z=>by
  obtain ⟨hb,e⟩:=zfd z;obtain ⟨f0,f1,f2,_⟩:=hf p.1 hb;obtain ⟨o,e',d⟩:=ho p.1 hb;rw [e] at e';cases e'
  exact ⟨e,f0,f1,f2,d⟩
theorem Inv.unpinned {pins pl:List (Addr×Obj)} {σ:St} {H:Hp} {s:Shared} (I:Inv X (pins++pl) σ H s):Inv X pins σ H s:=I.pins_of fun p hp=>I.pin p (List.mem_append_right _ (List.mem_append_left _ hp))
theorem zem {iter:Expr} {body:List Stmt} {wi:TI} {g:TG} {tb:TS} {pos:Pos} (hp:PassesOwn (model X.prog X.w) X.A X.env X.xe) (hc:X.calm=true) (hi:PI X tg iter wi) (hg:PG X tg g) (hb:PSs X body tb)
  (hs:∀ x,foldedSetIterable iter X.env x=pure x:=by intro _;rfl):PS X (.For tg iter body [] pos) (tFor wi g tb):=by
 intro pins s σ H D I h;refine wpAny_For (thn (hi pins s σ H _ I h) fun v s1 h1=>thn h1 fun itv s2 h2=>?_) hs;obtain ⟨it,fp,tn,J,H2,e,I2,T,st2,f2,W,⟨m0,w0⟩,turn⟩:=h2;subst e;have stat:∀ {H':Hp},(∀ b∈fp,H' b=none)→∀ b∈fp,FpOk X pins H' b:=fun hn b hb=>⟨hn b hb,(f2 b hb).2⟩
 refine codeAny_forLoop_any (fun n s'=>∃ i σ' H',Inv X pins σ' H' s'∧tn i s'.heap∧(∀ b∈fp,H' b=none)∧W i n σ' H') ?_ m0 ⟨0,σ,H2,I2,st2,fun b hb=>(f2 b hb).1,w0⟩;rintro n s3 ⟨i,σ3,H3,I3,st3,fr3,w3⟩;rcases turn i n σ3 H3 w3 with ⟨stop,qn⟩ | ⟨go,N,hN,step⟩
 ·refine wpAny_passesOwn hp (thn (T.done X rfl rfl rfl hc i pins s3 σ3 H3 X.xe I3 (stat fr3) st3 stop) fun r s4 ⟨hr,I4⟩=>?_);subst hr;exact wpAny_execs_nil ⟨σ3,H3,I4,qn⟩
 ·refine wpAny_passesOwn hp (thn (T.item X rfl rfl rfl hc i pins s3 σ3 H3 X.xe I3 (stat fr3) st3 go) fun r s4 ⟨u,hr,h4⟩=>?_);subst hr;refine wpAny_passesOwn hp (thn h4 fun _ s5 ⟨x,H5,I5,r5,y5,st5,fr5⟩=>?_);have I5':=I5.pinned (stat fr5) (T.obj _ _ st5);refine wpAny_passesOwn hp (thn (hg _ s5 σ3 H5 x u _ I5' r5 (step x H5 y5)) fun _ s6 ⟨σ6,H6,I6,q6⟩=>?_);refine wpAny_passesOwn hp (thn (hb _ s6 σ6 H6 _ I6 q6) fun f s7 q7=>?_);have again:∀ {σ7:St} {H7:Hp},Inv X (pins++zdu fp s5.heap) σ7 H7 s7→N σ7 H7→∃ m,m < n∧∃ i σ' H',Inv X pins σ' H' s7∧tn i s7.heap∧(∀ b∈fp,H' b=none)∧W i m σ' H':=fun {σ7 H7} I7 n7=>by
   obtain ⟨m',hm,w7⟩:=hN σ7 H7 n7;refine ⟨m',hm,i+1,σ7,H7,I7.unpinned,T.keep _ _ _ st5 fun b hb o e=>(I7.pin (b,o) (List.mem_append_right _ (List.mem_append_right _ (zbL hb e)))).1,fun b hb=>?_,w7⟩;obtain ⟨o,e,d⟩:=T.obj _ _ st5 b hb;exact (I7.pin (b,o) (List.mem_append_right _ (List.mem_append_right _ (zbL hb e)))).2.1
  cases f with
  | next=>obtain ⟨σ7,H7,I7,n7⟩:=q7;exact again I7 n7
  | cont=>obtain ⟨σ7,H7,I7,n7⟩:=q7;exact again I7 n7
  | brk=>obtain ⟨σ7,H7,I7,q7⟩:=q7;exact ⟨σ7,H7,I7.unpinned,q7⟩
  | ret v=>obtain ⟨x7,σ7,H7,I7,r7,q7⟩:=q7;exact ⟨x7,σ7,H7,I7.unpinned,r7,q7⟩
end
theorem zf7 {K:PySem.W.Frag} {a:Addr} {xs:List V} {g:TG} {tb:TS} {D:Ends} {σ:St} {H:Hp} (Pv:Nat→St→Hp→Prop) (h0:Pv 0 σ H) (hl:∀ i σ H,i≤xs.length→Pv i σ H→SqL K H a xs)
  (hs:∀ i x σ H,xs[i]? = some x→Pv i σ H→g x σ H fun σ2 H2=>tb { D with nx:=Pv (i+1),ct:=Pv (i+1),bk:=D.nx } σ2 H2) (hd:∀ σ H,Pv xs.length σ H→D.nx σ H) :
  ∃ W:Nat→Nat→St→Hp→Prop,(∃ m,W 0 m σ H)∧∀ i m σ H,W i m σ H →
   ((Itl K a).stop i H∧D.nx σ H)∨((Itl K a).go i H∧∃ N:St→Hp→Prop,(∀ σ' H',N σ' H'→∃ m',m' < m∧W (i+1) m' σ' H')∧∀ x H',(Itl K a).yld i H x H'→g x σ H' fun σ2 H2=>tb { D with nx:=N,ct:=N,bk:=D.nx } σ2 H2):=by
 refine ⟨fun i m σ H=>m=xs.length-i∧i≤xs.length∧Pv i σ H,⟨xs.length,by simp,Nat.zero_le _,h0⟩,?_⟩;rintro i m σ H ⟨rfl,hi,p⟩;have q:=hl i σ H hi p
 by_cases hlt:i < xs.length
 ·refine .inr ⟨⟨xs,xs[i],q,by simp [hlt]⟩,Pv (i+1),fun σ' H' p'=>⟨xs.length-(i+1),by omega,rfl,hlt,p'⟩,fun x H' y=>?_⟩;obtain ⟨e,y⟩:=y;subst e;exact hs i x σ _ (y xs q) p
 ·have e:i=xs.length:=by omega
  subst e;exact .inl ⟨⟨xs,q,Nat.le_refl _⟩,hd σ H p⟩
theorem zfe {lo:Int} {n:Nat} {g:TG} {tb:TS} {D:Ends} {σ:St} {H:Hp} (Pv:Nat→St→Hp→Prop) (h0:Pv 0 σ H)
  (hs:∀ i σ H,i < n→Pv i σ H→g (.int (lo+i)) σ H fun σ2 H2=>tb { D with nx:=Pv (i+1),ct:=Pv (i+1),bk:=D.nx } σ2 H2) (hd:∀ σ H,Pv n σ H→D.nx σ H) :
  ∃ W:Nat→Nat→St→Hp→Prop,(∃ m,W 0 m σ H)∧∀ i m σ H,W i m σ H →
   ((Itr lo n).stop i H∧D.nx σ H)∨((Itr lo n).go i H∧∃ N:St→Hp→Prop,(∀ σ' H',N σ' H'→∃ m',m' < m∧W (i+1) m' σ' H')∧∀ x H',(Itr lo n).yld i H x H'→g x σ H' fun σ2 H2=>tb { D with nx:=N,ct:=N,bk:=D.nx } σ2 H2):=by
 refine ⟨fun i m σ H=>m=n-i∧i≤n∧Pv i σ H,⟨n,by simp,Nat.zero_le _,h0⟩,?_⟩;rintro i m σ H ⟨rfl,hi,p⟩
 by_cases hlt:i < n
 ·refine .inr ⟨hlt,Pv (i+1),fun σ' H' p'=>⟨n-(i+1),by omega,rfl,hlt,p'⟩,fun x H' y=>?_⟩;obtain ⟨e,y⟩:=y;subst e y;exact hs i σ _ hlt p
 ·have e:i=n:=by omega
  subst e;exact .inl ⟨Nat.le_refl _,hd σ H p⟩
end L2
namespace L2
open PySem PySem.Spec PyProof.Rows
abbrev R2:=V→V→Hp→VK→Prop
def OpR (X:Cx) (f:Value→Value→Sem Value) (r:R2):Prop :=
 ∀ (pins:List (Addr×Obj)) (s:Shared) (σ:St) (H:Hp) (x y:V) (v u:Value) (Q:VK),Inv X pins σ H s→RelV x v→RelV y u→r x y H Q →
  wpAny (model X.prog X.w) X.A (f v u) (EP X pins σ Q) X.xe s
def UnR (X:Cx) (f:Value→Sem Value) (r:V→Hp→VK→Prop):Prop :=
 ∀ (pins:List (Addr×Obj)) (s:Shared) (σ:St) (H:Hp) (x:V) (v:Value) (Q:VK),Inv X pins σ H s→RelV x v→r x H Q →
  wpAny (model X.prog X.w) X.A (f v) (EP X pins σ Q) X.xe s
def zcf (X:Cx) (f:Value) (r:List V→Hp→VK→Prop):Prop :=
 ∀ (pins:List (Addr×Obj)) (s:Shared) (σ:St) (H:Hp) (xs:List V) (us:List Value) (Q:VK),Inv X pins σ H s→Vals xs us→r xs H Q →
  wpAny (model X.prog X.w) X.A (call f us) (EP X pins σ Q) X.xe s
def TruR (X:Cx) (r:V→Hp→(Bool→Hp→Prop)→Prop):Prop :=
 ∀ (pins:List (Addr×Obj)) (s:Shared) (σ:St) (H:Hp) (x:V) (v:Value) (Q:Bool→Hp→Prop),Inv X pins σ H s→RelV x v→r x H Q →
  wpAny (model X.prog X.w) X.A (truthy v) (TP X pins σ Q) X.xe s
def tOp (r:R2) (ta tb:TE):TE:=fun σ H Q=>ta σ H fun x H1=>tb σ H1 fun y H2=>r x y H2 Q
def tUn (r:V→Hp→VK→Prop) (ta:TE):TE:=fun σ H Q=>ta σ H fun x H1=>r x H1 Q
def rI (C:Int→Int→Prop) (g:Int→Int→V):R2:=fun x y H Q=>∃ i j,x=.int i∧y=.int j∧C i j∧Q (g i j) H
def rI0 (g:Int→Int→V):R2:=fun x y H Q=>∃ i j,x=.int i∧y=.int j∧Q (g i j) H
def rU (g:Int→V):V→Hp→VK→Prop:=fun x H Q=>∃ i,x=.int i∧Q (g i) H
section
variable {X:Cx} {a b c:Expr} {ta tb tc:TE} {pos:Pos}
theorem binT (ha:PE X a ta) (hb:PE X b tb) {pins:List (Addr×Obj)} {s:Shared} {σ:St} {H:Hp} {R:V→V→Hp→Prop} (I:Inv X pins σ H s)
  (h:ta σ H fun x H1=>tb σ H1 fun y H2=>R x y H2) {Q:Value→Shared→Prop} {f:Value→Value→Sem Value}
  (hf:∀ v u s2 x y H2,Inv X pins σ H2 s2→RelV x v→RelV y u→R x y H2→wpAny (model X.prog X.w) X.A (f v u) Q X.xe s2) :
  wpAny (model X.prog X.w) X.A (eval a X.env) (fun v s₁=>wpAny (model X.prog X.w) X.A (eval b X.env) (fun u s₂=>wpAny (model X.prog X.w) X.A (f v u) Q X.xe s₂) X.xe s₁) X.xe s:=by
 refine thn (ha pins s σ H _ I h) fun v s1 ⟨x,H1,I1,r1,q1⟩=>?_;refine thn (hb pins s1 σ H1 _ I1 q1) fun u s2 ⟨y,H2,I2,r2,q2⟩=>?_;exact hf v u s2 x y H2 I2 r1 r2 q2
theorem zbq {op:Operator} {r:R2} (ho:OpR X (binaryOp op) r) (ha:PE X a ta) (hb:PE X b tb):PE X (.BinOp a op b pos) (tOp r ta tb):=by
 intro pins s σ H Q I h;exact wpAny_BinOp (binT ha hb I h fun v u s2 x y H2 I2 rx ry q=>ho pins s2 σ H2 x y v u Q I2 rx ry q)
theorem ziJ {op:UnaryOp} {r:V→Hp→VK→Prop} (ho:UnR X (unaryOp op) r) (ha:PE X a ta):PE X (.UnaryOp op a pos) (tUn r ta):=by
 intro pins s σ H Q I h;exact UnaryOp_ (thn (ha pins s σ H _ I h) fun v s1 ⟨x,H1,I1,r1,q1⟩=>ho pins s1 σ H1 x v Q I1 r1 q1)
theorem opI {f:Value→Value→Sem Value} {C:Int→Int→Prop} {g:Int→Int→Int}
  (rule:∀ (i j:Int) (t u:Tok) (s:Shared) (Q:Value→Shared→Prop) (E:Value→Shared→Prop),C i j→Q (.int (g i j) s.toks) { s with toks:=s.toks+1 }→wpAny (model X.prog X.w) X.A (f (.int i t) (.int j u)) Q E s) :
  OpR X f (rI C fun i j=>.int (g i j)):=by
 intro pins s σ H x y v u Q I rx ry h;obtain ⟨i,j,rfl,rfl,hc,q⟩:=h;obtain ⟨t,rfl⟩:=rx;obtain ⟨t',rfl⟩:=ry;exact rule i j t t' s _ _ hc ⟨.int (g i j),H,I.tok _,⟨_,rfl⟩,q⟩
theorem opI0 {f:Value→Value→Sem Value} {g:Int→Int→Int}
  (rule:∀ (i j:Int) (t u:Tok) (s:Shared) (Q:Value→Shared→Prop) (E:Value→Shared→Prop),Q (.int (g i j) s.toks) { s with toks:=s.toks+1 }→wpAny (model X.prog X.w) X.A (f (.int i t) (.int j u)) Q E s) :
  OpR X f (rI0 fun i j=>.int (g i j)):=by
 intro pins s σ H x y v u Q I rx ry h;obtain ⟨i,j,rfl,rfl,q⟩:=h;obtain ⟨t,rfl⟩:=rx;obtain ⟨t',rfl⟩:=ry;exact rule i j t t' s _ _ ⟨.int (g i j),H,I.tok _,⟨_,rfl⟩,q⟩
theorem opB0 {f:Value→Value→Sem Value} {g:Int→Int→Bool}
  (rule:∀ (i j:Int) (t u:Tok) (s:Shared) (Q:Value→Shared→Prop) (E:Value→Shared→Prop),Q (.bool (g i j)) s→wpAny (model X.prog X.w) X.A (f (.int i t) (.int j u)) Q E s) :
  OpR X f (rI0 fun i j=>.bl (g i j)):=by
 intro pins s σ H x y v u Q I rx ry h;obtain ⟨i,j,rfl,rfl,q⟩:=h;obtain ⟨t,rfl⟩:=rx;obtain ⟨t',rfl⟩:=ry;exact rule i j t t' s _ _ ⟨.bl (g i j),H,I,rfl,q⟩
theorem op_add:OpR X (binaryOp .Add) (rI0 fun i j=>.int (i+j)):=opI0 fun _ _ _ _ _ _ _ q=>add_int q
theorem op_sub:OpR X (binaryOp .Sub) (rI0 fun i j=>.int (i-j)):=opI0 fun _ _ _ _ _ _ _ q=>sub_int q
theorem op_mod:OpR X (binaryOp .Mod) (rI (fun _ j=>0 < j) fun i j=>.int (i % j)):=opI fun i j _ _ _ _ _ hc q=>by
 have h1:(0:Int) < j:=hc;exact mod_int' (by omega) (by rw [Int.fmod_eq_emod_of_nonneg i (by omega)];exact q)
theorem unI {f:Value→Sem Value} {g:Int→Int}
  (rule:∀ (i:Int) (t:Tok) (s:Shared) (Q:Value→Shared→Prop) (E:Value→Shared→Prop),Q (.int (g i) s.toks) { s with toks:=s.toks+1 }→wpAny (model X.prog X.w) X.A (f (.int i t)) Q E s) :
  UnR X f (rU fun i=>.int (g i)):=by
 intro pins s σ H x v Q I rx h;obtain ⟨i,rfl,q⟩:=h;obtain ⟨t,rfl⟩:=rx;exact rule i t s _ _ ⟨.int (g i),H,I.tok _,⟨_,rfl⟩,q⟩
theorem un_neg:UnR X (unaryOp .USub) (rU fun i=>.int (-i)):=unI fun _ _ _ _ _ q=>neg_int q
end
def scal:V→V→Bool
 | .non,.non=>true | .non,.int _=>true | .int _,.non=>true | .non,.bl _=>true | .bl _,.non=>true | .non,.str _=>true | .str _,.non=>true
 | .int _,.int _=>true | .bl _,.bl _=>true | .str _,.str _=>true | .byt _,.byt _=>true
 | .int _,.str _=>true | .str _,.int _=>true | .bl _,.str _=>true | .str _,.bl _=>true
 | _,_=>false
def rEq:R2:=fun x y H Q=>scal x y=true∧Q (.bl (decide (x=y))) H
def rNe:R2:=fun x y H Q=>scal x y=true∧Q (.bl (!decide (x=y))) H
theorem zff {i j:Int}:decide (V.int i=V.int j)=(i == j):=by
 rw [Bool.eq_iff_iff];simp
theorem zgE {i j:Bool}:decide (V.bl i=V.bl j)=(i == j):=by
 rw [Bool.eq_iff_iff];simp
theorem zfg {i j:Str}:decide (V.str i=V.str j)=(i == j):=by
 rw [Bool.eq_iff_iff];simp
theorem zfh {i j:Array UInt8}:decide (V.byt i=V.byt j)=(i.toList == j.toList):=by
 rw [Bool.eq_iff_iff]
 cases i
 cases j
 simp
section
variable {X:Cx} {a b c:Expr} {ta tb tc:TE} {pos:Pos}
theorem zaA {pins:List (Addr×Obj)} {σ:St} {H:Hp} {s:Shared} {Q:VK} {k k':Bool} (I:Inv X pins σ H s) (q:Q (.bl k) H) (e:k=k'):EP X pins σ Q (.bool k') s:=by
 subst e;exact ⟨.bl k,H,I,rfl,q⟩
theorem op_eq:OpR X (compareOp .Eq) rEq:=by
 intro pins s σ H x y v u Q I rx ry h;obtain ⟨hs,q⟩:=h
 cases x with
 | non =>
   cases rx
   cases y with
   | non=>cases ry;exact PySem.EqNone.eq_none_none (zaA I q (by simp))
   | bl j=>cases ry;exact PySem.EqNone.eq_none_bool (zaA I q (by simp))
   | int j=>obtain ⟨t',rfl⟩:=ry;exact PySem.EqNone.eq_none_int (zaA I q (by simp))
   | str j=>obtain ⟨t',rfl⟩:=ry;exact PySem.EqNone.eq_none_str (zaA I q (by simp))
   | _=>exact absurd (show false=true from hs) Bool.false_ne_true
 | bl i =>
   cases rx
   cases y with
   | non=>cases ry;exact PySem.EqNone.eq_bool_none (zaA I q (by simp))
   | bl j=>cases ry;exact eq_bool (zaA I q zgE)
   | str j=>obtain ⟨t',rfl⟩:=ry;exact PySem.EqMixed.eq_bool_str (zaA I q (by simp))
   | _=>exact absurd (show false=true from hs) Bool.false_ne_true
 | int i =>
   obtain ⟨t,rfl⟩:=rx
   cases y with
   | non=>cases ry;exact PySem.EqNone.eq_int_none (zaA I q (by simp))
   | int j=>obtain ⟨t',rfl⟩:=ry;exact eq_int (zaA I q zff)
   | str j=>obtain ⟨t',rfl⟩:=ry;exact PySem.EqMixed.eq_int_str (zaA I q (by simp))
   | _=>exact absurd (show false=true from hs) Bool.false_ne_true
 | str i =>
   obtain ⟨t,rfl⟩:=rx
   cases y with
   | non=>cases ry;exact PySem.EqNone.eq_str_none (zaA I q (by simp))
   | bl j=>cases ry;exact PySem.EqMixed.eq_str_bool (zaA I q (by simp))
   | int j=>obtain ⟨t',rfl⟩:=ry;exact PySem.EqMixed.eq_str_int (zaA I q (by simp))
   | str j=>obtain ⟨t',rfl⟩:=ry;exact eq_str (zaA I q zfg)
   | _=>exact absurd (show false=true from hs) Bool.false_ne_true
 | byt i =>
   obtain ⟨t,rfl⟩:=rx
   cases y with
   | byt j=>obtain ⟨t',rfl⟩:=ry;exact PySem.W.eq_bytes (zaA I q zfh)
   | _=>exact absurd (show false=true from hs) Bool.false_ne_true
 | _=>cases y <;> exact absurd (show false=true from hs) Bool.false_ne_true
theorem op_ne:OpR X (compareOp .NotEq) rNe:=by
 intro pins s σ H x y v u Q I rx ry h;obtain ⟨hs,q⟩:=h
 cases x with
 | non =>
   cases rx
   cases y with
   | non=>cases ry;exact PySem.EqNone.ne_none_none (zaA I q (by simp))
   | bl j=>cases ry;exact PySem.EqNone.ne_none_bool (zaA I q (by simp))
   | int j=>obtain ⟨t',rfl⟩:=ry;exact PySem.EqNone.ne_none_int (zaA I q (by simp))
   | str j=>obtain ⟨t',rfl⟩:=ry;exact PySem.EqNone.ne_none_str (zaA I q (by simp))
   | _=>exact absurd (show false=true from hs) Bool.false_ne_true
 | bl i =>
   cases rx
   cases y with
   | non=>cases ry;exact PySem.EqNone.ne_bool_none (zaA I q (by simp))
   | bl j=>cases ry;exact ne_bool (zaA I q (congrArg not zgE))
   | str j=>obtain ⟨t',rfl⟩:=ry;exact PySem.EqMixed.ne_bool_str (zaA I q (by simp))
   | _=>exact absurd (show false=true from hs) Bool.false_ne_true
 | int i =>
   obtain ⟨t,rfl⟩:=rx
   cases y with
   | non=>cases ry;exact PySem.EqNone.ne_int_none (zaA I q (by simp))
   | int j=>obtain ⟨t',rfl⟩:=ry;exact ne_int (zaA I q (congrArg not zff))
   | str j=>obtain ⟨t',rfl⟩:=ry;exact PySem.EqMixed.ne_int_str (zaA I q (by simp))
   | _=>exact absurd (show false=true from hs) Bool.false_ne_true
 | str i =>
   obtain ⟨t,rfl⟩:=rx
   cases y with
   | non=>cases ry;exact PySem.EqNone.ne_str_none (zaA I q (by simp))
   | bl j=>cases ry;exact PySem.EqMixed.ne_str_bool (zaA I q (by simp))
   | int j=>obtain ⟨t',rfl⟩:=ry;exact PySem.EqMixed.ne_str_int (zaA I q (by simp))
   | str j=>obtain ⟨t',rfl⟩:=ry;exact ne_str (zaA I q (congrArg not zfg))
   | _=>exact absurd (show false=true from hs) Bool.false_ne_true
 | byt i =>
   obtain ⟨t,rfl⟩:=rx
   cases y with
   | byt j=>obtain ⟨t',rfl⟩:=ry;exact PySem.W.ne_bytes (zaA I q (congrArg not zfh))
   | _=>exact absurd (show false=true from hs) Bool.false_ne_true
 | _=>cases y <;> exact absurd (show false=true from hs) Bool.false_ne_true
theorem op_lt:OpR X (compareOp .Lt) (rI0 fun i j=>.bl (decide (i < j))):=opB0 fun _ _ _ _ _ _ _ q=>lt_int q
theorem op_le:OpR X (compareOp .LtE) (rI0 fun i j=>.bl (decide (i≤j))):=opB0 fun _ _ _ _ _ _ _ q=>le_int q
theorem op_gt:OpR X (compareOp .Gt) (rI0 fun i j=>.bl (decide (j < i))):=opB0 fun _ _ _ _ _ _ _ q=>gt_int q
theorem op_ge:OpR X (compareOp .GtE) (rI0 fun i j=>.bl (decide (j≤i))):=opB0 fun _ _ _ _ _ _ _ q=>ge_int q
theorem op_isN:OpR X (compareOp .Is) (fun x y H Q=>y=.non∧Q (.bl (decide (x=.non))) H):=by
 intro pins s σ H x y v u Q I rx ry h;obtain ⟨rfl,q⟩:=h
 cases ry
 refine is_none_gen (zaA I q ?_)
 cases x <;> first
  | (cases rx;rfl)
  | (obtain ⟨t,rfl⟩:=rx;rfl)
theorem op_notN:OpR X (compareOp .IsNot) (fun x y H Q=>y=.non∧Q (.bl (!decide (x=.non))) H):=by
 intro pins s σ H x y v u Q I rx ry h;obtain ⟨rfl,q⟩:=h
 cases ry
 refine isnot_none_gen (zaA I q ?_)
 cases x <;> first
  | (cases rx;rfl)
  | (obtain ⟨t,rfl⟩:=rx;rfl)
theorem OpR.or {f:Value→Value→Sem Value} {r r':R2} (h:OpR X f r) (h':OpR X f r'):OpR X f (fun x y H Q=>r x y H Q∨r' x y H Q):=by
 intro pins s σ H x y v u Q I rx ry q;rcases q with q | q
 ·exact h pins s σ H x y v u Q I rx ry q
 ·exact h' pins s σ H x y v u Q I rx ry q
theorem zaq (b:Expr) {op:CmpOp} (h:op≠.In:=by decide) (h2:op≠.NotIn:=by decide):behindInMarks op b=false:=by
 have e1:(op == CmpOp.In)=false:=by cases op <;> first | rfl | exact absurd rfl h
 have e2:(op == CmpOp.NotIn)=false:=by cases op <;> first | rfl | exact absurd rfl h2
 cases b <;> simp [behindInMarks,e1,e2]
theorem zaT {op:CmpOp} {r:R2} (ho:OpR X (compareOp op) r) (ha:PE X a ta) (hb:PE X b tb) (hm:behindInMarks op b=false):PE X (.Compare a [op] [b] pos) (tOp r ta tb):=by
 intro pins s σ H Q I h;exact wpAny_Compare1 (binT ha hb I h fun v u s2 x y H2 I2 rx ry q=>ho pins s2 σ H2 x y v u Q I2 rx ry q) hm
def zhR (t:TE):TT:=fun σ H Q=>t σ H fun x H'=>∃ k,x=.bl k∧Q k H'
theorem zav {op:CmpOp} {r:R2} (ho:OpR X (compareOp op) r) (ha:PE X a ta) (hb:PE X b tb) (hm:behindInMarks op b=false):PT X (.Compare a [op] [b] pos) (zhR (tOp r ta tb)):=by
 intro pins s σ H Q I h;refine wpAny_isTrue_Compare1 (thn (ha pins s σ H _ I h) fun v s1 ⟨x,H1,I1,r1,q1⟩=>thn (hb pins s1 σ H1 _ I1 q1) fun u s2 ⟨y,H2,I2,r2,q2⟩ =>
  thn (ho pins s2 σ H2 x y v u _ I2 r1 r2 q2) fun c s3 ⟨z,H3,I3,r3,k,e,q3⟩=>?_) hm
 subst e
 cases r3
 exact wpAny_truthy_bool ⟨H3,I3,q3⟩
def TruV (K:PySem.W.Frag) (x:V) (H:Hp) (k:Bool):Prop :=
 match x with
 | .non=>k=false
 | .bl b=>k=b
 | .int i=>k=(i != 0)
 | .str y=>y.length≤sizeLine∧k=((y.length:Int) != 0)
 | .byt y=>y.size≤sizeLine∧k=((y.size:Int) != 0)
 | .ref p=>(∃ xs,SqL K H p xs∧k = !xs.isEmpty)∨(∃ xs,SqT K H p xs∧k = !xs.isEmpty)∨∃ kvs,H p=some (.dK kvs)∧k = !kvs.isEmpty
 | _=>False
theorem zeB {κ:Type} {kvs:List (κ×V)} {vs:List (κ×Value)} (r:KV kvs vs):(!vs.isEmpty) = !kvs.isEmpty:=by
 cases r <;> rfl
theorem zcX {xs:List V} {its:List Value} (r:Vals xs its):(!its.toArray.isEmpty) = !xs.isEmpty:=by
 cases r <;> simp
theorem line63:(sizeLine:Nat) < 2 ^ 63:=by rw [sizeLine_eq];decide
theorem tru_ok:TruR X (fun x H Q=>∃ k,TruV X.K x H k∧Q k H):=by
 intro pins s σ H x v Q I rx h;obtain ⟨k,e,q⟩:=h;have hl:=line63;have hs:sizeLine=16777216:=sizeLine_eq
 cases x with
 | non =>
   cases rx
   have e':k=false:=e;subst e';exact truthy_none ⟨H,I,q⟩
 | bl b =>
   cases rx
   have e':k=b:=e;subst e';exact wpAny_truthy_bool ⟨H,I,q⟩
 | int i =>
   obtain ⟨t,rfl⟩:=rx;have e':k=(i != 0):=e;subst e';exact PySem.P.truthy_int ⟨H,I,q⟩
 | str y =>
   obtain ⟨t,rfl⟩:=rx;obtain ⟨hy,e'⟩:y.length≤sizeLine∧k=((y.length:Int) != 0):=e;subst e';exact PySem.P.truthy_str (by omega) ⟨H,I.tok _,q⟩
 | byt y =>
   obtain ⟨t,rfl⟩:=rx;obtain ⟨hy,e'⟩:y.size≤sizeLine∧k=((y.size:Int) != 0):=e;subst e';exact PySem.W.truthy_bytes (by omega) ⟨H,I.tok _,q⟩
 | ref p =>
   cases rx
   have e':(∃ xs,SqL X.K H p xs∧k = !xs.isEmpty)∨(∃ xs,SqT X.K H p xs∧k = !xs.isEmpty)∨∃ kvs,H p=some (.dK kvs)∧k = !kvs.isEmpty:=e;rcases e' with ⟨xs,hx,e'⟩ | ⟨xs,hx,e'⟩ | ⟨kvs,hx,e'⟩
   ·subst e';obtain ⟨its,r,pl,hz⟩:=I.list hx;have hlen:=r.length;exact wpAny_truthy_list pl.isList (by simp only [List.size_toArray];omega) ⟨H,I.tok _,by rw [zcX r];exact q⟩
   ·subst e';obtain ⟨its,r,pl,hz⟩:=I.tuple hx;have hlen:=r.length;exact truthy_tuple pl (by simp only [List.size_toArray];omega) ⟨H,I.tok _,by rw [zcX r];exact q⟩
   ·subst e';obtain ⟨hz,hS,vs,r,m⟩:kvs.length≤sizeLine∧(p == sysModules)=false∧∃ vs,KV kvs vs∧s.heap.DictOf (zbc X.prog X.w) p vs:=I.hok p _ hx;have hlen:kvs.length=vs.length:=Paired.length r;exact wpAny_truthy_dict hS m (by omega) ⟨H,I.tok _,by rw [zeB r];exact q⟩
 | _=>exact (show False from e).elim
theorem zf8 (ha:PE X a ta) (he:∀ whole,isTrue a X.env whole=(do let v ← whole;standAt a.pos;holding [v] (truthy v))) :
  PT X a (fun σ H Q=>ta σ H fun x H'=>∃ k,TruV X.K x H' k∧Q k H'):=by
 intro pins s σ H Q I h;exact isTrue_plain (thn (ha pins s σ H _ I h) fun v s1 ⟨x,H1,I1,r1,q1⟩=>tru_ok pins s1 σ H1 x v Q I1 r1 q1) (he _)
theorem op_add_str:OpR X (binaryOp .Add) (fun x y H Q=>∃ i j,x=.str i∧y=.str j∧i.length+j.length≤sizeLine∧Q (.str (i++j)) H):=by
 intro pins s σ H x y v u Q I rx ry h;obtain ⟨i,j,rfl,rfl,hz,q⟩:=h;obtain ⟨t,rfl⟩:=rx;obtain ⟨t',rfl⟩:=ry;exact add_str (fun t' tk=>⟨.str (i++j),H,I.tok _,⟨_,rfl⟩,q⟩) hz
theorem vals1 {x:V} {us:List Value} (r:Vals [x] us):∃ u,us=[u]∧RelV x u:=by
 cases r with
 | cons r1 r2=>cases r2;exact ⟨_,rfl,r1⟩
theorem call_abs:zcf X (.builtin "abs") (fun xs H Q=>∃ i,xs=[.int i]∧Q (.int (if i < 0 then -i else i)) H):=by
 intro pins s σ H xs us Q I r h;obtain ⟨i,rfl,q⟩:=h;obtain ⟨u,rfl,t,rfl⟩:=vals1 r;exact call_abs_int fun u tk=>⟨.int (if i < 0 then -i else i),H,I.tok _,⟨_,rfl⟩,q⟩
theorem call_int1:zcf X (.type "int") (fun xs H Q=>(∃ i,xs=[.int i]∧Q (.int i) H)∨∃ k,xs=[.bl k]∧Q (.int (if k then 1 else 0)) H):=by
 intro pins s σ H xs us Q I r h;rcases h with ⟨i,rfl,q⟩ | ⟨k,rfl,q⟩
 ·obtain ⟨u,rfl,t,rfl⟩:=vals1 r;exact call_int_int ⟨.int i,H,I,⟨_,rfl⟩,q⟩
 ·obtain ⟨u,rfl,r1⟩:=vals1 r
  cases r1
  exact call_int_bool ⟨.int (if k then 1 else 0),H,I.tok _,⟨_,rfl⟩,q⟩
end
end L2
namespace L2
open PySem PySem.Spec PyProof.Rows
structure ObjM (h:Heap) (x dx C:Addr) (mA:Str→Option Value):Prop where
 obj:h.get? x=some (PySem.W.instObj C dx)
 ns:h.Ns1 dx mA
 ne:dx≠x
theorem zfi {h:Heap} {dx:Addr} {mA:Str→Option Value} (n:h.Ns1 dx mA):∃ od,h.get? dx=some od∧∀ name,PySem.W.lookIn name od=some (mA name):=by
 obtain ⟨o,es,ep,ho,hd,hk,_,hm⟩:=n;refine ⟨o,ho,fun name=>?_⟩;have e:=hm name;unfold nsFind findBy at e;rw [← Array.find?_toList] at e;unfold PySem.W.lookIn;rw [hd];dsimp only;split
 ·rename_i y q
  rw [q] at e;exact congrArg some e
 ·rename_i q
  rw [q] at e;have a:es.toList.any (·.refKey)=false:=by
   rw [List.any_eq_false];intro y hy;obtain ⟨z,t,hkey⟩:=hk y (Array.mem_toList_iff.mp hy);simp [DictEntry.refKey,hkey]
  have a':¬es.toList.any (·.refKey)=true:=by rw [a];exact Bool.false_ne_true
  rw [if_neg a'];exact congrArg some e
theorem ObjM.look {h:Heap} {x dx C:Addr} {mA:Str→Option Value} (I:ObjM h x dx C mA):∃ od,PySem.W.InstAt h x (PySem.W.instObj C dx) C (some od)∧∀ name,PySem.W.lookIn name od=some (mA name) :=
 let ⟨od,ho,hl⟩:=zfi I.ns
 ⟨od,⟨I.obj,rfl,rfl,ho⟩,hl⟩
section
variable {prog:Program} {w:World} {A:Around} {E:Value→Shared→Prop} {s:Shared} {K:PySem.W.Frag} {x dx C f:Addr} {mA:Str→Option Value} {name:Str} {v:Value}
theorem zgU {expr:Bool} {Q:Value→Shared→Prop} (X:K.In s.heap) (I:ObjM s.heap x dx C mA) (hg:PySem.W.plainGet K C name=true) (hh:PySem.W.hasDictIn K C=true)
  (ha:PySem.W.findIn K (.ref C) name=some none) (hv:mA name=some v) (hv':PySem.W.handedIn v=true) (h:Q v { s with toks:=s.toks+1 }) :
  wpAny (model prog w) A (getAttr (.ref x) name expr) Q E s:=by
 obtain ⟨od,J,hl⟩:=I.look;exact PySem.W.get_value X J (PySem.W.plainGet_of hg).1 (PySem.W.findObj_own hh ha rfl (by rw [hl,hv])) hv' h
theorem zf9 {pl:Sem Bool} {Q:Value×List Value→Shared→Prop} (X:K.In s.heap) (I:ObjM s.heap x dx C mA) (hg:PySem.W.plainGet K C name=true)
  (hf:PySem.W.findIn K (.ref C) name=some (some (.ref f))) (ht:PySem.W.isFn K (.ref f)=true) (hv:mA name=none) (h:Q (.ref f,[.ref x]) s) :
  wpAny (model prog w) A (getMethod (.ref x) name pl) Q E s:=by
 obtain ⟨od,J,hl⟩:=I.look;exact PySem.W.method_fn X J (PySem.W.plainGet_of hg).1 (PySem.W.plainGet_of hg).2 hf (beq_iff_eq.mp ht) (by show (PySem.W.lookIn name od).map (·.isSome)=some false;rw [hl,hv];rfl) h
theorem zgV {ns:List Str} {Q:Unit→Shared→Prop} (X:K.In s.heap) (I:ObjM s.heap x dx C mA)
  (hs:PySem.W.findIn K (.ref C) "__setattr__" = some (some (.builtin "object.__setattr__"))) (hp:PySem.W.plainOver K C=true) (ht:PySem.W.takerIn K C name=some none) (hh:PySem.W.hasDictIn K C=true)
  (hw:PySem.Within mA ns) (hsz:ns.length≤sizeLine)
  (h:∀ h',ObjM h' x dx C (fun y=>if y=name then some v else mA y)→Heap.SameBut dx s.heap h'→Q () { s with heap:=h',toks:=s.toks+2 }) :
  wpAny (model prog w) A (setAttr (.ref x) name v) Q E s:=by
 obtain ⟨od,J,hl⟩:=I.look;refine PySem.W.set_plain X J hs (PySem.W.osa_open (s:={ s with toks:=s.toks+1 }) (r:=none) X J hp ht fun b=>?_);obtain ⟨cd,hc,hd'⟩:=PySem.W.any_some hh;have hx:s.heap.get? x=some ⟨.ref C,some dx,.plain,#[]⟩:=I.obj;refine wpAny_bind (wpAny_pure (wpAny_bind (wpAny_bind (wpAny_loadPart hx (wpAny_bind (PySem.W.Looks.here (s:={ s with toks:=s.toks+1 }) (PySem.W.looks_clsIn X hc) ?_))))));rw [hd'];refine wpAny_pure (a:=some dx) (wpAny_bind (wpAny_pure (wpAny_bind ?_)));refine wpAny_nsSet1 (s:={ s with toks:=s.toks+1 }) I.ns fun h' hn2 hs2=>?_;obtain ⟨oD,esD,epD,hoD,hdD,hcD⟩:=hn2.count (PySem.Within.cons name v hw);refine wpAny_bind (wpAny_lookBehind hoD (by rw [hdD];exact pastItsLine_dict (Nat.le_trans hcD (by rw [List.length_cons];omega))) ?_);exact wpAny_pure (h _ ⟨(hs2.2 _ (Ne.symm I.ne)).trans I.obj,hn2,I.ne⟩ hs2)
theorem zga {R:Result→Shared→Prop} {vs:List Value} {kw:List (Str×Value)} (X:K.In s.heap) (hm:PySem.W.makesIn K C=true)
  (hi:PySem.W.findIn K (.ref C) "__init__" = some (some (.ref f))) (hf:PySem.W.typeIn K (.ref f)=some (.type "function"))
  (h:codeAny (model prog w) (A.under (.builtin "type.__call__" ⟨.ref C::vs,kw⟩)) (.call (.ref f) ⟨.ref (s.heap.objs.size+1)::vs,kw⟩) (PySem.W.InitBack (s.heap.objs.size+1) R)
   { s with heap:=(s.heap.push PySem.W.emptyDict).push (PySem.W.instObj C s.heap.objs.size) }) :
  codeAny (model prog w) A (.call (.ref C) ⟨vs,kw⟩) R s:=by
 obtain ⟨hh,g,d,t,os⟩:=s;exact PySem.W.make_core (PySem.W.makes_of X hm) (PySem.W.looks_findIn X hi) (fun self=>PySem.W.bind_fn X self hf) (.inl rfl) h
end
def putF (f:Str) (v:V):List (Str×V)→List (Str×V)
 | []=>[(f,v)]
 | (g,x)::r=>if g=f then (g,v)::r else (g,x)::putF f v r
theorem zaF (f g:Str) (v:V):∀ fs:List (Str×V),(putF f v fs).lookup g=if g=f then some v else fs.lookup g
 | []=>by
   show List.lookup g [(f,v)]=_
   by_cases h:g=f
   ·have hb:(g == f)=true:=beq_iff_eq.mpr h;simp only [List.lookup,hb,if_pos h]
   ·have hb:(g == f)=false:=beq_eq_false_iff_ne.mpr h;simp only [List.lookup,hb,if_neg h]
 | (k,x)::r=>by
  have ih:=zaF f g v r;rw [show putF f v ((k,x)::r)=(if k=f then (k,v)::r else (k,x)::putF f v r) from rfl]
  by_cases hk:k=f
  ·rw [if_pos hk]
   by_cases h:g=k
   ·have hb:(g == k)=true:=beq_iff_eq.mpr h;simp only [List.lookup,hb,if_pos (h.trans hk)]
   ·have hb:(g == k)=false:=beq_eq_false_iff_ne.mpr h;simp only [List.lookup,hb,if_neg (fun e:g=f=>h (e.trans hk.symm))]
  ·rw [if_neg hk]
   by_cases h:g=k
   ·have hb:(g == k)=true:=beq_iff_eq.mpr h;simp only [List.lookup,hb,if_neg (fun e:g=f=>hk (h.symm.trans e))]
   ·have hb:(g == k)=false:=beq_eq_false_iff_ne.mpr h;simp only [List.lookup,hb];exact ih
theorem zcy (f:Str) (v:V):∀ fs:List (Str×V),f∈(putF f v fs).map (·.1)∧∀ g,g∈fs.map (·.1)→g∈(putF f v fs).map (·.1)
 | []=>⟨by simp [putF],fun g h=>by simp at h⟩
 | (k,x)::r=>by
  obtain ⟨i1,i2⟩:=zcy f v r;rw [show putF f v ((k,x)::r)=(if k=f then (k,v)::r else (k,x)::putF f v r) from rfl]
  by_cases hk:k=f
  ·rw [if_pos hk];subst hk;exact ⟨by simp,fun g h=>by simpa using h⟩
  ·rw [if_neg hk];refine ⟨?_,fun g h=>?_⟩
   ·rw [List.map_cons];exact List.mem_cons_of_mem _ i1
   ·rw [List.map_cons] at h ⊢;rcases List.mem_cons.mp h with e | e
    ·exact List.mem_cons.mpr (.inl e)
    ·exact List.mem_cons_of_mem _ (i2 g e)
theorem zcz (f:Str) (v:V):∀ fs:List (Str×V),(putF f v fs).length≤fs.length+1
 | []=>by simp [putF]
 | (k,x)::r=>by
  have ih:=zcz f v r;rw [show putF f v ((k,x)::r)=(if k=f then (k,v)::r else (k,x)::putF f v r) from rfl]
  by_cases hk:k=f
  ·rw [if_pos hk,List.length_cons,List.length_cons];omega
  ·rw [if_neg hk,List.length_cons,List.length_cons];omega
theorem RelO.some_of {v:V} {o:Option Value} (r:RelO (some v) o):∃ u,o=some u∧RelV v u:=by
 cases o with
 | none=>exact (show False from r).elim
 | some u=>exact ⟨u,rfl,r⟩
theorem RelO.none_of {o:Option Value} (r:RelO none o):o=none:=by
 cases o with
 | none=>rfl
 | some u=>exact (show False from r).elim
theorem zfj {v:V} {u:Value} (r:RelV v u):PySem.W.handedIn u=true:=by
 cases v with
 | non=>cases (show u=Value.none from r);rfl
 | bl b=>cases (show u=Value.bool b from r);rfl
 | int i=>obtain ⟨t,e⟩:=(show ∃ t,u=Value.int i t from r);cases e;rfl
 | str x=>obtain ⟨t,e⟩:=(show ∃ t,u=Value.str x t from r);cases e;rfl
 | byt b=>obtain ⟨t,e⟩:=(show ∃ t,u=Value.bytes b t from r);cases e;rfl
 | flt b=>obtain ⟨t,e⟩:=(show ∃ t,u=Value.float b t from r);cases e;rfl
 | ref a=>cases (show u=Value.ref a from r);rfl
 | ty n=>cases (show u=Value.type n from r);rfl
section
variable {P:Program} {w:World} {H H':Hp} {h h':Heap} {a C dx:Addr} {fs fs':List (Str×V)}
theorem zda (hok:HOk P w H h) (e:H a=some (.ins C dx fs)):∃ mA,ObjM h a dx C mA∧(∀ f,RelO (fs.lookup f) (mA f))∧PySem.Within mA (fs.map (·.1))∧fs.length≤1000∧H dx=some (.own a):=by
 obtain ⟨d,z,ne,ob,mA,n,r,q⟩:=(show za5 P w H h a (.ins C dx fs) from hok a _ e)
 exact ⟨mA,⟨ob,n,ne⟩,r,q,z,d⟩
end
structure Cls (K:PySem.W.Frag) (C:Addr):Prop where
 pg:PySem.W.plainGet K C Str.empty=true
 hd:PySem.W.hasDictIn K C=true
 po:PySem.W.plainOver K C=true
 sa:PySem.W.findIn K (.ref C) "__setattr__" = some (some (.builtin "object.__setattr__"))
theorem Cls.get {K:PySem.W.Frag} {C:Addr} (c:Cls K C) (f:Str):PySem.W.plainGet K C f=true:=c.pg
def za8 (K:PySem.W.Frag) (C:Addr) (f:Str):Prop:=PySem.W.findIn K (.ref C) f=some none
theorem za8.taker {K:PySem.W.Frag} {C:Addr} {f:Str} (n:za8 K C f):PySem.W.takerIn K C f=some none:=by
 unfold PySem.W.takerIn;rw [show PySem.W.findIn K (.ref C) f=some none from n];rfl
structure Meth (K:PySem.W.Frag) (C:Addr) (m:Str) (f:Addr):Prop where
 at_:PySem.W.findIn K (.ref C) m=some (some (.ref f))
 fn:PySem.W.isFn K (.ref f)=true
 kp:PySem.W.keepIn K (.ref f)=true
section
variable {X:Cx} {pins:List (Addr×Obj)} {σ:St} {H:Hp} {s:Shared} {a C dx:Addr} {fs:List (Str×V)} {f:Str} {v:V} {A:Around} {E:Value→Shared→Prop}
theorem zeC {b:Bool} {Q:Value→Shared→Prop} (I:Inv X pins σ H s) (e:H a=some (.ins C dx fs)) (c:Cls X.K C) (n:za8 X.K C f) (l:fs.lookup f=some v)
  (h:∀ u s',Inv X pins σ H s'→RelV v u→Q u s'):wpAny (model X.prog X.w) A (getAttr (.ref a) f b) Q E s:=by
 obtain ⟨mA,O,r,_,_,_⟩:=zda I.hok e;obtain ⟨u,hu,ru⟩:=RelO.some_of (v:=v) (o:=mA f) (by rw [← l];exact r f);exact zgU I.kIn O (c.get f) c.hd n hu (zfj ru) (h u _ (I.tok _) ru)
theorem zcg {m:Str} {g:Addr} {pl:Sem Bool} {Q:Value×List Value→Shared→Prop} (I:Inv X pins σ H s) (e:H a=some (.ins C dx fs)) (c:Cls X.K C) (k:Meth X.K C m g) (l:fs.lookup m=none)
  (h:Q (.ref g,[.ref a]) s):wpAny (model X.prog X.w) A (getMethod (.ref a) m pl) Q E s:=by
 obtain ⟨mA,O,r,_,_,_⟩:=zda I.hok e;have hn:mA m=none:=RelO.none_of (by rw [← l];exact r m);exact zf9 I.kIn O (c.get m) k.at_ k.fn hn h
theorem zeD {y:V} {u:Value} {Q:Unit→Shared→Prop} (I:Inv X pins σ H s) (e:H a=some (.ins C dx fs)) (c:Cls X.K C) (n:za8 X.K C f) (hl:fs.length < 1000) (ry:RelV y u)
  (h:∀ s',Inv X pins σ (upd H a (.ins C dx (putF f y fs))) s'→Q () s'):wpAny (model X.prog X.w) A (setAttr (.ref a) f u) Q E s:=by
 obtain ⟨mA,O,r,wi,_,ho⟩:=zda I.hok e;have hz:(fs.map (·.1)).length≤sizeLine:=by rw [List.length_map,sizeLine_eq];omega
 refine zgV I.kIn O c.sa c.po n.taker c.hd wi hz fun h' O' sb=>h _ ?_;have hd:∃ o,h'.get? dx=some o:=let ⟨o,_,_,e',_⟩:=O'.ns;⟨o,e'⟩;refine I.write (x:=a) (e:=dx) (by rw [e];exact True.intro) (.inr ho) (fun b q hb z=>(sb.2 b hb).trans z) hd ?_;refine ⟨by rw [zau O.ne];exact ho,?_,O.ne,O'.obj,_,O'.ns,fun g=>?_,fun g hg=>?_⟩
 ·have:=zcz f y fs;omega
 ·show RelO ((putF f y fs).lookup g) (if g=f then some u else mA g);rw [zaF]
  by_cases q:g=f
  ·rw [if_pos q,if_pos q];exact ry
  ·rw [if_neg q,if_neg q];exact r g
 ·by_cases q:g=f
  ·rw [q];exact (zcy f y fs).1
  ·refine (zcy f y fs).2 g (wi g fun z=>hg ?_);show (if g=f then some u else mA g)=none;rw [if_neg q];exact z
theorem Inv.made (I:Inv X pins σ H s):Inv X pins σ (upd (upd H s.heap.objs.size (.own (s.heap.objs.size+1))) (s.heap.objs.size+1) (.ins C s.heap.objs.size []))
  { s with heap:=(s.heap.push PySem.W.emptyDict).push (PySem.W.instObj C s.heap.objs.size) }:=by
 have e1:(s.heap.push PySem.W.emptyDict).get? s.heap.objs.size=some PySem.W.emptyDict:=Heap.get?_push_size s.heap rfl;have e2:((s.heap.push PySem.W.emptyDict).push (PySem.W.instObj C s.heap.objs.size)).get? (s.heap.objs.size+1)=some (PySem.W.instObj C s.heap.objs.size):=by
  have:=Heap.get?_push_size (s.heap.push PySem.W.emptyDict) (o:=PySem.W.instObj C s.heap.objs.size) rfl
  rwa [Heap.size_push] at this
 have e3:(s.heap.push PySem.W.emptyDict).Ns s.heap.objs.size (fun _=>none):=⟨PySem.W.emptyDict,#[],_,e1,rfl,(fun e he=>absurd he (by simp)),fun _=>rfl⟩
 have I1:=I.laid (a:=s.heap.objs.size) (o:=.own (s.heap.objs.size+1)) (h':=s.heap.push PySem.W.emptyDict) (t':=s.toks) (fun b u q=>Heap.get?_push_of_some _ q) (Nat.le_refl _) ⟨_,e1⟩;refine I1.laid (a:=s.heap.objs.size+1) (o:=.ins C s.heap.objs.size []) (t':=s.toks) (fun b u q=>Heap.get?_push_of_some _ q) (Nat.le_of_eq (Heap.size_push _ _)) ?_;have ne:s.heap.objs.size≠s.heap.objs.size+1:=Nat.ne_of_lt (Nat.lt_succ_self _);refine ⟨by rw [zau ne,zal],Nat.zero_le _,ne,e2,fun _=>none,(Heap.Ns1.of_empty e3).at fun o q=>Heap.get?_push_of_some _ q,fun _=>True.intro,fun y hy=>absurd rfl hy⟩
theorem zgW {prog:Program} {w:World} {env:Env} {e:Expr} {f:Str} {pos:Pos} {s:Shared} {Q:Value→Shared→Prop} (hb:attributeBase e f env (eval e env)=eval e env)
  (h:wpAny (model prog w) A (eval e env) (fun o s₁=>wpAny (model prog w) A (getAttr o f true) Q E s₁) E s):wpAny (model prog w) A (eval (.Attribute e f pos) env) Q E s :=
 Attribute_any_ h (by rw [arm_eval_Attribute,hb])
end
def tFld (K:PySem.W.Frag) (ta:TE) (f:Str):TE:=fun σ H Q=>ta σ H fun x H1=>∃ a C dx fs v,x=.ref a∧H1 a=some (.ins C dx fs)∧Cls K C∧za8 K C f∧fs.lookup f=some v∧Q v H1
def sFld (K:PySem.W.Frag) (ta tv:TE) (f:Str):TS:=fun D σ H=>tv σ H fun y H1=>ta σ H1 fun x H2=>∃ a C dx fs,x=.ref a∧H2 a=some (.ins C dx fs)∧Cls K C∧za8 K C f∧fs.length < 1000 ∧
 D.nx σ (upd H2 a (.ins C dx (putF f y fs)))
section
variable {X:Cx} {o e value:Expr} {f:Str} {pos pos' tpos:Pos} {ta tv:TE}
theorem zhS (he:PE X e ta) (hb:attributeBase e f X.env (eval e X.env)=eval e X.env):PE X (.Attribute e f pos) (tFld X.K ta f):=by
 intro pins s σ H Q I h;refine zgW hb (thn (he pins s σ H _ I h) fun u s1 ⟨x,H1,I1,rx,a,C,dx,fs,v,ex,ea,c,n,l,q⟩=>?_);subst ex;obtain rfl:u=Value.ref a:=rx;exact zeC I1 ea c n l fun u' s2 I2 ru=>⟨v,H1,I2,ru,q⟩
theorem zhT (ha:PE X o ta) (hv:PE X value tv) (hs:swapsWith value (some (.Attribute o f pos')) pos.line X.env=pure false):PS X (.Assign [.Attribute o f pos'] value pos) (sFld X.K ta tv f):=by
 intro pins s σ H D I h;refine plainObj_wpAny_Assign_Attribute (thn (hv pins s σ H _ I h) fun u s1 ⟨y,H1,I1,ry,q⟩=>thn (ha pins s1 σ H1 _ I1 q) fun ov s2 ⟨x,H2,I2,rx,a,C,dx,fs,ex,ea,c,n,l,q2⟩=>?_) hs;subst ex;obtain rfl:ov=Value.ref a:=rx;exact zeD I2 ea c n l ry fun s3 I3=>⟨σ,_,I3,q2⟩
end
section
variable {X:Cx} {pins:List (Addr×Obj)} {σ:St} {H:Hp} {s:Shared} {A:Around} {E:Value→Shared→Prop} {Q:Value→Shared→Prop} {c:Value} {b:Bool}
inductive TyOf (K:PySem.W.Frag) (H:Hp):V→Value→Prop where
 | non:TyOf K H .non (.type "NoneType")
 | bl (x:Bool):TyOf K H (.bl x) (.type "bool")
 | int (i:Int):TyOf K H (.int i) (.type "int")
 | str (x:Str):TyOf K H (.str x) (.type "str")
 | flt (x:UInt64):TyOf K H (.flt x) (.type "float")
 | lst {a:Addr} {xs:List V} (e:H a=some (.lst xs)):TyOf K H (.ref a) (.type "list")
 | frz {a:Addr} {o:Obj} {xs:List V} (e:H a=some (.frz o (.lst xs))):TyOf K H (.ref a) (.type "list")
 | tup {a:Addr} {xs:List V} (e:H a=some (.tup xs)):TyOf K H (.ref a) (.type "tuple")
 | dK {a:Addr} {kvs:List (Key×V)} (e:H a=some (.dK kvs)):TyOf K H (.ref a) (.type "dict")
 | dT {a:Addr} {kvs:List (List Key×V)} (e:H a=some (.dT kvs)):TyOf K H (.ref a) (.type "dict")
 | ins {a C dx:Addr} {fs:List (Str×V)} (e:H a=some (.ins C dx fs)) (cl:Cls K C) (ha:PySem.W.findIn K (.ref C) "__class__" = some (some (.builtin "object.__class__")))
    (hn:PySem.W.specialIn K (.builtin "object.__class__") "__get__" = some (some (.builtin "getset_descriptor.__get__"))) (htk:PySem.W.takesIn K (.builtin "object.__class__")=some true)
    (hm:PySem.W.mroIn K C (.type "object")=some true):TyOf K H (.ref a) (.ref C)
theorem zfk {x:V} {u t:Value} (I:Inv X pins σ H s) (rx:RelV x u) (ty:TyOf X.K H x t) (e:PySem.W.kitOne X.K t c=some b) (h:∀ tk,Q (.bool b) { s with toks:=tk }) :
  wpAny (model X.prog X.w) A (call (.builtin "isinstance") [u,c]) Q E s:=by
 cases ty with
 | non=>cases (show u=Value.none from rx);exact PySem.W.kia_one PySem.W.kitx_none I.kIn True.intro e (fun z=>nomatch z) h
 | bl y=>cases (show u=Value.bool y from rx);exact PySem.W.kia_one PySem.W.kitx_bool I.kIn True.intro e (fun z=>nomatch z) h
 | int i=>obtain ⟨t,q⟩:=(show ∃ t,u=Value.int i t from rx);cases q;exact PySem.W.kia_one PySem.W.kitx_int I.kIn True.intro e (fun z=>nomatch z) h
 | str y=>obtain ⟨t,q⟩:=(show ∃ t,u=Value.str y t from rx);cases q;exact PySem.W.kia_one PySem.W.kitx_str I.kIn True.intro e (fun z=>nomatch z) h
 | flt y=>obtain ⟨t,q⟩:=(show ∃ t,u=Value.float y t from rx);cases q;exact PySem.W.kia_one PySem.W.kitx_float I.kIn True.intro e (fun z=>nomatch z) h
 | @lst a xs ea =>
   cases (show u=Value.ref a from rx)
   obtain ⟨_,_,n,_,h1⟩:=(show za5 X.prog X.w H s.heap a (.lst xs) from I.hok a _ ea)
   exact PySem.W.kia_one PySem.W.kitx_list I.kIn ⟨_,h1,rfl⟩ e (fun z=>nomatch z) h
 | @frz a ob xs ea =>
   cases (show u=Value.ref a from rx)
   obtain ⟨_,_,_,n,_,h1⟩:=(show za5 X.prog X.w H s.heap a (.frz ob (.lst xs)) from I.hok a _ ea)
   exact PySem.W.kia_one PySem.W.kitx_list I.kIn ⟨_,h1,rfl⟩ e (fun z=>nomatch z) h
 | @tup a xs ea =>
   cases (show u=Value.ref a from rx)
   obtain ⟨_,_,_,p⟩:=(show za5 X.prog X.w H s.heap a (.tup xs) from I.hok a _ ea)
   obtain ⟨o,h1,h2,_⟩:=p;exact PySem.W.kia_one PySem.W.kitx_tuple I.kIn ⟨o,h1,h2⟩ e (fun z=>nomatch z) h
 | @dK a kvs ea =>
   cases (show u=Value.ref a from rx)
   obtain ⟨_,_,vs,_,p⟩:=(show za5 X.prog X.w H s.heap a (.dK kvs) from I.hok a _ ea)
   obtain ⟨o,es,ep,h1,h2,_⟩:=p;exact PySem.W.kia_one PySem.W.kitx_dict I.kIn ⟨o,h1,h2.1⟩ e (fun z=>nomatch z) h
 | @dT a kvs ea =>
   cases (show u=Value.ref a from rx)
   obtain ⟨_,_,xs,_,o,es,ep,h1,h2,_⟩:=(show za5 X.prog X.w H s.heap a (.dT kvs) from I.hok a _ ea)
   exact PySem.W.kia_one PySem.W.kitx_dict I.kIn ⟨o,h1,h2.1⟩ e (fun z=>nomatch z) h
 | @ins a C dx fs ea cl ha hn htk hm =>
   cases (show u=Value.ref a from rx)
   obtain ⟨mA,O,_⟩:=zda I.hok ea;obtain ⟨od,J,_⟩:=O.look;exact PySem.W.kia_one (PySem.W.kitx_own (cl.get _) cl.hd ha hn htk hm) I.kIn J e (fun z=>nomatch z) h
end
end L2
namespace L2
open PySem PySem.Spec PyProof.Rows
structure Room (k:Nat) (A:Around):Prop where
 hd:A.handled=none
 dp:A.depth+3 * k+5 < recursionLimit
 un:A.units+16 * k+200 < cLine
theorem Room.mono {j k:Nat} {A:Around} (r:Room k A) (h:j≤k):Room j A:=⟨r.hd,by have:=r.dp;omega,by have:=r.un;omega⟩
theorem Room.deeper {k:Nat} {A:Around} (r:Room (k+1) A) (env:Env):Room k (A.deeper env) :=
 ⟨r.hd,by have:=r.dp;show A.depth+1+3 * k+5 < _;omega,by have:=r.un;show A.units+3+16 * k+200 < _;omega⟩
theorem zeE {A:Around} {C:Addr} {us:List Value} {kw:List (Str×Value)}:(A.under (.builtin "type.__call__" ⟨.ref C::us,kw⟩)).depth=A.depth+1:=by
 first | rfl | simp [Around.under,Code.weight,Code.isCreation,Code.isGuard,Code.isCaller,Code.frames,Code.isFrame,guardIds]
theorem zeF {A:Around} {C:Addr} {us:List Value} {kw:List (Str×Value)}:(A.under (.builtin "type.__call__" ⟨.ref C::us,kw⟩)).units=A.units+1:=by
 first | rfl | simp [Around.under,Code.cUnits,Code.frames,Code.isFrame]
theorem Room.make {k:Nat} {A:Around} (r:Room (k+1) A) (C:Addr) (us:List Value) (kw:List (Str×Value)):Room k (A.under (.builtin "type.__call__" ⟨.ref C::us,kw⟩)) :=
 ⟨r.hd,by have:=r.dp;rw [zeE];omega,by have:=r.un;rw [zeF];omega⟩
theorem Room.depth {k:Nat} {A:Around} (r:Room k A):A.depth < recursionLimit:=by have:=r.dp;omega
theorem Room.units {k:Nat} {A:Around} (r:Room k A):A.units+64 < cLine:=by have:=r.un;omega
theorem Room.units0 {k:Nat} {A:Around} (r:Room k A):A.units < cLine:=by have:=r.un;omega
def tNil:TA:=fun _ H Q=>Q [] H
def zd0 (ta:TE) (tr:TA):TA:=fun σ H Q=>ta σ H fun x H1=>tr σ H1 fun xs H2=>Q (x::xs) H2
section
variable {X:Cx} {e:Expr} {es:List Expr} {te:TE} {t:TA} {pos:Pos}
theorem pa_nil:PA X [] tNil:=fun _ _ _ _ H Q I h=>Calls.spliced_nil ⟨[],H,I,.nil,h⟩
theorem zaa (ha:PE X e te) (hr:PA X es t) (hs:starEach (e::es) X.env=(false,eval e X.env)::starEach es X.env:=by rfl):PA X (e::es) (zd0 te t):=by
 intro pos pins s σ H Q I h;rw [hs];show wpAny _ _ (spliced ((false,eval e X.env)::backTo pos (starEach es X.env))) _ _ s;refine Calls.spliced_cons (thn (ha pins s σ H _ I h) fun u s1 ⟨x,H1,I1,r1,q1⟩=>?_);exact thn (hr pos pins s1 σ H1 _ I1 q1) fun us s2 ⟨xs,H2,I2,r2,q2⟩=>⟨x::xs,H2,I2,.cons r1 r2,q2⟩
def tLst (t:TA):TE:=fun σ H Q=>t σ H fun xs H1=>xs.length≤sizeLine∧∀ p,H1 p=none→Q (.ref p) (upd H1 p (.lst xs))
theorem zaL (h:PA X es t):PE X (.List es pos) (tLst t):=by
 intro pins s σ H Q I hq;refine wpAny_List_spliced (thn (h pos pins s σ H _ I hq) fun us s1 ⟨xs,H1,I1,r,z,q⟩=>⟨by rw [← r.length];exact z,?_⟩);have hf:H1 s1.heap.objs.size=none:=I1.hok.fresh (Nat.le_refl _);refine ⟨.ref s1.heap.objs.size,upd H1 s1.heap.objs.size (.lst xs),I1.laid (t':=s1.toks) (fun b u e=>Heap.get?_push_of_some _ e) (Nat.le_refl _) ?_,rfl,q _ hf⟩;exact ⟨z,us,0,r,Heap.get?_push_size _ rfl⟩
end
abbrev Sp:=List V→Hp→VK→XK→Prop
abbrev CXT:=List Env→Hp→Shared→XK→Value→Shared→Prop
structure Env0 (P:Program) (w:World) (K:PySem.W.Frag) (mg:Str→Option Value) (base:Heap) (A:Around) (outer:List Env) (s:Shared) (H:Hp):Prop where
 frames:A.frames=some outer
 mod:Mod K mg base
 bs:∀ b o,base.get? b=some o→s.heap.get? b=some o∧H b=none
 bsz:base.objs.size≤s.heap.objs.size
 funs:s.heap.FunFrames base outer
 frf:∀ b∈frs outer,H b=none
 hok:HOk P w H s.heap
 bare:AllBare s.gens
def CE (outer:List Env) (P:Program) (w:World) (H:Hp) (s:Shared) (Q:VK) (u:Value) (s':Shared):Prop :=
 ∃ v H',s'.os=s.os∧AllBare s'.gens∧Un (frs outer) [] H H' s.heap s'.heap∧HOk P w H' s'.heap∧RelV v u∧Q v H'
def CR (CX:CXT) (outer:List Env) (P:Program) (w:World) (H:Hp) (s:Shared) (Q:VK) (E:XK) (r:Result) (s':Shared):Prop :=
 match r with
 | .ok (.ret u)=>CE outer P w H s Q u s'
 | .ok _=>False
 | .error e=>CX outer H s E e s'
structure FnOk (P:Program) (w:World) (K:PySem.W.Frag) (mg:Str→Option Value) (base:Heap) (CX:CXT) (k:Nat) (f:Addr) (fd:FuncData) (ps:List Str) (sp:Sp):Prop where
 len:∀ vs H Q E,sp vs H Q E→vs.length=ps.length
 run:∀ (A:Around) (outer:List Env) (s:Shared) (H:Hp) (args:Args) (us:List Value) (vs:List V) (Q:VK) (E:XK),Room k A→Env0 P w K mg base A outer s H→BindsTo s fd args (ps.zip us)→Vals vs us→sp vs H Q E →
  codeAny (model P w) A (.call (.ref f) args) (CR CX outer P w H s Q E) s
theorem Env0.make {P:Program} {w:World} {K:PySem.W.Frag} {mg:Str→Option Value} {base:Heap} {A:Around} {outer:List Env} {s:Shared} {H:Hp} (e:Env0 P w K mg base A outer s H) (C:Addr) (us:List Value) (kw:List (Str×Value)) :
  Env0 P w K mg base (A.under (.builtin "type.__call__" ⟨.ref C::us,kw⟩)) outer s H:=⟨by first | exact e.frames | (simpa [Around.under,Code.envs,Code.isFrame,pushEnvs] using e.frames),e.mod,e.bs,e.bsz,e.funs,e.frf,e.hok,e.bare⟩
section
variable {X:Cx} {pins:List (Addr×Obj)} {σ:St} {H:Hp} {s s':Shared}
theorem Inv.env0 (I:Inv X pins σ H s):Env0 X.prog X.w X.K X.mg X.base X.A X.stack s H :=
 ⟨I.ok.frames,I.ok.mod,I.bs,Nat.le_trans I.ok.bsz I.sz,I.stack,I.stkFree,I.hok,I.bare⟩
theorem Inv.after {Q:VK} {u:Value} (I:Inv X pins σ H s) (h:CE X.stack X.prog X.w H s Q u s'):EP X pins σ Q u s':=by
 obtain ⟨v,H',os,bare,un,hok,r,q⟩:=h;obtain ⟨hh,g,d,t,os'⟩:=s';obtain rfl:os'=s.os:=os;exact ⟨v,H',I.call (h':=hh) (g':=g) (d':=d) (t':=t) (ch:=[]) un hok bare (fun b z=>absurd z (by simp)),r,q⟩
end
def zgX (sp:Sp) (dvs:List V) (E:XK) (t:TA):TE:=fun σ H Q=>t σ H fun vs H1=>sp (vs++dvs) H1 Q E
def zgb (C:Addr) (m:Str) (sp:Sp) (dvs:List V) (E:XK) (ta:TE) (t:TA):TE:=fun σ H Q=>ta σ H fun x H1=>∃ a dx fs,x=.ref a∧H1 a=some (.ins C dx fs)∧fs.lookup m=none ∧
 t σ H1 fun vs H2=>sp (x::(vs++dvs)) H2 Q E
def zhU (C:Addr) (sp:Sp) (dvs:List V) (E:XK) (t:TA):TE:=fun σ H Q=>t σ H fun vs H1=>∀ x dx,H1 x=none→H1 dx=none→dx≠x →
 sp (.ref x::(vs++dvs)) (upd (upd H1 dx (.own x)) x (.ins C dx [])) (fun v H2=>v=.non∧Q (.ref x) H2) E
def Binds (K:PySem.W.Frag) (fd:FuncData) (ps:List Str) (ds:List Value):Prop :=
 ∀ (s:Shared) (us:List Value),K.In s.heap→(us++ds).length=ps.length→BindsTo s fd ⟨us,[]⟩ (ps.zip (us++ds))
theorem Binds.all {K:PySem.W.Frag} {fd:FuncData} {ps:List Str} (h:∀ us:List Value,us.length=ps.length→bindArgs fd ⟨us,[]⟩=pure (ps.zip us)):Binds K fd ps []:=fun s us _ hl=>by
 rw [List.append_nil] at hl ⊢;exact .of_eq (h us hl)
def zcl (CX:CXT) (X:Cx) (E:XK):Prop:=∀ (pins:List (Addr×Obj)) (σ:St) (H:Hp) (s:Shared) (e:Value) (s':Shared),Inv X pins σ H s→CX X.stack H s E e s'→X.xe e s'
section
variable {X:Cx} {CX:CXT} {k:Nat} {f C:Addr} {fd:FuncData} {ps:List Str} {sp:Sp} {dvs:List V} {ds:List Value} {E:XK} {x m:Str} {p pos apos:Pos} {e o:Expr} {es:List Expr} {ta:TE} {t:TA}
theorem zfl {pins:List (Addr×Obj)} {σ:St} {H:Hp} {s:Shared} {Q:VK} {us:List Value} {vs:List V} (F:FnOk X.prog X.w X.K X.mg X.base CX k f fd ps sp) (hr:Room k X.A) (hb:Binds X.K fd ps ds) (hd:Vals dvs ds) (hx:zcl CX X E)
  (I:Inv X pins σ H s) (r:Vals vs us) (h:sp (vs++dvs) H Q E):wpAny (model X.prog X.w) X.A (call (.ref f) us) (EP X pins σ Q) X.xe s:=by
 have r2:Vals (vs++dvs) (us++ds):=r.append hd;have hl:(us++ds).length=ps.length:=by rw [← r2.length];exact F.len _ _ _ _ h
 refine wpAny_call (codeAny_mono (F.run X.A X.stack s H ⟨us,[]⟩ (us++ds) (vs++dvs) Q E hr I.env0 (hb s us I.kIn hl) r2 h) fun r s' hq=>?_)
 cases r with
 | error e=>exact hx pins σ H s e s' I hq
 | ok fl =>
   cases fl with
   | ret u=>exact I.after hq
   | next=>exact False.elim hq
   | brk=>exact False.elim hq
   | cont=>exact False.elim hq
theorem zam (F:FnOk X.prog X.w X.K X.mg X.base CX k f fd ps sp) (hr:Room k X.A) (hg:Gl X x) (hm:X.mg x=some (.ref f)) (hk:PySem.W.keepIn X.K (.ref f)=true) (hb:Binds X.K fd ps ds) (hd:Vals dvs ds) (hx:zcl CX X E)
  (ha:PA X (e::es) t) (hdb:(x == ("__debug__" : Str))=false:=by decide) (he:starEach (e::es) X.env=(false,eval e X.env)::starEach es X.env:=by rfl) (hpl:(backTo pos (starEach es X.env)).any (·.1)=false:=by rfl) :
  PE X (.Call (.Name x p) (e::es) [] pos) (zgX sp dvs E t):=by
 intro pins s σ H Q I h;refine wpAny_Call_Name_kw (zcw I hg hm ?_ hdb);refine PySem.W.callWith_K (h₀:=X.base) I.ok.mod.kin hk (thn (ha pos pins s σ H _ I h) fun us s1 ⟨vs,H1,I1,r,q⟩=>⟨I1.kIn,?_⟩) he hpl;exact zfl F hr hb hd hx I1 r q
theorem zdb {pl:Sem Bool} (he:PE X o ta) (c:Cls X.K C) (hm:Meth X.K C m f) (F:FnOk X.prog X.w X.K X.mg X.base CX k f fd ps sp) (hr:Room k X.A) (hb:Binds X.K fd ps ds) (hd:Vals dvs ds) (hx:zcl CX X E) (ha:PA X (e::es) t)
  (hst:starEach (e::es) X.env=(false,eval e X.env)::starEach es X.env:=by rfl) (hpl:(backTo pos (starEach es X.env)).any (·.1)=false:=by rfl)
  (ht:eval (.Call (.Attribute o m apos) (e::es) [] pos) X.env=(do
   let ov ← eval o X.env
   standAt apos.atName
   let (f,first) ← holding [ov] (getMethod ov m pl)
   callWith pos f first (backTo pos (starEach (e::es) X.env)) (backToKw pos (keywordEach [] X.env))):=by rfl) :
  PE X (.Call (.Attribute o m apos) (e::es) [] pos) (zgb C m sp dvs E ta t):=by
 intro pins s σ H Q I h;refine PySem.W.methodCall_KW (pl:=pl) (thn (he pins s σ H _ I h) fun u s1 ⟨x,H1,I1,rx,a,dx,fs,ex,ea,l,q⟩=>?_) ht;subst ex;obtain rfl:u=Value.ref a:=rx;refine zcg I1 ea c hm l ?_;refine PySem.W.callWith_K (first:=[.ref a]) (h₀:=X.base) I.ok.mod.kin hm.kp (thn (ha pos pins s1 σ H1 _ I1 q) fun us s2 ⟨vs,H2,I2,r,q2⟩=>⟨I2.kIn,?_⟩) hst hpl;exact zfl (us:=.ref a::us) (vs:=.ref a::vs) F hr hb hd hx I2 (.cons rfl r) q2
theorem zaO {pl:Sem Bool} (he:PE X o ta) (c:Cls X.K C) (hm:Meth X.K C m f) (F:FnOk X.prog X.w X.K X.mg X.base CX k f fd ps sp) (hr:Room k X.A) (hb:Binds X.K fd ps ds) (hd:Vals dvs ds) (hx:zcl CX X E)
  (ht:eval (.Call (.Attribute o m apos) [] [] pos) X.env=(do
   let ov ← eval o X.env
   standAt apos.atName
   let (f,first) ← holding [ov] (getMethod ov m pl)
   callWith pos f first (backTo pos (starEach [] X.env)) (backToKw pos (keywordEach [] X.env))):=by rfl) :
  PE X (.Call (.Attribute o m apos) [] [] pos) (zgb C m sp dvs E ta tNil):=by
 intro pins s σ H Q I h;refine PySem.W.methodCall_KW (pl:=pl) (thn (he pins s σ H _ I h) fun u s1 ⟨x,H1,I1,rx,a,dx,fs,ex,ea,l,q⟩=>?_) ht;subst ex;obtain rfl:u=Value.ref a:=rx;refine zcg I1 ea c hm l ?_;exact PySem.W.callWith_K0 (first:=[.ref a]) I1.kIn hm.kp (zfl (us:=[.ref a]) (vs:=[.ref a]) F hr hb hd hx I1 (.cons rfl .nil) q)
structure Mk (K:PySem.W.Frag) (C f:Addr):Prop where
 makes:PySem.W.makesIn K C=true
 init:PySem.W.findIn K (.ref C) "__init__" = some (some (.ref f))
 fn:PySem.W.isFn K (.ref f)=true
 kp:PySem.W.keepIn K (.ref C)=true
theorem zgc {pins:List (Addr×Obj)} {σ:St} {H:Hp} {s:Shared} {Q:VK} {us:List Value} {vs:List V} (M:Mk X.K C f) (F:FnOk X.prog X.w X.K X.mg X.base CX k f fd ps sp) (hr:Room (k+1) X.A) (hb:Binds X.K fd ps ds) (hd:Vals dvs ds)
  (hx:zcl CX X E) (I:Inv X pins σ H s) (r:Vals vs us)
  (h:∀ x dx,H x=none→H dx=none→dx≠x→sp (.ref x::(vs++dvs)) (upd (upd H dx (.own x)) x (.ins C dx [])) (fun v H2=>v=.non∧Q (.ref x) H2) E) :
  wpAny (model X.prog X.w) X.A (call (.ref C) us) (EP X pins σ Q) X.xe s:=by
 have hq:=h (s.heap.objs.size+1) s.heap.objs.size (I.hok.fresh (Nat.le_succ _)) (I.hok.fresh (Nat.le_refl _)) (Nat.ne_of_lt (Nat.lt_succ_self _));have I2:=Inv.made (C:=C) I;have r2:Vals (V.ref (s.heap.objs.size+1)::(vs++dvs)) (Value.ref (s.heap.objs.size+1)::(us++ds)):=.cons rfl (r.append hd);have hl:(Value.ref (s.heap.objs.size+1)::us++ds).length=ps.length:=by
  have e:=r2.length;rw [F.len _ _ _ _ hq] at e;exact e.symm
 refine wpAny_call (zga (f:=f) I.kIn M.makes M.init (beq_iff_eq.mp M.fn) (codeAny_mono (F.run _ X.stack _ _ ⟨Value.ref (s.heap.objs.size+1)::us,[]⟩ (Value.ref (s.heap.objs.size+1)::(us++ds)) _ _ E (hr.make C us [])
  (I2.env0.make C us []) (hb _ (Value.ref (s.heap.objs.size+1)::us) I2.kIn hl) r2 hq) fun r s' hq'=>?_))
 cases r with
 | error e=>exact hx pins σ _ _ e s' I2 hq'
 | ok fl =>
   cases fl with
   | ret u =>
     obtain ⟨v,H',I3,rv,ev,q3⟩:=I2.after hq';subst ev;exact ⟨rv,⟨V.ref (s.heap.objs.size+1),H',I3,rfl,q3⟩⟩
   | next=>exact False.elim hq'
   | brk=>exact False.elim hq'
   | cont=>exact False.elim hq'
theorem zgd (M:Mk X.K C f) (F:FnOk X.prog X.w X.K X.mg X.base CX k f fd ps sp) (hr:Room (k+1) X.A) (hg:Gl X x) (hm:X.mg x=some (.ref C)) (hb:Binds X.K fd ps ds) (hd:Vals dvs ds) (hx:zcl CX X E)
  (hdb:(x == ("__debug__" : Str))=false:=by decide):PE X (.Call (.Name x p) [] [] pos) (zhU C sp dvs E tNil):=by
 intro pins s σ H Q I h;refine wpAny_Call_Name_kw (zcw I hg hm ?_ hdb);exact PySem.W.callWith_K0 I.kIn M.kp (zgc (us:=[]) M F hr hb hd hx I .nil h)
end
def PK (X:Cx) (kws:List Keyword) (t:TA):Prop :=
 ∀ (pos:Pos) (pins:List (Addr×Obj)) (s:Shared) (σ:St) (H:Hp) (Q:List V→Hp→Prop),Inv X pins σ H s→t σ H Q→wpAny (model X.prog X.w) X.A (evalAll ((backToKw pos (keywordEach kws X.env)).map (·.2))) (AP X pins σ Q) X.xe s
section
variable {X:Cx} {CX:CXT} {k:Nat} {f C:Addr} {fd:FuncData} {ps ks:List Str} {sp:Sp} {E:XK} {x m:Str} {p pos apos kpos:Pos} {e o:Expr} {es:List Expr} {kws:List Keyword} {te ta:TE} {t tk:TA} {nm:Option Str}
theorem pk_nil:PK X [] tNil:=fun _ _ _ _ H Q I h=>wpAny_evalAll_nil ⟨[],H,I,.nil,h⟩
theorem zgY (ha:PE X e te) (hr:PK X kws t):PK X (⟨nm,e,kpos⟩::kws) (zd0 te t):=by
 intro pos pins s σ H Q I h;show wpAny _ _ (evalAll ((do let v ← eval e X.env;standAt pos;pure v)::(backToKw pos (keywordEach kws X.env)).map (·.2))) _ _ s;refine wpAny_evalAll_cons (wpAny_bind (thn (ha pins s σ H _ I h) fun u s1 ⟨x,H1,I1,r1,q1⟩=>wpAny_bind (wpAny_standAt (wpAny_pure ?_))));exact thn (hr pos pins s1 σ H1 _ I1 q1) fun us s2 ⟨xs,H2,I2,r2,q2⟩=>⟨x::xs,H2,I2,.cons r1 r2,q2⟩
variable {g:List Value→List Value→List Value} {gV:List V→List V→List V}
end
structure zah (N P:List Str) (sc:Scope):Prop where
 kind:sc.kind=.function
 co:sc.isCoroutine=false
 gen:sc.isGenerator=false
 nd:N.Nodup
 pre:N.take P.length=P
 par:∀ x∈P,sc.names.lookup x=some .local∨sc.names.lookup x=some .cell
 nofree:∀ y∈sc.names,y.2≠.free
theorem zdv {kindOf:Str→Option NameKind} {x:Str}:∀ {binds:List (Str×Value)} {m:Str→Option Value},(∀ v,(x,v)∉binds)→bindL kindOf binds m x=m x
 | [],_,_=>rfl
 | (n,v)::r,m,h=>by
  unfold bindL;rw [zdv fun w hw=>h w (List.mem_cons_of_mem _ hw)];split
  ·have:x≠n:=by rintro rfl;exact h v List.mem_cons_self
   simp [this]
  ·rfl
theorem zdw {kindOf:Str→Option NameKind} {x:Str}:∀ {binds:List (Str×Value)} {m:Str→Option Value},(∀ v,(x,v)∉binds)→bindC kindOf binds m x=m x
 | [],_,_=>rfl
 | (n,v)::r,m,h=>by
  unfold bindC;rw [zdw fun w hw=>h w (List.mem_cons_of_mem _ hw)];split
  ·rfl
  ·have:x≠n:=by rintro rfl;exact h v List.mem_cons_self
   simp [this]
theorem zdx {kindOf:Str→Option NameKind} {x:Str} {v:Value}:∀ {P:List Str} {vs:List Value} {i:Nat} {m:Str→Option Value},P.Nodup→P[i]? = some x→vs[i]? = some v→kindOf x=some .local →
  bindL kindOf (P.zip vs) m x=some v
 | [],_,_,_,_,h,_,_=>by simp at h
 | _::_,[],_,_,_,_,h,_=>by simp at h
 | p::P,w::vs,0,m,nd,h1,h2,hk=>by
   simp at h1 h2;subst h1;subst h2;show bindL kindOf ((p,w)::P.zip vs) m p=_;unfold bindL;rw [zdv fun v hv=>(List.nodup_cons.mp nd).1 (List.of_mem_zip hv).1,if_pos hk];simp
 | p::P,w::vs,i+1,m,nd,h1,h2,hk=>by
   show bindL kindOf ((p,w)::P.zip vs) m x=_;unfold bindL;exact zdx (i:=i) (List.nodup_cons.mp nd).2 (by simpa using h1) (by simpa using h2) hk
theorem zdy {kindOf:Str→Option NameKind} {x:Str} {v:Value}:∀ {P:List Str} {vs:List Value} {i:Nat} {m:Str→Option Value},P.Nodup→P[i]? = some x→vs[i]? = some v→kindOf x≠some .local →
  bindC kindOf (P.zip vs) m x=some v
 | [],_,_,_,_,h,_,_=>by simp at h
 | _::_,[],_,_,_,_,h,_=>by simp at h
 | p::P,w::vs,0,m,nd,h1,h2,hk=>by
   simp at h1 h2;subst h1;subst h2;show bindC kindOf ((p,w)::P.zip vs) m p=_;unfold bindC;rw [zdw fun v hv=>(List.nodup_cons.mp nd).1 (List.of_mem_zip hv).1,if_neg hk];simp
 | p::P,w::vs,i+1,m,nd,h1,h2,hk=>by
   show bindC kindOf ((p,w)::P.zip vs) m x=_;unfold bindC;exact zdy (i:=i) (List.nodup_cons.mp nd).2 (by simpa using h1) (by simpa using h2) hk
def start (N:List Str) (vs:List V):St:=vs.map some++List.replicate (N.length-vs.length) none
def cxOf (CX:CXT) (P:Program) (w:World) (K:PySem.W.Frag) (mg:Str→Option Value) (base:Heap) (N:List Str) (qual:Str) (scope:Scope) (f:Addr) (cd:Value) (A:Around) (outer:List Env) (s:Shared) (H:Hp) (E:XK):Cx where
 prog:=P
 w:=w
 K:=K
 mg:=mg
 base:=base
 A:=A.deeper (envOfC qual scope s.heap.objs.size f cd)
 N:=N
 s₀:=s
 H₀:=H
 env:=envOfC qual scope s.heap.objs.size f cd
 outer:=outer
 stack:=envOfC qual scope s.heap.objs.size f cd::outer
 ex:=[]
 calm:=true
 fn:=fun _=>true
 pn:=[]
 xe:=fun e s'=>wpAny (model P w) (A.deeper (envOfC qual scope s.heap.objs.size f cd)) (leaving (envOfC qual scope s.heap.objs.size f cd) e) (fun _ s''=>CX outer H s E e s'') (fun e' s''=>CX outer H s E e' s'') s'
theorem zen {sc:Scope} {n:Nat} {x:Str} (h:sc.names.lookup x=some .cell):∃ c,(cellsFrom n sc.names []).lookup x=some c:=by
 have q:=PySem.W.cellsFrom_some sc.names n [] (.inl h);exact Option.isSome_iff_exists.mp q
theorem zfm {CX:CXT} {P:Program} {w:World} {K:PySem.W.Frag} {mg:Str→Option Value} {base:Heap} {N ps:List Str} {qual:Str} {scope:Scope} {f:Addr} {cd:Value} {A:Around} {outer:List Env} {s s1:Shared} {H:Hp} {E:XK} {us:List Value} {vs:List V}
  (S:zah N ps scope) (hd:A.handled=none) (e0:Env0 P w K mg base A outer s H) (hl:vs.length=ps.length) (r:Vals vs us)
  (x:InCallC s s.heap.objs.size (bindL (envOfC qual scope s.heap.objs.size f cd).kindOf (ps.zip us) fun _=>none) (cellsFrom (s.heap.objs.size+1) scope.names []) (bindC (envOfC qual scope s.heap.objs.size f cd).kindOf (ps.zip us) fun _=>none) s1) :
  Inv (cxOf CX P w K mg base N qual scope f cd A outer s H E) [] (start N vs) H s1:=by
 have hpl:ps.length≤N.length:=by have:=congrArg List.length S.pre;rw [List.length_take] at this;omega
 obtain ⟨h1,tk,rfl,hk⟩:=x.done;have noA:∀ b:Addr,b∉(cxOf CX P w K mg base N qual scope f cd A outer s H E).ex:=fun b z=>absurd (show b∈([]:List Addr) from z) (by simp);refine ⟨⟨e0.mod,S.kind,rfl,rfl,Nat.le_refl _,fun y z c h1 h2=>?_,fun y hy=>?_,fun y c _ h=>?_,fun _=>hd,Around.frames_deeper e0.frames,.inr ⟨rfl,rfl⟩,fun b z=>absurd z (noA b),e0.bs,e0.bsz,fun b _ _=>noA b,fun b z=>absurd z (noA b),e0.funs,e0.frf⟩,
  rfl,e0.bare,Un.kept hk,⟨_,x.toInCall.ns,fun i y v h1 h2 h3=>?_⟩,fun y c h=>⟨_,x.cell y c h⟩,e0.hok.fresh (Nat.le_refl _),fun y c h=>?_,fun p hp=>absurd (show p∈([]:List (Addr×Obj)) from hp) (by simp),e0.hok.kept hk,?_⟩
 ·exact name_of_addr x.apart (PySem.mem_of_lookup h1) (PySem.mem_of_lookup h2)
 ·have hy:scope.names.lookup y=some .cell∨scope.names.lookup y=some .free:=hy;rcases hy with hy | hy
  ·exact zen hy
  ·exact absurd rfl (S.nofree _ (PySem.mem_of_lookup hy))
 ·exact Nat.le_of_lt (x.above y c (PySem.mem_of_lookup h))
 ·have hi:i < vs.length:=by
   unfold start at h2
   by_cases hi:i < vs.length
   ·exact hi
   ·rw [List.getElem?_append_right (by simpa using hi)] at h2;rw [List.getElem?_replicate] at h2;split at h2 <;> cases h2
  have ha:vs[i]? = some v:=by
   unfold start at h2;rw [List.getElem?_append_left (by simpa using hi),List.getElem?_map] at h2
   cases e:vs[i]? with
   | none=>rw [e] at h2;cases h2
   | some a=>rw [e] at h2;cases h2;rfl
  obtain ⟨u,hu,rv⟩:=r.get ha;have hp:ps[i]? = some y:=by
   rw [← S.pre,List.getElem?_take_of_lt (by omega)];exact h1
  have ndP:ps.Nodup:=by rw [← S.pre];exact S.nd.sublist (List.take_sublist _ _)
  refine ⟨u,rv,?_⟩;rcases S.par y (List.mem_of_getElem? hp) with k | k
  ·exact .inl ⟨k,zdx ndP hp hu k⟩
  ·obtain ⟨c,e⟩:=zen (n:=s.heap.objs.size+1) k;refine .inr ⟨.inl k,c,e,?_⟩;have q:=x.cell y c e;rw [zdy ndP hp hu (by show scope.names.lookup y≠_;rw [k];decide)] at q;exact q
 ·exact e0.hok.fresh (Nat.le_of_lt (x.above y c (PySem.mem_of_lookup h)))
 ·unfold start;show _=N.length;rw [List.length_append,List.length_map,List.length_replicate];omega
theorem zhV {CX:CXT} {P:Program} {w:World} {K:PySem.W.Frag} {mg:Str→Option Value} {base:Heap} {k:Nat} {f:Addr} {name qual:Str} {params:Arguments} {body:List Stmt} {scope:Scope} {dV kV doc pm cdv ct oc:Value} {an od:Option Addr}
  {osl:Array (Option Value)} {N ps:List Str} {sp:Sp} (lk:K.lookup f=some ⟨oc,od,.func (PySem.W.fnOf name qual params body scope dV kV doc pm an cdv ct),osl⟩) (hcd:PySem.W.codeIn K cdv qual=true) (S:zah N ps scope)
  (len:∀ vs H Q E,sp vs H Q E→vs.length=ps.length)
  (hbody:∀ (A:Around) (outer:List Env) (s:Shared) (H:Hp) (vs:List V) (Q:VK) (E:XK),Room k (A.deeper (envOfC qual scope s.heap.objs.size f cdv))→sp vs H Q E →
   ∃ t,PSs (cxOf CX P w K mg base N qual scope f cdv A outer s H E) body t∧t { nx:=fun _ H'=>Q .non H',rt:=Q } (start N vs) H) :
  FnOk P w K mg base CX (k+1) f (PySem.W.fnOf name qual params body scope dV kV doc pm an cdv ct) ps sp:=by
 refine ⟨len,fun A outer s H args us vs Q E hr e0 hb r hsp=>?_⟩;have hl:=len _ _ _ _ hsp;have KX:K.In s.heap:=e0.mod.kin.keeps fun b o e=>(e0.bs b o e).1;have lim:s.heap.NoLimit:=e0.mod.nolimit.keeps fun b o e=>(e0.bs b o e).1;have hkind:∀ y∈ps.zip us,scope.names.lookup y.1=some .local∨(scope.names.lookup y.1=some .cell∧((cellsFrom (s.heap.objs.size+1) scope.names []).lookup y.1).isSome=true):=fun ⟨n,v⟩ hy=>by
  rcases S.par n (List.of_mem_zip hy).1 with q | q
  ·exact .inl q
  ·exact .inr ⟨q,PySem.W.cellsFrom_some _ _ _ (.inl q)⟩
 refine codeAny_call_function hr.depth (KX _ _ lk) rfl S.co S.gen rfl (PySem.W.codeRec_of KX hcd) (hb _ _ _ _ ?_);refine wpAny_newFunctionEnv_cells S.kind hkind fun env he s1 x=>?_;subst he;refine ⟨lim.keeps x.toInCall.keep,codeAny_func ?_⟩;obtain ⟨t,ht,hq⟩:=hbody A outer s H vs Q E (hr.deeper _) hsp;have I:Inv (cxOf CX P w K mg base N qual scope f cdv A outer s H E) [] (start N vs) H s1:=zfm S hr.hd e0 hl r x;refine wpAny_mono (ht [] s1 (start N vs) H _ I hq) (fun fl s' hs=>?_) fun e s' hs=>hs;have fin:∀ {σ':St} {H':Hp} {v:V} {u:Value},Inv (cxOf CX P w K mg base N qual scope f cdv A outer s H E) [] σ' H' s'→RelV v u→Q v H'→CE outer P w H s Q u s' :=
  fun {σ' H' v u} J rv q=>⟨v,H',J.os,J.bare,J.base,J.hok,rv,q⟩
 cases fl with
 | ret u =>
   obtain ⟨v,σ',H',J,rv,q⟩:=hs;exact fin J rv q
 | next =>
   obtain ⟨σ',H',J,q⟩:=hs;exact fin (v:=V.non) (u:=Value.none) J rfl q
 | brk =>
   obtain ⟨_,_,_,q⟩:=hs;exact False.elim q
 | cont =>
   obtain ⟨_,_,_,q⟩:=hs;exact False.elim q
end L2
namespace L2
open PySem PySem.Spec PyProof.Rows
section
variable {X:Cx} {x:Str} {p pos:Pos} {e:Expr} {es:List Expr} {t:TA} {id T:String} {r:List V→Hp→VK→Prop}
def tCB (r:List V→Hp→VK→Prop) (t:TA):TE:=fun σ H Q=>t σ H fun vs H1=>r vs H1 Q
theorem zai (hc:zcf X (.builtin id) r) (hg:Gl X x) (hm:X.mg x=none) (hv:bootBuiltins x=some (.builtin id)) (ha:PA X (e::es) t) (hn:x≠"__name__":=by decide) (hdb:(x == ("__debug__" : Str))=false:=by decide)
  (he:starEach (e::es) X.env=(false,eval e X.env)::starEach es X.env:=by rfl) (hpl:(backTo pos (starEach es X.env)).any (·.1)=false:=by rfl):PE X (.Call (.Name x p) (e::es) [] pos) (tCB r t):=by
 intro pins s σ H Q I h;refine wpAny_Call_Name_kw (zcx I hg hm hv ?_ hn hdb);exact PyProof.Rows.callWith_builtin1 (thn (ha pos pins s σ H _ I h) fun us s1 ⟨vs,H1,I1,r1,q1⟩=>hc pins s1 σ H1 vs us Q I1 r1 q1) he hpl
theorem zdz (hc:zcf X (.type T) r) (hg:Gl X x) (hm:X.mg x=none) (hv:bootBuiltins x=some (.type T)) (ha:PA X (e::es) t) (hn:x≠"__name__":=by decide) (hdb:(x == ("__debug__" : Str))=false:=by decide)
  (he:starEach (e::es) X.env=(false,eval e X.env)::starEach es X.env:=by rfl) (hpl:(backTo pos (starEach es X.env)).any (·.1)=false:=by rfl):PE X (.Call (.Name x p) (e::es) [] pos) (tCB r t):=by
 intro pins s σ H Q I h;refine wpAny_Call_Name_kw (zcx I hg hm hv ?_ hn hdb);exact PyProof.Rows.callWith_type1 (thn (ha pos pins s σ H _ I h) fun us s1 ⟨vs,H1,I1,r1,q1⟩=>hc pins s1 σ H1 vs us Q I1 r1 q1) he hpl
end
end L2
namespace HT
open PySem PyProof.Rows
section
open PySem.SeqAt
open PySem.AutoSeq1 (wpAny_loadPart')
open PySem.MeetsSeq PySem.MeetsSeq2 PySem.MeetsSeq3
end
section
variable {prog:Program} {w:World} {A:Around} {E:Value→Shared→Prop} {s:Shared}
def sIx (n d:Nat):Option Int→Nat
 | none=>d
 | some v=>if v < 0 then (v+(n:Int)).toNat else min v.toNat n
theorem sIx_none (n d:Nat):sIx n d none=d:=rfl
theorem sIx_nat (n d k:Nat):sIx n d (some (k:Int))=min k n:=by
 show (if (k:Int) < 0 then ((k:Int)+(n:Int)).toNat else min (k:Int).toNat n)=min k n;rw [if_neg (by omega),Int.toNat_natCast]
end
end HT
namespace L2
open PySem PySem.Spec PyProof.Rows
abbrev TO:=St→Hp→(Option Int→Hp→Prop)→Prop
def PO (X:Cx) (e:Option Expr) (t:TO):Prop :=
 ∀ (pins:List (Addr×Obj)) (s:Shared) (σ:St) (H:Hp) (Q:Option Int→Hp→Prop),Inv X pins σ H s→t σ H Q →
  wpAny (model X.prog X.w) X.A (evalPart e X.env) (fun u s'=>∃ o H',Inv X pins σ H' s'∧IsPart u o∧Q o H') X.xe s
def tNoPart:TO:=fun _ H Q=>Q none H
def zhW (t:TE):TO:=fun σ H Q=>t σ H fun x H1=>∃ i,x=.int i∧Q (some i) H1
theorem intsAre_of {ns:List Int}:∀ {us:List Value},Vals (ns.map V.int) us→IntsAre us ns:=by
 induction ns with
 | nil=>intro us r;rw [List.map_nil] at r;cases r;exact .nil
 | cons n ns ih =>
   intro us r;rw [List.map_cons] at r
   cases r with
   | cons r1 r2 =>
     obtain ⟨t,e⟩:=r1;subst e;exact .cons n t (ih r2)
section
variable {X:Cx} {e:Expr} {te:TE} {lo hi:Option Expr} {tl th:TO} {pos p2:Pos}
theorem po_none:PO X none tNoPart:=by
 intro pins s σ H Q I h;rw [evalPart_none];exact wpAny_pure ⟨none,H,I,.none,h⟩
theorem zgZ (h:PE X e te):PO X (some e) (zhW te):=by
 intro pins s σ H Q I hw;rw [evalPart_some];refine thn (h pins s σ H _ I hw) fun u s1 ⟨x,H1,I1,r1,q1⟩=>?_;obtain ⟨i,rfl,q⟩:=q1;obtain ⟨t,rfl⟩:=r1;exact ⟨some i,H1,I1,.int i t,q⟩
def SlR (X:Cx) (r:V→Option Int→Option Int→Hp→VK→Prop):Prop :=
 ∀ (pins:List (Addr×Obj)) (s:Shared) (σ:St) (H:Hp) (x:V) (v vl vu:Value) (lo hi:Option Int) (sl:Addr) (Q:VK),Inv X pins σ H s→RelV x v→s.heap.IsSliceOf sl vl vu .none→IsPart vl lo→IsPart vu hi→r x lo hi H Q →
  ∃ T id,typeLookup (.type T) "__getitem__" = pure (some (.builtin id))∧s.TypeIs v T∧wpAny (model X.prog X.w) X.A (getItem v (.ref sl)) (EP X pins σ Q) X.xe s
def tSl (r:V→Option Int→Option Int→Hp→VK→Prop) (te:TE) (tl th:TO):TE:=fun σ H Q=>te σ H fun x H1=>tl σ H1 fun l H2=>th σ H2 fun u H3=>r x l u H3 Q
theorem zge {r:V→Option Int→Option Int→Hp→VK→Prop} (hr:SlR X r) (he:PE X e te) (hl:PO X lo tl) (hu:PO X hi th):PE X (.Subscript e (.Slice lo hi none p2) pos) (tSl r te tl th):=by
 intro pins s σ H Q I h;refine Subscript_ (thn (he pins s σ H _ I h) fun v s1 ⟨x,H1,I1,r1,q1⟩=>?_);refine wpAny_Slice (thn (hl pins s1 σ H1 _ I1 q1) fun vl s2 ⟨l,H2,I2,pl,q2⟩=>thn (hu pins s2 σ H2 _ I2 q2) fun vu s3 ⟨u,H3,I3,pu,q3⟩=>?_);rw [evalPart_none];refine wpAny_pure ?_;have I4:Inv X pins σ H3 { s3 with heap:=s3.heap.push { cls:=.type "slice",data:=.fields #[vl,vu,.none] } }:=I3.kept (t':=s3.toks) fun b ob q=>Heap.get?_push_of_some _ q;obtain ⟨T,id,hT,ht,hg⟩:=hr pins { s3 with heap:=s3.heap.push { cls:=.type "slice",data:=.fields #[vl,vu,.none] } } σ H3 x v vl vu l u s3.heap.objs.size Q I4 r1 (Heap.IsSliceOf.new ..) pl pu q3;show wpAny (model X.prog X.w) X.A (subscriptTail e (.Slice lo hi none p2) v (.ref s3.heap.objs.size)) (EP X pins σ Q) X.xe { s3 with heap:=s3.heap.push { cls:=.type "slice",data:=.fields #[vl,vu,.none] } };exact tail_any (ops:=[.ref s3.heap.objs.size,v]) ht hT hg (by with_unfolding_all rfl)
def cutV (xs:List V) (lo hi:Option Int):List V:=(xs.drop (HT.sIx xs.length 0 lo)).take (HT.sIx xs.length xs.length hi-HT.sIx xs.length 0 lo)
theorem zd1 (xs:List V) (lo hi:Option Int):(cutV xs lo hi).length≤xs.length:=by
 unfold cutV;rw [List.length_take,List.length_drop];omega
end
end L2
namespace L2
open PySem PySem.Spec PyProof.Rows
def ixN (n:Nat) (i:Int):Option Nat:=if 0≤i then (if i < n then some i.toNat else none) else if -(n:Int)≤i then some (i+n).toNat else none
def atI {α:Type} (xs:List α) (i:Int):Option α:=(ixN xs.length i).bind fun j=>xs[j]?
theorem zg0 {n:Nat} {i:Int} {j:Nat} (h:ixN n i=some j):seqIndex? i n=some j∧j < n∧-(n:Int)≤i∧i < n:=by
 unfold ixN at h
 by_cases h0:0≤i
 ·rw [if_pos h0] at h
  by_cases h1:i < n
  ·rw [if_pos h1] at h;have e:i.toNat=j:=Option.some.inj h;exact ⟨by rw [seqIndex_of h0 h1,e],by omega,by omega,h1⟩
  ·rw [if_neg h1] at h;cases h
 ·rw [if_neg h0] at h
  by_cases h1 : -(n:Int)≤i
  ·rw [if_pos h1] at h;have e:(i+n).toNat=j:=Option.some.inj h;exact ⟨by rw [seqIndex_neg (by omega) h1,e],by omega,h1,by omega⟩
  ·rw [if_neg h1] at h;cases h
theorem zg1 {α:Type} {xs:List α} {i:Int} {v:α} (h:atI xs i=some v):∃ j,seqIndex? i xs.length=some j∧xs[j]? = some v∧j < xs.length∧-(xs.length:Int)≤i∧i < xs.length:=by
 unfold atI at h
 cases e:ixN xs.length i with
 | none=>rw [e] at h;cases h
 | some j =>
   rw [e] at h;obtain ⟨h1,h2,h3,h4⟩:=zg0 e;exact ⟨j,h1,h,h2,h3,h4⟩
theorem zfn {α:Type} {xs:List α} {j:Nat} {v:α} (h:xs[j]? = some v):atI xs (j:Int)=some v:=by
 have hj:j < xs.length:=(List.getElem?_eq_some_iff.mp h).1;have e:ixN xs.length (j:Int)=some j:=by
  unfold ixN;rw [if_pos (by omega),if_pos (by omega)];simp
 unfold atI;rw [e];exact h
def zg2 (b:Expr):Prop:=∀ o i,subscripted b false o i=operate [o,i] (getItem o i)
def IxR (X:Cx) (r:R2):Prop :=
 ∀ (value slice:Expr) (pins:List (Addr×Obj)) (s:Shared) (σ:St) (H:Hp) (x y:V) (v u:Value) (Q:VK),Inv X pins σ H s→RelV x v→RelV y u→r x y H Q →
  subscripted slice false v u=operate [v,u] (getItem v u)→wpAny (model X.prog X.w) X.A (subscriptTail value slice v u) (EP X pins σ Q) X.xe s
def MtR (X:Cx) (id:String) (r:V→List V→Hp→VK→Prop):Prop :=
 ∀ (pins:List (Addr×Obj)) (s:Shared) (σ:St) (H:Hp) (x:V) (xs:List V) (v:Value) (us:List Value) (Q:VK),Inv X pins σ H s→RelV x v→Vals xs us→r x xs H Q →
  wpAny (model X.prog X.w) X.A (call (.builtin id) (v::us)) (EP X pins σ Q) X.xe s
section
variable {X:Cx} {a b:Expr} {ta tb:TE} {pos:Pos}
theorem zbd {r:R2} (hr:IxR X r) (ha:PE X a ta) (hb:PE X b tb) (hs:zg2 b):PE X (.Subscript a b pos) (tOp r ta tb):=by
 intro pins s σ H Q I h;exact Subscript_ (binT ha hb I h fun v u s2 x y H2 I2 rx ry q=>hr a b pins s2 σ H2 x y v u Q I2 rx ry q (hs _ _))
def rIxL (K:PySem.W.Frag):R2:=fun x y H Q=>∃ p xs i v,x=.ref p∧y=.int i∧SqL K H p xs∧atI xs i=some v∧Q v H
theorem ix_list:IxR X (rIxL X.K):=by
 intro value slice pins s σ H x y v u Q I rx ry h hs;obtain ⟨p,xs,i,z,rfl,rfl,hq,he,q⟩:=h
 cases rx
 obtain ⟨t,rfl⟩:=ry;obtain ⟨its,r,pl,hz⟩:=I.list hq;obtain ⟨j,h1,h2,h3,h4,h5⟩:=zg1 he;obtain ⟨w,ew,rw'⟩:=r.get h2;have hl:=r.length;have hn:=line63;have fin:EP X pins σ Q w s:=⟨z,H,I,rw',q⟩
 by_cases h0:0≤i
 ·have hj:i.toNat=j:=by
   rw [seqIndex_of h0 h5] at h1;exact Option.some.inj h1
  exact item_listR pl.isList h0 (by omega) (by rw [hj];simpa using ew) fin hs
 ·have hj:(i+(its.toArray.size:Int)).toNat=j:=by
   rw [seqIndex_neg (by omega) h4] at h1;rw [List.size_toArray,← hl];exact Option.some.inj h1
  exact subscriptTail_builtinR (x:=w) pl.isList.typeIs slot_list_getitem.lookup
   (wpAny_getItem_list_neg (Q:=fun r s'=>r=w∧EP X pins σ Q r s') pl.isList (by omega) (by rw [List.size_toArray] <;> omega) (by omega) (by rw [hj];simpa using ew) ⟨rfl,fin⟩) hs
theorem zdA (lo hi:Option Int) (n:Nat):(sliceBounds lo hi none n).1=((HT.sIx n 0 lo:Nat):Int)∧(sliceBounds lo hi none n).2.1=((HT.sIx n n hi:Nat):Int)∧(sliceBounds lo hi none n).2.2=1:=by
 refine ⟨?_,?_,rfl⟩
 ·cases lo with
  | none=>simp [sliceBounds,HT.sIx]
  | some i =>
    simp only [sliceBounds,HT.sIx,Option.getD_none,show (1:Int) > 0 by decide,if_true]
    by_cases h:i < 0
    ·simp only [h,if_true] <;> omega
    ·simp only [h,if_false] <;> omega
 ·cases hi with
  | none=>simp [sliceBounds,HT.sIx]
  | some i =>
    simp only [sliceBounds,HT.sIx,Option.getD_none,show (1:Int) > 0 by decide,if_true]
    by_cases h:i < 0
    ·simp only [h,if_true] <;> omega
    ·simp only [h,if_false] <;> omega
theorem zdc (its:List Value) (lo hi:Option Int):slicePick its.toArray lo hi none=((its.drop (HT.sIx its.length 0 lo)).take (HT.sIx its.length its.length hi-HT.sIx its.length 0 lo)).toArray:=by
 obtain ⟨h1,h2,h3⟩:=zdA lo hi its.toArray.size;unfold slicePick;rw [h1,h2,h3];simp only [sliceRange_one,pick_run,List.size_toArray] <;> rfl
def rSlL (K:PySem.W.Frag):V→Option Int→Option Int→Hp→VK→Prop:=fun x lo hi H Q=>∃ a xs,x=.ref a∧SqL K H a xs∧∀ p,H p=none→Q (.ref p) (upd H p (.lst (cutV xs lo hi)))
theorem sl_list:SlR X (rSlL X.K):=by
 intro pins s σ H x v vl vu lo hi sl Q I rx hs pl pu h;obtain ⟨a,xs,rfl,hx,q⟩:=h
 cases rx
 obtain ⟨its,r,ht,hz⟩:=I.list hx;have hlen:=r.length;refine ⟨"list",_,slot_list_getitem.lookup,ht.isList.typeIs,?_⟩;refine wpAny_getItem_list_slice ht.isList hs pl pu .none (by simp) ?_ (by rw [List.size_toArray] <;> omega);rw [zdc,← hlen];refine ⟨.ref s.heap.objs.size,_,I.laid (t':=s.toks) (o:=.lst (cutV xs lo hi)) (fun b ob q=>Heap.get?_push_of_some _ q) (Nat.le_refl _) ?_,rfl,q _ (I.hok.fresh (Nat.le_refl _))⟩;exact ⟨Nat.le_trans (zd1 xs lo hi) hz,_,0,(r.drop (HT.sIx xs.length 0 lo)).take (HT.sIx xs.length xs.length hi-HT.sIx xs.length 0 lo),Heap.get?_push_size _ rfl⟩
def flatV:V→Bool
 | .non=>true
 | .bl _=>true
 | .int _=>true
 | .str _=>true
 | _=>false
def eqV:V→V→Bool
 | .non,.non=>true
 | .bl a,.bl b=>a == b
 | .bl a,.int b=>(if a then 1 else 0) == b
 | .int a,.bl b=>a == (if b then 1 else 0)
 | .int a,.int b=>a == b
 | .str a,.str b=>a == b
 | _,_=>false
theorem zfo {A:Around} {s:Shared} {y x:V} {u v:Value} (ry:RelV y u) (rx:RelV x v) (fy:flatV y=true) (fx:flatV x=true):SeqAt.EqAt A s u v (eqV y x):=by
 cases y with
 | non =>
   cases ry
   cases x with
   | non=>cases rx;exact SeqAt.EqAt.same _
   | bl b=>cases rx;exact SeqAt.EqAt.none_bool b
   | int b=>obtain ⟨t,rfl⟩:=rx;exact SeqAt.EqAt.none_int b t
   | str b=>obtain ⟨t,rfl⟩:=rx;exact SeqAt.EqAt.none_str b t
   | _=>exact absurd (show false=true from fx) Bool.false_ne_true
 | bl a =>
   cases ry
   cases x with
   | non=>cases rx;exact SeqAt.EqAt.bool_none a
   | bl b=>cases rx;exact SeqAt.EqAt.bool_bool a b
   | int b=>obtain ⟨t,rfl⟩:=rx;exact SeqAt.EqAt.bool_int a b t
   | str b=>obtain ⟨t,rfl⟩:=rx;exact SeqAt.EqAt.bool_str a b t
   | _=>exact absurd (show false=true from fx) Bool.false_ne_true
 | int a =>
   obtain ⟨t',rfl⟩:=ry
   cases x with
   | non=>cases rx;exact SeqAt.EqAt.int_none a t'
   | bl b=>cases rx;exact SeqAt.EqAt.int_bool a t' b
   | int b=>obtain ⟨t,rfl⟩:=rx;exact SeqAt.EqAt.int_int a t' b t
   | str b=>obtain ⟨t,rfl⟩:=rx;exact SeqAt.EqAt.int_str a t' b t
   | _=>exact absurd (show false=true from fx) Bool.false_ne_true
 | str a =>
   obtain ⟨t',rfl⟩:=ry
   cases x with
   | non=>cases rx;exact SeqAt.EqAt.str_none a t'
   | bl b=>cases rx;exact SeqAt.EqAt.str_bool a t' b
   | int b=>obtain ⟨t,rfl⟩:=rx;exact SeqAt.EqAt.str_int a t' b t
   | str b=>obtain ⟨t,rfl⟩:=rx;exact SeqAt.EqAt.str_str a t' b t
   | _=>exact absurd (show false=true from fx) Bool.false_ne_true
 | _=>exact absurd (show false=true from fy) Bool.false_ne_true
def eqU (x:V) (u:Value):Bool:=match u with
 | .none=>eqV .non x
 | .bool b=>eqV (.bl b) x
 | .int i _=>eqV (.int i) x
 | .str z _=>eqV (.str z) x
 | _=>false
theorem zgF {x y:V} {u:Value} (r:RelV y u) (f:flatV y=true):eqU x u=eqV y x:=by
 cases y with
 | non=>cases r;rfl
 | bl b=>cases r;rfl
 | int i=>obtain ⟨t,rfl⟩:=r;rfl
 | str z=>obtain ⟨t,rfl⟩:=r;rfl
 | _=>exact absurd (show false=true from f) Bool.false_ne_true
theorem zd2 {x:V}:∀ {xs:List V} {us:List Value},Vals xs us→xs.all flatV=true→us.any (eqU x)=xs.any fun y=>eqV y x
 | _,_,.nil,_=>rfl
 | y::xs,u::us,.cons r t,f=>by
   rw [List.all_cons,Bool.and_eq_true] at f;rw [List.any_cons,List.any_cons,zgF r f.1,zd2 t f.2]
theorem zdd {A:Around} {s:Shared} {x:V} {v:Value} (rx:RelV x v) (fx:flatV x=true):∀ {xs:List V} {us:List Value},Vals xs us→xs.all flatV=true→∀ u∈us,SeqAt.EqAt A s u v (eqU x u)
 | _,_,.nil,_=>fun u hu=>by cases hu
 | y::xs,u::us,.cons r t,f=>fun u' hu=>by
   rw [List.all_cons,Bool.and_eq_true] at f;rcases List.mem_cons.mp hu with rfl | hu
   ·rw [zgF r f.1];exact zfo r rx f.1 fx
   ·exact zdd rx fx t f.2 u' hu
def inV (x:V) (xs:List V):Bool:=xs.any fun y=>eqV y x
def rIn (K:PySem.W.Frag) (neg:Bool):R2:=fun x y H Q=>∃ p xs,y=.ref p∧(SqL K H p xs∨SqT K H p xs)∧flatV x=true∧xs.all flatV=true∧Q (.bl (if neg then !inV x xs else inV x xs)) H
theorem op_in_seq:OpR X (compareOp .In) (rIn X.K false):=by
 intro pins s σ H x y v u Q I rx ry h;obtain ⟨p,xs,rfl,hq,fx,fs,q⟩:=h
 cases ry
 rcases hq with hq | hq
 ·obtain ⟨its,r,pl,hz⟩:=I.list hq;refine SeqAt.in_listAt (eqU x) pl.isList (fun w hw=>zdd rx fx r fs w (by simpa using hw)) ⟨.bl _,H,I,rfl,?_⟩;rw [show its.toArray.any (eqU x)=its.any (eqU x) by simp,zd2 r fs];exact q
 ·obtain ⟨its,r,pl,hz⟩:=I.tuple hq;refine SeqAt.in_tupleAt (eqU x) pl (fun w hw=>zdd rx fx r fs w (by simpa using hw)) ⟨.bl _,H,I,rfl,?_⟩;rw [show its.toArray.any (eqU x)=its.any (eqU x) by simp,zd2 r fs];exact q
theorem call_len_seq:zcf X (.builtin "len") (fun xs H Q=>∃ p ys,xs=[.ref p]∧(SqL X.K H p ys∨SqT X.K H p ys)∧Q (.int ys.length) H):=by
 intro pins s σ H xs us Q I r h;obtain ⟨p,ys,rfl,hq,q⟩:=h;obtain ⟨u,rfl,rx⟩:=vals1 r
 cases rx
 have hn:=line63;rcases hq with hq | hq
 ·obtain ⟨its,r',pl,hz⟩:=I.list hq;have hlen:=r'.length;exact Calls.call_len_list pl.isList (by simp only [List.size_toArray] <;> omega) ⟨.int ys.length,H,I.tok _,⟨s.toks+1,by rw [List.size_toArray,hlen]⟩,q⟩
 ·obtain ⟨its,r',pl,hz⟩:=I.tuple hq;have hlen:=r'.length;exact len_tuple pl (by simp only [List.size_toArray] <;> omega) ⟨.int ys.length,H,I.tok _,⟨s.toks+1,by rw [List.size_toArray,hlen]⟩,q⟩
theorem call_list_of:zcf X (.type "list") (fun xs H Q=>∃ p ys,xs=[.ref p]∧(SqL X.K H p ys∨SqT X.K H p ys)∧∀ l,H l=none→Q (.ref l) (upd H l (.lst ys))):=by
 intro pins s σ H xs us Q I r h;obtain ⟨p,ys,rfl,hq,q⟩:=h;obtain ⟨u,rfl,rx⟩:=vals1 r
 cases rx
 have fin:∀ (its:List Value),Vals ys its→ys.length≤sizeLine→∀ (h':Heap) (c':Nat),(∀ b o',s.heap.get? b=some o'→h'.get? b=some o') →
   h'.get? s.heap.objs.size=some { cls:=.type "list",dict:=none,data:=.seq its.toArray c',slots:=#[] }→EP X pins σ Q (.ref s.heap.objs.size) { s with heap:=h' }:=fun its r' hz h' c' kp e =>
  ⟨.ref s.heap.objs.size,_,I.laid (t':=s.toks) kp (Nat.le_refl _) (show za5 X.prog X.w _ h' _ (.lst ys) from ⟨hz,its,c',r',e⟩),rfl,q _ (I.hok.fresh (Nat.le_refl _))⟩
 rcases hq with hq | hq
 ·obtain ⟨its,r',pl,hz⟩:=I.list hq;have hlen:=r'.length;obtain ⟨o,ho,hc,n,hd⟩:=pl.isList;exact call_list_seq p (.inl rfl) ho hc hd (fun h' c' kp e=>fin its r' hz h' c' kp e) (by simp only [List.size_toArray] <;> omega)
 ·obtain ⟨its,r',pl,hz⟩:=I.tuple hq;have hlen:=r'.length;obtain ⟨o,ho,hc,n,hd⟩:=pl;exact call_list_seq p (.inr rfl) ho hc hd (fun h' c' kp e=>fin its r' hz h' c' kp e) (by simp only [List.size_toArray] <;> omega)
def tyV (K:PySem.W.Frag) (T:String) (x:V) (H:Hp):Prop:=match x with
 | .str _=>T = "str"
 | .int _=>T = "int"
 | .ref p=>(T = "list"∧∃ xs,SqL K H p xs)∨(T = "tuple"∧∃ o,K.lookup p=some o∧o.cls=.type "tuple"∧o.dict=none) ∨
    (T = "dict"∧((∃ kvs,H p=some (.dK kvs))∨∃ kvs,H p=some (.dT kvs)))∨(T = "set"∧∃ S n,H p=some (.set S n))
 | _=>False
theorem zhX {pins:List (Addr×Obj)} {σ:St} {H:Hp} {s:Shared} {T:String} {x:V} {v:Value} (I:Inv X pins σ H s) (r:RelV x v) (ty:tyV X.K T x H) :
  s.TypeIs v T∧∀ a,v=.ref a→∃ ob,s.heap.get? a=some ob∧ob.dict=none:=by
 cases x with
 | str z =>
   obtain ⟨t,rfl⟩:=r
   cases (show T = "str" from ty)
   exact ⟨typeIs_str s z t,fun _ e=>nomatch e⟩
 | int i =>
   obtain ⟨t,rfl⟩:=r
   cases (show T = "int" from ty)
   exact ⟨typeIs_int s i t,fun _ e=>nomatch e⟩
 | ref p =>
   cases r
   rcases ty with ⟨rfl,xs,hq⟩ | ⟨rfl,o,hk,hc,hd⟩ | ⟨rfl,hk⟩ | ⟨rfl,S,n,hk⟩
   ·obtain ⟨its,_,pl,_⟩:=I.list hq;refine ⟨pl.isList.typeIs,fun a e=>?_⟩
    cases e
    obtain ⟨o,n,e,c,hd,_⟩:=pl;exact ⟨o,e,hd⟩
   ·refine ⟨⟨o,I.kIn p o hk,hc⟩,fun a e=>?_⟩
    cases e
    exact ⟨o,I.kIn _ o hk,hd⟩
   ·have z:∃ o,s.heap.get? p=some o∧o.ExactDict:=by
     rcases hk with ⟨kvs,hk⟩ | ⟨kvs,hk⟩
     ·obtain ⟨_,_,_,_,o,_,_,e,ex,_⟩:=I.hok p _ hk;exact ⟨o,e,ex⟩
     ·obtain ⟨_,_,_,_,o,_,_,e,ex,_⟩:=I.hok p _ hk;exact ⟨o,e,ex⟩
    obtain ⟨o,e,ex⟩:=z;refine ⟨⟨o,e,ex.1⟩,fun a e2=>?_⟩
    cases e2
    exact ⟨o,e,ex.2.1⟩
   ·obtain ⟨o,_,_,_,e,ex,_⟩:=I.hok p _ hk;refine ⟨⟨o,e,ex.1⟩,fun a e2=>?_⟩
    cases e2
    exact ⟨o,e,ex.2.1⟩
 | _=>exact False.elim ty
def tBM (K:PySem.W.Frag) (T:String) (r:V→List V→Hp→VK→Prop) (to:TE) (t:TA):TE:=fun σ H Q=>to σ H fun x H1=>tyV K T x H1∧t σ H1 fun xs H2=>r x xs H2 Q
variable {o e:Expr} {es:List Expr} {to:TE} {t:TA} {name:Str} {apos cpos:Pos} {T id:String} {r:V→List V→Hp→VK→Prop}
theorem ziK (pa:PlainAttrs T) (slot:Slot T name id) (hty:typeOf (.builtin id)=pure (.type "method_descriptor")) (hm:MtR X id r) (ho:PE X o to) (ha:PA X (e::es) t)
  (hbase:attributeBase o name X.env (eval o X.env)=eval o X.env:=by rfl)
  (hfew:((backTo cpos (starEach (e::es) X.env)).all (fun x=>!x.1) && (backToKw cpos (keywordEach [] X.env)).all (fun x=>x.1.isSome)
   && decide ((e::es).length+([]:List Keyword).length+(if ([]:List Keyword).isEmpty then 0 else 1) < 30))=true:=by rfl)
  (hline:(apos.endLine == cpos.line)=true:=by rfl) (hs:starEach (e::es) X.env=(false,eval e X.env)::starEach es X.env:=by rfl) (hplain:(backTo cpos (starEach es X.env)).any (·.1)=false:=by rfl) :
  PE X (.Call (.Attribute o name apos) (e::es) [] cpos) (tBM X.K T r to t):=by
 intro pins s σ H Q I h;refine wpAny_Call_method_late hbase hfew hline rfl (thn (ho pins s σ H _ I h) fun v s1 ⟨x,H1,I1,r1,ty,q1⟩=>?_);obtain ⟨h1,h2⟩:=zhX I1 r1 ty;refine ⟨T,id,pa,slot,hty,h1,h2,?_⟩;have hA:=ha cpos pins s1 σ H1 _ I1 q1;rw [hs] at hA ⊢;refine Calls.callWith_builtin (by show (false || (backTo cpos (starEach es X.env)).any (·.1))=false;rw [hplain] <;> rfl) (Calls.evalArgs_plain ?_);exact thn hA fun us s2 ⟨vs,H2,I2,r2,q2⟩=>hm pins s2 σ H2 x vs v us Q I2 r1 r2 q2
end
end L2
namespace L2
open PySem PySem.Spec PyProof.Rows
def MtM (X:Cx) (id:String) (r:V→List V→Hp→VK→Prop):Prop :=
 ∀ (pins:List (Addr×Obj)) (s:Shared) (σ:St) (H:Hp) (x:V) (xs:List V) (v:Value) (us:List Value) (Q:VK),Inv X pins σ H s→RelV x v→Vals xs us→r x xs H Q →
  wpAny (model X.prog X.w) X.A (call (.builtin id) (v::us)) (EP X pins σ Q) X.xe s
theorem Vals.one:∀ {x:V} {us:List Value},Vals [x] us→∃ u,us=[u]∧RelV x u
 | _,_,.cons r .nil=>⟨_,rfl,r⟩
theorem Vals.two:∀ {x y:V} {us:List Value},Vals [x,y] us→∃ u v,us=[u,v]∧RelV x u∧RelV y v
 | _,_,_,.cons r (.cons q .nil)=>⟨_,_,rfl,r,q⟩
section
variable {X:Cx} {pins:List (Addr×Obj)} {σ:St} {H:Hp} {s:Shared} {l b:Addr} {xs ys zs:List V}
theorem Inv.lset {its its':List Value} {n:Nat} {f:Array Value→Array Value} {t':Nat} (I:Inv X pins σ H s) (hH:H l=some (.lst xs))
  (e:s.heap.get? l=some { cls:=.type "list",data:=.seq its.toArray n }) (hf:f its.toArray=its'.toArray) (hv:Vals ys its') (hz:ys.length≤sizeLine) :
  Inv X pins σ (upd H l (.lst ys)) { s with heap:=s.heap.update l (Obj.mapSeq f),toks:=t' }:=by
 have q:=PySem.IsL.update e f;rw [hf] at q;refine I.write (x:=l) (e:=l) (by rw [hH];exact trivial) (.inl rfl) (fun b' u hb hu=>(Heap.get?_update_other s.heap (Obj.mapSeq f) (Ne.symm hb)).trans hu) ⟨_,q⟩ ?_;exact ⟨hz,its',_,hv,q⟩
theorem Inv.lnew {its:List Value} {t':Nat} (I:Inv X pins σ H s) (hv:Vals ys its) (hz:ys.length≤sizeLine) :
  Inv X pins σ (upd H s.heap.objs.size (.lst ys)) { s with heap:=s.heap.push { cls:=.type "list",data:=.seq its.toArray },toks:=t' } :=
 I.laid (fun _ _ q=>Heap.get?_push_of_some _ q) (Nat.le_refl _) ⟨hz,its,0,hv,Heap.get?_push_size _ rfl⟩
theorem Inv.fresh (I:Inv X pins σ H s):H s.heap.objs.size=none:=I.hok.fresh (Nat.le_refl _)
theorem Inv.lstM (I:Inv X pins σ H s) (hH:H l=some (.lst xs)):xs.length≤sizeLine∧∃ (its:List Value) (n:Nat),Vals xs its∧xs.length=its.length∧s.heap.get? l=some { cls:=.type "list",data:=.seq its.toArray n }:=by
 obtain ⟨z,its,n,r,e⟩:=I.hok l _ hH;exact ⟨z,its,n,r,r.length,e⟩
theorem zde {n:Nat} (h:n≤sizeLine):Builtin.List.listTooLong n=false:=by
 unfold Builtin.List.listTooLong;exact decide_eq_false (by omega)
end
section
variable {X:Cx}
def rAppend:V→List V→Hp→VK→Prop:=fun x vs H Q=>∃ l xs y,x=.ref l∧vs=[y]∧H l=some (.lst xs)∧xs.length < sizeLine∧Q .non (upd H l (.lst (xs++[y])))
theorem mt_append:MtM X "list.append" rAppend:=by
 intro pins s σ H x vs v us Q I rx rv h;obtain ⟨l,xs,y,rfl,rfl,hH,hz,q⟩:=h
 cases rx
 obtain ⟨u,rfl,ru⟩:=rv.one;obtain ⟨z,its,n,r,hl,e⟩:=I.lstM hH;refine call_meets F.slot_list_append ⟨_,e,rfl⟩ F.entry_list_append (F.args_list_append_2 _ _) (PySem.list_append l its.toArray n u (by rw [List.size_toArray];omega)) ⟨e,?_⟩;refine ⟨.non,_,I.lset (its':=its++[u]) hH e (by simp) (r.append (.cons ru .nil)) ?_,rfl,q⟩;rw [List.length_append,List.length_singleton];omega
def rExtend:V→List V→Hp→VK→Prop:=fun x vs H Q=>∃ l b xs zs,x=.ref l∧vs=[.ref b]∧H l=some (.lst xs)∧H b=some (.lst zs)∧xs.length+zs.length≤sizeLine∧Q .non (upd H l (.lst (xs++zs)))
theorem mt_extend:MtM X "list.extend" rExtend:=by
 intro pins s σ H x vs v us Q I rx rv h;obtain ⟨l,b,xs,zs,rfl,rfl,hH,hB,hz,q⟩:=h
 cases rx
 obtain ⟨u,rfl,ru⟩:=rv.one
 cases ru
 obtain ⟨z,its,n,r,hl,e⟩:=I.lstM hH;obtain ⟨z2,its2,n2,r2,hl2,e2⟩:=I.lstM hB;have hsz:its.toArray.size+its2.toArray.size≤sizeLine:=by rw [List.size_toArray,List.size_toArray];omega
 have hlong:¬(!its.toArray.isEmpty && Builtin.List.listTooLong (its.toArray.size+its2.toArray.size))=true:=by
  rw [zde hsz,Bool.and_false];exact Bool.false_ne_true
 refine call_meets F.slot_list_extend ⟨_,e,rfl⟩ F.entry_list_extend (F.args_list_extend_2 _ _)
  (AutoSeq1.list_extend_list_list_0 l its.toArray n b its2.toArray n2 hlong (by rw [List.size_toArray];omega) (by omega)) ⟨e,e2,?_⟩
 refine ⟨.non,_,I.lset (its':=its++its2) hH e (by simp) (r.append r2) ?_,rfl,q⟩;rw [List.length_append];omega
def rCat:R2:=fun x y H Q=>∃ l b xs zs,x=.ref l∧y=.ref b∧H l=some (.lst xs)∧H b=some (.lst zs)∧xs.length+zs.length≤sizeLine∧∀ p,H p=none→Q (.ref p) (upd H p (.lst (xs++zs)))
theorem op_cat:OpR X (binaryOp .Add) rCat:=by
 intro pins s σ H x y v u Q I rx ry h;obtain ⟨l,b,xs,zs,rfl,rfl,hH,hB,hz,q⟩:=h
 cases rx
 cases ry
 obtain ⟨z,its,n,r,hl,e⟩:=I.lstM hH;obtain ⟨z2,its2,n2,r2,hl2,e2⟩:=I.lstM hB;refine PySem.P.add_list e e2 ?_ (by rw [List.size_toArray,List.size_toArray];omega);have ea:its.toArray++its2.toArray=(its++its2).toArray:=by simp
 rw [ea];exact ⟨.ref _,_,I.lnew (t':=s.toks) (r.append r2) (by rw [List.length_append];omega),rfl,q _ I.fresh⟩
end
section
variable {prog:Program} {w:World} {A:Around} {E:Value→Shared→Prop} {s:Shared}
theorem zeG {a c n:Nat} (hac:a≤c) (hc:c≤n):sliceBounds (some (a:Int)) (some (c:Int)) none n=((a:Int),(c:Int),1):=by
 simp only [sliceBounds,Option.getD_none];have h1:¬((a:Int) < 0):=by omega
 have h2:¬((c:Int) < 0):=by omega
 simp only [h1,h2,if_false,show (1:Int) > 0 by decide,if_true]
 congr 1
 ·omega
 ·congr 1;omega
set_option maxRecDepth 100000 in
theorem zgf {l b sl:Addr} {items new:Array Value} {n n2:Nat} {vl vu:Value} {a c:Nat} {Q:Unit→Shared→Prop}
  (e:s.heap.get? l=some { cls:=.type "list",data:=.seq items n }) (e2:s.heap.get? b=some { cls:=.type "list",data:=.seq new n2 }) (hne:l≠b)
  (hs:s.heap.IsSliceOf sl vl vu .none) (pl:IsPart vl (some (a:Int))) (pu:IsPart vu (some (c:Int))) (hac:a≤c) (hc:c≤items.size)
  (hsz:items.size+new.size≤sizeLine) (h:Q () { s with heap:=s.heap.update l (Obj.mapSeq fun xs=>xs.extract 0 a++new++xs.extract c xs.size) }) :
  wpAny (model prog w) A (setItem (.ref l) (.ref sl) (.ref b)) Q E s:=by
 have hl:s.heap.IsList l items:=PySem.IsL.isList e;have hb:s.heap.IsList b new:=PySem.IsL.isList e2;obtain ⟨os,hos,hcs,hds⟩:=id hs;have hTs:s.TypeIs (.ref sl) "slice":=⟨os,hos,hcs⟩
 have hstep:¬((rawPart none == rawInt 0)=true):=Bool.false_ne_true;have hsame:Builtin.List.listSameRef (.ref l) (.ref b)=false:=by
  unfold Builtin.List.listSameRef;exact beq_eq_false_iff_ne.mpr hne
 have hmax:(max (a:Int) (c:Int)).toNat=c:=by omega
 have hz':((fun xs:Array Value=>xs.extract 0 a++new++xs.extract c xs.size) items).size≤sizeLine+1:=by
  simp only [Array.size_append,Array.size_extract];omega
 unfold setItem
 try with_reducible refine wpAny_holding ?_
 first | refine wpAny_bind (wpAny_pure ?_) | skip
 refine wpAny_bind (wpAny_sequenceKey hl.typeIs (by decide) ?_);refine wpAny_bind (wpAny_callSpecial?_slot (name:=Str.ofString "__setitem__") hl.typeIs slot_list_setitem
  (wpAny_call_entry slot_list_setitem hl.typeIs entry_list_setitem ?_ (args_list_setitem _ _ _)))
 show wpAny _ _ (Builtin.List.listSubscript? (.ref sl) >>= _) _ _ s;refine wpAny_bind ?_;unfold Builtin.List.listSubscript?;refine wpAny_bind (wpAny_specialOf hTs slice_no_index ?_);simp only [Option.isNone_none,if_true];refine wpAny_pure ?_;show wpAny _ _ (typeOf (.ref sl) >>= _) _ _ s;refine wpAny_bind (wpAny_typeOf hTs ?_)
 first
  | rw [if_neg (by decide)]
  | refine PySem.W.KFB.if_not (by decide) ?_
 rw [listSliceParts_eq];refine wpAny_bind (wpAny_bind (wpAny_field hos hds (x:=.none) rfl (wpAny_bind (wpAny_listPart .none ?_))));rw [if_neg hstep];refine wpAny_bind (wpAny_field hos hds (x:=vl) rfl (wpAny_bind (wpAny_listPart pl ?_)));refine wpAny_bind (wpAny_field hos hds (x:=vu) rfl (wpAny_bind (wpAny_listPart pu (wpAny_pure ?_))))
 first
  | simp only [hsame,Bool.false_eq_true,if_false]
  | refine PySem.W.KFB.if_not hsame ?_
  | (dsimp only
     rw [if_neg (by rw [hsame];exact Bool.false_ne_true)])
 refine wpAny_bind (m:=Builtin.List.listAllItems (.ref b) "must assign iterable to extended slice") ?_;unfold Builtin.List.listAllItems;refine wpAny_bind (wpAny_typeOf hb.typeIs ?_)
 first
  | refine PySem.W.KFB.if_so (by decide) ?_
  | rw [if_pos (by decide)]
  | simp only [beq_self_eq_true,Bool.true_or,if_true]
 unfold Builtin.List.listItems;refine wpAny_bind (wpAny_seqItems e2 rfl (wpAny_pure ?_));refine wpAny_bind (wpAny_bind (wpAny_seqItems e rfl (wpAny_pure ?_)));refine wpAny_bind (wpAny_of_eq ((sliceIndices_raw (some (a:Int)) (some (c:Int)) none items.size (by simp)).trans (congrArg (pure:Int×Int×Int→Sem (Int×Int×Int)) (zeG hac hc))) ?_);show wpAny _ _ (if ((1:Int) == 1)=true then _ else _) _ _ s;rw [if_pos (by decide)];refine wpAny_bind (wpAny_rule ?_)
 first
  | simp only [zde hsz,Bool.false_eq_true,if_false]
  | refine PySem.W.KFB.if_not (zde hsz) ?_
 first | refine wpAny_bind (wpAny_pure ?_) | skip
 show wpAny _ _ (updateSeq l (fun xs=>xs.extract 0 ((a:Int)).toNat++new++xs.extract (max (a:Int) (c:Int)).toNat xs.size) >>= _) _ _ s;rw [hmax,Int.toNat_natCast];refine wpAny_bind (wpAny_updateSeq (hz:=Nat.le_trans (Nat.le_add_right _ _) hsz) (_hz':=hz') e rfl ?_);refine wpAny_bind (wpAny_letGo ?_)
 first
  | exact wpAny_bind (wpAny_pure (wpAny_pure ⟨.none,rfl,wpAny_pure h⟩))
  | exact wpAny_pure ⟨.none,rfl,wpAny_pure h⟩
end
section
variable {X:Cx}
end
end L2
namespace Att
open PySem PySem.W PySem.Calls PyProof.Rows
theorem zcA {P:Params} {h:Heap}:∀ (ns:List Int) (vs:List Value),WellAll P h vs (ns.map WData.int)→IntsAre vs ns:=by
 intro ns
 induction ns with
 | nil =>
   intro vs w;rw [List.map_nil] at w
   cases w
   exact .nil
 | cons n ns ih =>
   intro vs w;rw [List.map_cons] at w
   cases w with
   | cons a b =>
     cases a
     exact .cons _ _ (ih _ b)
theorem zfp {l:OpenLaw} {n:Nat} (hn:l.most=some n) {P:Params} {h:Heap} {args:List WData} {vals:List Value}
  (hpre:l.row.toRowW.claim.pre args=true) (hwl:WellAll P h vals args) :
  ∃ a vs ns,vals=[Value.ref a]∧args=[WData.list (ns.map WData.int)]∧h.get? a=some { cls:=.type "list",data:=.seq vs.toArray }∧IntsAre vs ns∧ns.length≤n:=by
 have hsh:WShape.hasAll [] args [.list .int]=true:=(pre_splitW hpre).1;have hc:l.pre.holds [] { args:=args }=true:=(pre_splitW hpre).2;obtain ⟨d,r,rfl,h1,h2⟩:=hasAllW_cons hsh;obtain rfl:=hasAllW_nil h2;obtain ⟨xs,rfl,h3⟩:=hasW_list h1;obtain ⟨ns,rfl⟩:=items_int h3;have hlen:ns.length≤n:=by
  unfold OpenLaw.pre at hc;have h4:(WTm.not (.lt (.lit (.int (n:Int))) (.len (.arg 0)))).holds [] { args:=[.list (ns.map .int)] }=true:=by
   have h4:=(holds_andW hc).1;rw [hn] at h4;exact h4
  have h5:=condW_of h4 (w_not (w_lt w_lit (w_len_list (w_arg rfl))));rw [List.length_map] at h5;refine Nat.le_of_not_lt fun q=>?_;have q':(n:Int) < ((ns.length:Nat):Int):=by omega
  first
   | (rw [decide_eq_true q'] at h5;exact absurd h5 (by decide))
   | (simp at h5;omega)
 cases hwl with
 | cons w1 w2 =>
   cases w2
   cases w1 with
   | list ho hall=>exact ⟨_,_,ns,rfl,rfl,ho,zcA ns _ hall,hlen⟩
theorem zfq (l:OpenLaw) (args:List WData):l.row.toRowW.claim.post args (.bool true) args=true :=
 postW_of (r:=l.row.toRowW) (X:=(true == true))
  (show WShape.has [] (.bool true) .bool=true by first | rfl | decide | simp [WShape.has,WShape.arms,WShape.armsAll])
  (show (WTm.eq .res (.lit (.bool true))).value [] { args:=args,res:=some (.bool true),after:=args }=some (.bool (true == true)) from w_eq_bool (w_res rfl) w_lit) rfl
theorem attach_call {l:OpenLaw} {n:Nat} {q:Program} {loose:List Str} {XP:(Str→Option Value)→Heap→Prop} {YP:World→Heap→Prop} {d:DefRec}
  (hn:l.most=some n) (hdf:d.params.defaults=[])
  (call:∀ (w:World) (s₀ s₁:Shared) (mg mb:Str→Option Value) (fa:Addr) (o:Obj) (pm cd doc:Value) (a:Addr) (vs:List Value) (ns:List Int),
   Ground q loose [] XP w s₀ mg mb s₁.heap→YP w s₁.heap →
   s₁.heap.get? fa=some o→o.data=.func (docDef d.name d.params d.body d.scope pm cd doc)→s₁.heap.CodeRec cd d.name→mg d.name=some (.ref fa) →
   s₁.heap.get? a=some { cls:=.type "list",data:=.seq vs.toArray }→IntsAre vs ns→ns.length≤n→s₁.gens=#[] →
   codeAny (model l.prog w) callerA (.call (.ref fa) ⟨[.ref a],[]⟩) (fun r s'=>r=.ok (.ret (.bool true))∧OldK s₁.heap s'.heap∧s'.os=s₁.os∧AllBare s'.gens) s₁) :
  WalkO q loose XP YP l.row.toRowW d [] (fun f vs=>PySem.call f vs):=by
 intro w s₀ s₁ mg mb G Y fa o pm cd doc dV kV ho hd hcd hD hmg hg args vals as hpre hlay hrd hwl hlo;obtain rfl:dV=.none:=Dflts.none hD hdf;obtain rfl:kV=.none:=Dflts.noKw hD;obtain ⟨a,vs,ns,rfl,rfl,hobj,hints,hlen⟩:=zfp hn hpre hwl;refine enter_call (codeAny_mono (call w s₀ s₁ mg mb fa o pm cd doc a vs ns G Y ho (fd_plain hd) hcd hmg hobj hints hlen hg) fun r s' hq=>?_);obtain ⟨rfl,h2,h3,h4⟩:=hq;exact ⟨.inl ⟨.bool true,.bool true,[],rfl,fun _=>rfl,.bool true,zfq l _,fun _=>⟨List.Pairwise.nil,fun _ hm=>(nomatch hm)⟩⟩,h2,h3,h4⟩
section
variable {prog:Program} {w:World} {A:Around} {E:Value→Shared→Prop} {s:Shared} {K:Frag}
end
end Att
namespace L2
open PySem PySem.Spec PyProof.Rows
theorem vals_ints:∀ {vs:List Value} {ns:List Int},IntsAre vs ns→Vals (ns.map V.int) vs
 | _,_,.nil=>.nil
 | _,_,.cons n t h=>.cons ⟨t,rfl⟩ (vals_ints h)
def Only (H:Hp):Prop:=∀ b,H b=none∨∃ o xs,H b=some (.frz o (.lst xs))
theorem zgg {P:Program} {w:World} {K:PySem.W.Frag} {mg mb:Str→Option Value} {CX:CXT} {k:Nat} {fa a:Addr} {fd:FuncData} {x:Str} {sp:Sp} {s₁:Shared} {vs:List Value} {ns:List Int}
  (KX:K.In s₁.heap) (hns:s₁.heap.Ns mainGlobals mg) (hb:s₁.heap.Ns builtinsNs mb) (hbb:∀ x:Str,x≠"__name__"→mb x=bootBuiltins x) (hlim:s₁.heap.NoLimit) (hg:s₁.gens=#[])
  (ha:s₁.heap.get? a=some { cls:=.type "list",data:=.seq vs.toArray }) (hi:IntsAre vs ns) (hl:ns.length≤sizeLine) (hr:Room k callerA)
  (F:∀ base:Heap,K.In base→base.Ns mainGlobals mg→FnOk P w K mg base CX k fa fd [x] sp) (hbind:∀ (s:Shared) (u:Value),BindsTo s fd ⟨[u],[]⟩ [(x,u)])
  (hsp:∀ H:Hp,Only H→SqL K H a (ns.map V.int)→sp [.ref a] H (fun v _=>v=.bl true) fun _ _ _=>False)
  (hCX:∀ H e s',CX [] H s₁ (fun _ _ _=>False) e s'→False) :
  codeAny (model P w) callerA (.call (.ref fa) ⟨[.ref a],[]⟩) (fun r s'=>r=.ok (.ret (.bool true))∧OldK s₁.heap s'.heap∧s'.os=s₁.os∧AllBare s'.gens) s₁:=by
 have rv:=vals_ints hi;have lenV:=hi.length;have core:∀ H:Hp,Only H→SqL K H a (ns.map V.int)→HOk P w H s₁.heap→(∀ b,H b≠none→b=a)→(H a≠none→K.lookup a=none) →
   codeAny (model P w) callerA (.call (.ref fa) ⟨[.ref a],[]⟩) (fun r s'=>r=.ok (.ret (.bool true))∧OldK s₁.heap s'.heap∧s'.os=s₁.os∧AllBare s'.gens) s₁:=by
  intro H hO hS hok hA hK;have base_of:∀ {b:Addr} {o:Obj},s₁.heap.get? b=some o→H b=none→(hidT s₁.heap H).get? b=some o:=fun e n=>zf3 e n;have noA:∀ {b:Addr} {o:Obj} {es:Array DictEntry} {ep:Nat},s₁.heap.get? b=some o→o.data=.dict es ep→H b=none:=fun {b o es ep} e d=>by
   cases q:H b with
   | none=>rfl
   | some u =>
     have e':b=a:=hA b (by rw [q];simp);subst e';rw [ha] at e;cases e
     have d':Data.seq vs.toArray _=Data.dict es ep:=d
     cases d'
  have nsK:∀ {b:Addr} {m:Str→Option Value},s₁.heap.Ns b m→(hidT s₁.heap H).Ns b m:=fun {b m} ⟨o,es,ep,e,d,r⟩=>⟨o,es,ep,base_of e (noA e d),d,r⟩
  have hKb:K.In (hidT s₁.heap H):=fun b o e=>base_of (KX b o e) (by
   cases q:H b with
   | none=>rfl
   | some u =>
     have e':b=a:=hA b (by rw [q];simp);subst e';rw [hK (by rw [q];simp)] at e;cases e)
  have hM:Mod K mg (hidT s₁.heap H):=⟨hKb,nsK hns,⟨mb,nsK hb,hbb⟩,let ⟨mc,h1,h2⟩:=hlim;⟨mc,nsK h1,h2⟩⟩
  have e0:Env0 P w K mg (hidT s₁.heap H) callerA [] s₁ H:=⟨rfl,hM,fun b o e=>zgR e,Nat.le_of_eq (zfa _ _),trivial,fun b hb=>absurd (show b∈([]:List Addr) from hb) (by simp),hok,.of_eq hg⟩
  refine codeAny_mono ((F _ hKb (nsK hns)).run callerA [] s₁ H ⟨[.ref a],[]⟩ [.ref a] [.ref a] _ _ hr e0 (hbind s₁ (.ref a)) (.cons rfl .nil) (hsp H hO hS)) fun r s' h=>?_
  cases r with
  | error e=>exact (hCX H e s' h).elim
  | ok fl =>
    cases fl with
    | next=>exact False.elim h
    | brk=>exact False.elim h
    | cont=>exact False.elim h
    | ret u =>
      obtain ⟨v,H',os,bare,un,hok',r',q⟩:=h;have q':v=.bl true:=q;subst q';obtain rfl:u=Value.bool true:=r';refine ⟨rfl,OldK.of_keep fun b o e=>?_,os,bare⟩
      cases q:H b with
      | none=>exact un.keep b o e q (by intro z;exact absurd (show b∈([]:List Addr) from z) (by simp)) (by simp)
      | some u =>
        rcases hO b with z | ⟨ob,xs,z⟩
        ·rw [q] at z;cases z
        ·have z2:=un.frzs b ob _ z;obtain ⟨e1,_⟩:=hok b _ z;obtain ⟨e2,_⟩:=hok' b _ z2;rw [e] at e1;cases e1
         exact e2
 cases hk:K.lookup a with
 | some o =>
   have e:=KX a o hk;rw [ha] at e
   cases e
   refine core (fun _=>none) (fun _=>.inl rfl) (.inr ⟨_,vs.toArray,_,hk,rfl,rfl,rfl,by rw [List.size_toArray,lenV];exact hl,by simpa using rv⟩) (fun b u z=>by have z':(none:Option HO)=some u:=z;cases z') (fun b z=>absurd rfl z) fun z=>absurd rfl z
 | none =>
   refine core (fun b=>if b=a then some (.frz { cls:=.type "list",data:=.seq vs.toArray } (.lst (ns.map V.int))) else none) (fun b=>?_) (.inl (.inr ⟨{ cls:=.type "list",data:=.seq vs.toArray },if_pos rfl⟩)) (fun b u z=>?_) (fun b z=>?_) fun _=>hk
   ·by_cases hb:b=a
    ·exact .inr ⟨_,_,if_pos hb⟩
    ·exact .inl (if_neg hb)
   ·by_cases hb:b=a
    ·have z':=(if_pos hb).symm.trans z
     cases z'
     subst hb;exact ⟨ha,by rw [List.length_map];exact hl,vs,_,rv,ha⟩
    ·have z':=(if_neg hb).symm.trans z
     cases z'
   ·by_cases hb:b=a
    ·exact hb
    ·exact absurd (if_neg hb) z
end L2
namespace L2
open PySem PySem.Spec PyProof.Rows
theorem zg3 {l:PySem.W.OpenLaw} {n k:Nat} {q:Program} {loose:List Str} {XP:(Str→Option Value)→Heap→Prop} {YP:World→Heap→Prop} {d:DefRec} {K:Params→PySem.W.Frag} {CX:World→CXT} {sp:World→Sp} {x:Str}
  (hn:l.most=some n) (hn2:n≤sizeLine) (hdf:d.params.defaults=[]) (hr:Room k callerA)
  (hY:∀ (w:World) (h:Heap),YP w h→(K w.params).In h)
  (F:∀ (w:World) (mg:Str→Option Value) (fa:Addr) (h:Heap),(K w.params).In h→h.Ns mainGlobals mg→mg d.name=some (.ref fa) →
   ∃ fd:FuncData,(∀ (s:Shared) (u:Value),BindsTo s fd ⟨[u],[]⟩ [(x,u)]) ∧
    ∀ base:Heap,(K w.params).In base→base.Ns mainGlobals mg→FnOk l.prog w (K w.params) mg base (CX w) k fa fd [x] (sp w))
  (hsp:∀ (w:World) (H:Hp) (a:Addr) (ns:List Int),ns.length≤n→Only H→SqL (K w.params) H a (ns.map V.int)→sp w [.ref a] H (fun v _=>v=.bl true) fun _ _ _=>False)
  (hCX:∀ (w:World) (H:Hp) (s:Shared) (e:Value) (s':Shared),CX w [] H s (fun _ _ _=>False) e s'→False) :
  PySem.W.WalkO q loose XP YP l.row.toRowW d [] (fun f vs=>PySem.call f vs):=by
 refine Att.attach_call hn hdf fun w s₀ s₁ mg mb fa o pm cd doc a vs ns G Y ho hd hcd hmg hobj hints hlen hg=>?_;have KX:=hY w _ Y;obtain ⟨fd,hb,hF⟩:=F w mg fa _ KX G.T.g hmg;exact zgg KX G.T.g G.T.b G.T.builtins G.T.nolimit hg hobj hints (Nat.le_trans hlen hn2) hr hF hb (fun H hO hS=>hsp w H a ns hlen hO hS) fun H e s'=>hCX w H s₁ e s'
end L2
namespace L2
open PySem PySem.Spec PyProof.Rows
def zaM (s:Stmt) (j:Nat):Stmt:=match s with
 | .ClassDef _ _ _ body _ _ _ _ _ _ _=>body.getD j (.Pass ⟨0,0,0,0⟩)
 | _=>.Pass ⟨0,0,0,0⟩
def zaj (s:Stmt):Arguments:=match s with
 | .FunctionDef _ a _ _ _ _ _ _ _ _=>a
 | _=>{ posonlyargs:=[],args:=[],vararg:=none,kwonlyargs:=[],kw_defaults:=[],kwarg:=none,defaults:=[] }
def zag (s:Stmt):List Stmt:=match s with
 | .FunctionDef _ _ b _ _ _ _ _ _ _=>b
 | _=>[]
def zab (s:Stmt):Scope:=match s with
 | .FunctionDef _ _ _ _ _ _ sc _ _ _=>sc
 | _=>{ kind:=.function,names:=[],isGenerator:=false,isCoroutine:=false }
abbrev CX0:CXT:=fun _ _ _ _ _ _=>False
abbrev E0:XK:=fun _ _ _=>False
theorem zaE {X:Cx}:zcl CX0 X E0:=fun _ _ _ _ _ _ _ h=>h.elim
structure Fun (K:PySem.W.Frag) (x qual:Str) (st:Stmt) (f:Addr) (fd:FuncData):Prop where
 ex:∃ (oc:Value) (od:Option Addr) (kV doc pm:Value) (an:Option Addr) (cdv ct:Value) (osl:Array (Option Value)),
  fd=PySem.W.fnOf x qual (zaj st) (zag st) (zab st) .none kV doc pm an cdv ct∧K.lookup f=some ⟨oc,od,.func fd,osl⟩∧PySem.W.codeIn K cdv qual=true
 kp:PySem.W.keepIn K (.ref f)=true
section
variable {P:Program} {w:World} {K:PySem.W.Frag} {mg:Str→Option Value} {base:Heap}
theorem Fun.ok {x qual:Str} {st:Stmt} {f:Addr} {fd:FuncData} {N ps:List Str} {k:Nat} {sp:Sp} (F:Fun K x qual st f fd) (S:zah N ps (zab st)) (len:∀ vs H Q E,sp vs H Q E→vs.length=ps.length)
  (hbody:∀ (cdv:Value) (A:Around) (outer:List Env) (s:Shared) (H:Hp) (vs:List V) (Q:VK) (E:XK),Room k (A.deeper (envOfC qual (zab st) s.heap.objs.size f cdv))→sp vs H Q E →
   ∃ t,PSs (cxOf CX0 P w K mg base N qual (zab st) f cdv A outer s H E).nox (zag st) t∧t { nx:=fun _ H'=>Q .non H',rt:=Q } (start N vs) H):FnOk P w K mg base CX0 (k+1) f fd ps sp:=by
 obtain ⟨oc,od,kV,doc,pm,an,cdv,ct,osl,rfl,lk,hcd⟩:=F.ex;refine zhV lk hcd S len fun A outer s H vs Q E hr hsp=>?_;obtain ⟨t,h,q⟩:=hbody cdv A outer s H vs Q E hr hsp;exact ⟨t,h.nox,q⟩
theorem Fun.binds {x qual:Str} {st:Stmt} {f:Addr} {fd:FuncData} {ps:List Str} (F:Fun K x qual st f fd)
  (h:∀ (kV doc pm:Value) (an:Option Addr) (cdv ct:Value) (us:List Value),us.length=ps.length→bindArgs (PySem.W.fnOf x qual (zaj st) (zag st) (zab st) .none kV doc pm an cdv ct) ⟨us,[]⟩=pure (ps.zip us)):Binds K fd ps []:=by
 obtain ⟨oc,od,kV,doc,pm,an,cdv,ct,osl,rfl,lk,hcd⟩:=F.ex;exact .all (h kV doc pm an cdv ct)
theorem zaw {x qual:Str} {st:Stmt} {f:Addr} {oc:Value} {od an:Option Addr} {osl:Array (Option Value)} {kV doc pm cdv ct:Value} (l:K.lookup f=some ⟨oc,od,.func (PySem.W.fnOf x qual (zaj st) (zag st) (zab st) .none kV doc pm an cdv ct),osl⟩)
  (c:PySem.W.codeIn K cdv qual=true) (k:PySem.W.keepIn K (.ref f)=true):Fun K x qual st f (PySem.W.fnOf x qual (zaj st) (zag st) (zab st) .none kV doc pm an cdv ct):=⟨⟨oc,od,kV,doc,pm,an,cdv,ct,osl,rfl,l,c⟩,k⟩
end
theorem zg4 {A:Around} {k:Nat} (hr:Room k A):A.units+1 < cLine:=Nat.lt_of_le_of_lt (Nat.add_le_add_left (by decide:1≤64) _) hr.units
theorem zaU {n:Nat} (h:n≤1000):n < sizeLine:=Nat.lt_of_le_of_lt h (by decide)
section
variable {X:Cx}
theorem pv (i:Nat) {x:Str} {pos:Pos} (hN:X.N[i]? = some x:=by rfl) (hv:Vis X.env.scope x:=by first | exact Or.inl rfl | exact Or.inr (Or.inl rfl) | exact Or.inr (Or.inr rfl)) (hd:(x == ("__debug__" : Str))=false:=by decide)
  (hcd:(x == ("__classdict__" : Str))=false:=by decide):PE X (.Name x pos) (tVar i):=zhI hN hv hd hcd
end
theorem iteF {A B:Prop} (h:B):if false=true then A else B:=by
 rw [if_neg Bool.false_ne_true];exact h
theorem iteT {A B:Prop} (h:A):if true=true then A else B:=by
 rw [if_pos rfl];exact h
def Same (H H':Hp):Prop:=∀ b o,H b=some o→H' b=some o
theorem Same.refl (H:Hp):Same H H:=fun _ _ h=>h
theorem Same.trans {H H1 H2:Hp} (a:Same H H1) (b:Same H1 H2):Same H H2:=fun c o h=>b c o (a c o h)
theorem Same.free {H H':Hp} (e:Same H H') {l:Addr} (h:H' l=Option.none):H l=Option.none:=by
 cases q:H l with
 | none=>rfl
 | some o =>
   rw [e l o q] at h
   cases h
theorem Same.seq {K:PySem.W.Frag} {H H':Hp} {a:Addr} {xs:List V} (e:Same H H') (h:SqL K H a xs):SqL K H' a xs:=by
 rcases h with (h | ⟨o,h⟩) | h
 ·exact .inl (.inl (e _ _ h))
 ·exact .inl (.inr ⟨o,e _ _ h⟩)
 ·exact .inr h
end L2
namespace L2
open PySem PySem.Spec PyProof.Rows
section
variable {κ:Type} [DecidableEq κ]
def valV (kvs:List (κ×V)) (k:κ):Option V:=(kvs.find? fun kv=>decide (kv.1=k)).map (·.2)
theorem zeo {p:κ×V} {r:List (κ×V)} {k:κ} (e:p.1=k):valV (p::r) k=some p.2:=by simp [valV,List.find?_cons,e]
theorem zep {p:κ×V} {r:List (κ×V)} {k:κ} (e:¬p.1=k):valV (p::r) k=valV r k:=by simp [valV,List.find?_cons,e]
theorem RelO.isSome_eq {o:Option V} {u:Option Value} (r:RelO o u):o.isSome=u.isSome:=by
 cases o with
 | none=>cases u with
   | none=>rfl
   | some _=>exact (show False from r).elim
 | some _=>cases u with
   | none=>exact (show False from r).elim
   | some _=>rfl
theorem KV.val {kvs:List (κ×V)} {vs:List (κ×Value)} (r:KV kvs vs) (k:κ):RelO (valV kvs k) (valueAt vs k):=by
 unfold KV at r
 induction r with
 | nil=>exact True.intro
 | @cons p q ps qs h t ih =>
   obtain ⟨h1,h2⟩:=h
   by_cases e:p.1=k
   ·have e':q.1=k:=h1.symm.trans e;have b:valueAt (q::qs) k=some q.2:=by simp [valueAt,List.find?_cons,e']
    rw [zeo e,b];exact h2
   ·have e':¬q.1=k:=fun z=>e (h1.trans z);have b:valueAt (q::qs) k=valueAt qs k:=by simp [valueAt,List.find?_cons,e']
    rw [zep e,b];exact ih
end
theorem zg5 {P:Program} {w:World} {k:Key} {u:Value} (r:RelV (kV k) u):(zbc P w).is k u=true:=by
 cases k with
 | inl i=>obtain ⟨t,e⟩:=(show ∃ t,u=Value.int i t from r);subst e;exact zdY P w i t
 | inr x=>obtain ⟨t,e⟩:=(show ∃ t,u=Value.str x t from r);subst e;exact zdZ P w x t
theorem zdB {P:Program} {w:World}:∀ {ks:List Key} {us:List Value},Vals (ks.map kV) us→ItemsAre (zbc P w) ks us
 | [],_,r=>by rw [List.map_nil] at r;cases r;exact .nil
 | k::ks,_,r=>by
   rw [List.map_cons] at r
   cases r with
   | cons h t=>exact .cons (zg5 h) (zdB t)
abbrev KT (H:Hp):List (List Key×V)→List (List Key×Addr×Value)→Prop:=Paired fun p q=>p.1=q.1∧H q.2.1=some (.tup (p.1.map kV))∧RelV p.2 q.2.2
theorem KT.val {H:Hp} {kvs:List (List Key×V)} {xs:List (List Key×Addr×Value)} (r:KT H kvs xs) (k:List Key):RelO (valV kvs k) ((atKey xs k).map (·.2)):=by
 induction r with
 | nil=>exact True.intro
 | @cons p q ps qs h t ih =>
   obtain ⟨h1,_,h2⟩:=h
   by_cases e:p.1=k
   ·have e':q.1=k:=h1.symm.trans e;have b:atKey (q::qs) k=some q.2:=by simp [atKey,List.find?_cons,e']
    rw [zeo e,b];exact h2
   ·have e':¬q.1=k:=fun z=>e (h1.trans z);have b:atKey (q::qs) k=atKey qs k:=by simp [atKey,List.find?_cons,e']
    rw [zep e,b];exact ih
section
variable {P:Program} {w:World} {H:Hp} {h:Heap} {a:Addr}
theorem zhY {u:HO} (ok:HOk P w H h) (e:Rd H a u):za5 P w H h a u:=e.ok ok
theorem zg6 {kvs:List (Key×V)} (ok:HOk P w H h) (e:Rd H a (.dK kvs)):kvs.length≤sizeLine∧(a == sysModules)=false∧∃ vs,KV kvs vs∧h.DictOf (zbc P w) a vs :=
 show za5 P w H h a (.dK kvs) from zhY ok e
theorem zfr {ks:List Key} (ok:HOk P w H h) (e:H a=some (.tup (ks.map kV))):(tupleKind (zbc P w)).is h ks a:=by
 obtain ⟨_,its,r,o,h1,h2,n,h3⟩:=(show za5 P w H h a (.tup (ks.map kV)) from ok a _ e)
 exact ⟨o,its.toArray,n,h1,h2,h3,by simpa using zdB r⟩
theorem zg7 {kvs:List (List Key×V)} (ok:HOk P w H h) (e:Rd H a (.dT kvs)):kvs.length≤sizeLine∧(a == sysModules)=false ∧
  ∃ xs,KT H kvs xs∧h.DictOfH (tupleKind (zbc P w)) a xs:=by
 obtain ⟨z,y,xs,r,o,es,ep,h1,h2,h3,h4,h5⟩:=(show za5 P w H h a (.dT kvs) from zhY ok e)
 refine ⟨z,y,xs,r,o,es,ep,h1,h2,h3,h4,fun x hx=>?_,h5⟩;have all:∀ {l:List (List Key×V)} {m:List (List Key×Addr×Value)},KT H l m→∀ x∈m,(tupleKind (zbc P w)).is h x.1 x.2.1:=by
  intro l m q
  induction q with
  | nil=>intro x hx;exact nomatch hx
  | @cons p q ps qs hq t ih =>
    intro x hx;rcases List.mem_cons.mp hx with e | hx
    ·subst e;exact zfr ok (by rw [← hq.1];exact hq.2.1)
    ·exact ih x hx
 exact all r x hx
end
def DGet (H:Hp) (a:Addr) (y:V) (r:Option V):Prop :=
 (∃ kvs k,Rd H a (.dK kvs)∧y=kV k∧r=valV kvs k)∨∃ kvs k b,Rd H a (.dT kvs)∧y=.ref b∧H b=some (.tup (k.map kV))∧r=valV kvs k
theorem DGet.k {H:Hp} {a:Addr} {kvs:List (Key×V)} {k:Key} (e:H a=some (.dK kvs)):DGet H a (kV k) (valV kvs k):=.inl ⟨kvs,k,.inl e,rfl,rfl⟩
section
variable {X:Cx} {pins:List (Addr×Obj)} {σ:St} {H:Hp} {s:Shared} {a:Addr} {y v:V} {u r:Value} {o:Option V} {A:Around} {E:Value→Shared→Prop}
theorem zfs {Q:Value→Shared→Prop} (hu:A.units+1 < cLine) (I:Inv X pins σ H s) (g:DGet H a y (some v)) (ry:RelV y u) (h:∀ w' s',Inv X pins σ H s'→RelV v w'→Q w' s') :
  wpAny (model X.prog X.w) A (getItem (.ref a) u) Q E s:=by
 rcases g with ⟨kvs,k,e,ey,l⟩ | ⟨kvs,k,b,e,ey,eb,l⟩
 ·subst ey;obtain ⟨z,hd,vs,rel,dd⟩:=zg6 I.hok e;obtain ⟨w',hw,rw'⟩:=RelO.some_of (v:=v) (o:=valueAt vs k) (by rw [l];exact rel.val k);exact wpAny_getItem_of (zg5 ry) dd.mapOf hw (h w' _ (I.tok _) rw')
 ·subst ey
  cases (show u=Value.ref b from ry)
  obtain ⟨z,hd,xs,rel,dd⟩:=zg7 I.hok e;obtain ⟨w',hw,rw'⟩:=RelO.some_of (v:=v) (o:=(atKey xs k).map (·.2)) (by rw [l];exact rel.val k);obtain ⟨p,hp,hp2⟩:=Option.map_eq_some_iff.mp hw;refine wpAny_getItem_heap (tupleKind_room_in1 hu) (zfr I.hok eb) dd hp ?_;rw [hp2];exact h w' _ (I.tok _) rw'
theorem zg8 {Q:Value→Shared→Prop} (hu:A.units+1 < cLine) (I:Inv X pins σ H s) (g:DGet H a y o) (ry:RelV y u) (h:∀ s',Inv X pins σ H s'→Q (.bool (!o.isSome)) s') :
  wpAny (model X.prog X.w) A (compareOp .NotIn u (.ref a)) Q E s:=by
 rcases g with ⟨kvs,k,e,ey,l⟩ | ⟨kvs,k,b,e,ey,eb,l⟩
 ·subst ey;obtain ⟨z,hd,vs,rel,dd⟩:=zg6 I.hok e;refine wpAny_notIn_of (zg5 ry) hd dd.mapOf ?_;rw [← (rel.val k).isSome_eq,← l];exact h _ (I.tok _)
 ·subst ey
  cases (show u=Value.ref b from ry)
  obtain ⟨z,hd,xs,rel,dd⟩:=zg7 I.hok e;refine wpAny_notIn_heap (tupleKind_room_in1 hu) (zfr I.hok eb) hd dd ?_;have q:=(rel.val k).isSome_eq;rw [Option.isSome_map] at q;rw [← q,← l];exact h _ (I.tok _)
end
section
variable {X:Cx} {pins:List (Addr×Obj)} {σ:St} {H:Hp} {s:Shared} {a:Addr} {kvs:List (Key×V)} {k:Key} {u:Value} {A:Around} {E:Value→Shared→Prop}
end
def NoSl (i:Expr):Prop:=∀ ov iv,subscripted i false ov iv=operate [ov,iv] (getItem ov iv)
theorem zg9 {prog:Program} {w:World} {A:Around} {E:Value→Shared→Prop} {s:Shared} {env:Env} {value slice:Expr} {pos:Pos} {T id:String} {Q:Value→Shared→Prop}
  (hl:typeLookup (.type T) "__getitem__" = pure (some (.builtin id))) (hs:NoSl slice)
  (h:wpAny (model prog w) A (eval value env) (fun o s₁=>wpAny (model prog w) A (eval slice env) (fun i s₂=>s₂.TypeIs o T∧wpAny (model prog w) A (getItem o i) Q E s₂) E s₁) E s) :
  wpAny (model prog w) A (eval (.Subscript value slice pos) env) Q E s:=by
 refine Subscript_ (wpAny_mono h (fun o s₁ h₁=>wpAny_mono h₁ (fun i s₂ h₂=>?_) fun _ _ x=>x) fun _ _ x=>x);obtain ⟨hT,h₂⟩:=h₂;unfold subscriptTail;refine wpAny_bind ?_;rw [getitemInPython_of_ne hT.not_modules];refine wpAny_bind (wpAny_specialOf hT hl ?_);have fin:wpAny (model prog w) A (subscripted slice false o i) (fun r s₃=>wpAny (model prog w) A (letTemporaryGo value o r >>= fun _=>pure r) Q E s₃) E s₂:=by
  rw [hs o i];exact wpAny_operating (wpAny_mono h₂ (fun r s₃ h₃=>wpAny_bind (wpAny_letTemporaryGo (wpAny_pure h₃))) fun _ _ x=>x)
 first
  | exact wpAny_pure (wpAny_bind fin)
  | exact wpAny_bind (wpAny_pure (wpAny_bind fin))
  | exact wpAny_bind fin
theorem zd3 {X:Cx} {pins:List (Addr×Obj)} {σ:St} {H:Hp} {s:Shared} {a:Addr} {y:V} {o:Option V} (I:Inv X pins σ H s) (g:DGet H a y o):s.TypeIs (.ref a) "dict":=by
 rcases g with ⟨kvs,k,e,_,_⟩ | ⟨kvs,k,b,e,_,_,_⟩
 ·obtain ⟨_,_,vs,_,dd⟩:=zg6 I.hok e;exact dd.typeIs
 ·obtain ⟨_,_,xs,_,dd⟩:=zg7 I.hok e;exact dd.typeIs
def zhZ (td ty:TE):TE:=fun σ H Q=>td σ H fun x H1=>ty σ H1 fun y H2=>∃ a v,x=.ref a∧DGet H2 a y (some v)∧Q v H2
def zft (ty td:TE):TE:=fun σ H Q=>ty σ H fun y H1=>td σ H1 fun x H2=>∃ a o,x=.ref a∧DGet H2 a y o∧Q (.bl (!o.isSome)) H2
section
variable {X:Cx} {o i e value:Expr} {pos pos' tpos:Pos} {td ty tv:TE}
theorem zha (hu:X.A.units+1 < cLine) (ho:PE X o td) (hi:PE X i ty) (hs:NoSl i):PE X (.Subscript o i pos) (zhZ td ty):=by
 intro pins s σ H Q I h;refine zg9 PySem.F.slot_dict_getitem.lookup hs (thn (ho pins s σ H _ I h) fun u s1 ⟨x,H1,I1,rx,q1⟩=>thn (hi pins s1 σ H1 _ I1 q1) fun iv s2 ⟨y,H2,I2,ry,a,v,ex,g,q2⟩=>?_);subst ex;obtain rfl:u=Value.ref a:=rx;exact ⟨zd3 I2 g,zfs hu I2 g ry fun w' s3 I3 rw'=>⟨v,H2,I3,rw',q2⟩⟩
theorem zfu (hu:X.A.units+1 < cLine) (hi:PE X i ty) (ho:PE X o td):PC X .NotIn i o (zft ty td):=by
 intro pins s σ H Q I h;refine thn (hi pins s σ H _ I h) fun iv s1 ⟨y,H1,I1,ry,q1⟩=>thn (ho pins s1 σ H1 _ I1 q1) fun u s2 ⟨x,H2,I2,rx,a,ov,ex,g,q2⟩=>?_;subst ex;obtain rfl:u=Value.ref a:=rx;exact zg8 hu I2 g ry fun s3 I3=>⟨.bl (!ov.isSome),H2,I3,rfl,q2⟩
end
section
variable {X:Cx} {pos:Pos}
end
end L2
namespace L2
open PySem PySem.Spec PyProof.Rows
section
variable {prog:Program} {w:World} {A:Around} {R:Result -> Shared -> Prop} {s:Shared}
theorem zdC {elt target iter:Expr} {ifs:List Expr} {scope:Scope} {pos:Pos} {it acc:Value} {env:Env} (I:Nat→Shared→Prop)
  (turn:∀ n s,I n s→wpAny (model prog w) A (pyNext it) (fun r s1=>match r with
   | none=>R (.ok .next) s1
   | some v=>wpAny (model prog w) A (letOwnedTupleGo target it v) (fun _ s1'=>wpAny (model prog w) A (assign target env v) (fun _ s2 =>
      wpAny (model prog w) A (forIn ifs true fun c r=>if r=true then do let ok ← isTrue c env (eval c env);pure (ForInStep.yield ok) else pure (ForInStep.yield r)) (fun ok s3 =>
       if ok=true then wpAny (model prog w) A (eval elt env) (fun x s4 =>
        wpAny (model prog w) A (call (.builtin "list.append") [acc,x]) (fun _ s5=>∃ m,m < n∧I m s5) (fun _ _=>False) s4) (fun _ _=>False) s3
       else ∃ m,m < n∧I m s3) (fun _ _=>False) s2) (fun _ _=>False) s1') (fun _ _=>False) s1) (fun _ _=>False) s)
  (n:Nat) (h:I n s) :
  codeAny (model prog w) A (.compLoop (.ListComp elt [⟨target,iter,ifs,0⟩] scope pos) 0 it acc env) R s:=by
 refine codeAny_loop rfl I (fun n s hI=>?_) n h;show wpAny _ A ((compTurn (.ListComp elt [⟨target,iter,ifs,0⟩] scope pos) 0 it acc env).onRaise (fun x=>do noteFrame x env;theTreesLotGoes x)) _ _ s;refine wpAny_noted ?_;rw [compTurn_list];refine wpAny_bind (wpAny_standAt (wpAny_bind (wpAny_mono (turn n s hI) (fun r s1 h1=>?_) fun _ _ z=>z.elim)))
 cases r with
 | none=>exact wpAny_pure h1
 | some v =>
   refine wpAny_bind (wpAny_mono h1 (fun _ s1' h1'=>?_) fun _ _ z=>z.elim);refine wpAny_bind (wpAny_mono h1' (fun _ s2 h2=>wpAny_bind (wpAny_mono h2 (fun ok s3 h3=>?_) fun _ _ z=>z.elim)) fun _ _ z=>z.elim)
   cases ok with
   | false=>exact wpAny_pure ⟨rfl,h3⟩
   | true =>
     exact wpAny_bind (wpAny_bind (wpAny_mono h3 (fun x s4 h4=>wpAny_bind (wpAny_mono h4 (fun _ s5 h5=>wpAny_pure (wpAny_pure ⟨rfl,h5⟩)) fun _ _ z=>z.elim)) fun _ _ z=>z.elim))
end
def PTs (X:Cx) (ifs:List Expr) (t:TT):Prop :=
 ∀ (pins:List (Addr×Obj)) (s:Shared) (σ:St) (H:Hp) (Q:Bool→Hp→Prop),Inv X pins σ H s→t σ H Q →
  wpAny (model X.prog X.w) X.A (forIn ifs true fun c r=>if r=true then do let ok ← isTrue c X.env (eval c X.env);pure (ForInStep.yield ok) else pure (ForInStep.yield r)) (TP X pins σ Q) X.xe s
def tTT:TT:=fun _ H Q=>Q true H
theorem zbu {X:Cx}:PTs X [] tTT:=fun pins s σ H Q I h=>wpAny_tests_nil ⟨H,I,h⟩
theorem zfv {X:Cx} {c:Expr} {t:TT} (h:PT X c t):PTs X [c] t:=fun pins s σ H Q I q=>wpAny_tests_one (h pins s σ H Q I q)
def Cx.comp (X:Cx) (scope:Scope) (cl:List (Str×Addr)) (C:Addr) (N:List Str) (s:Shared) (H:Hp) (fp:List Addr):Cx where
 prog:=X.prog
 w:=X.w
 K:=X.K
 mg:=X.mg
 base:=X.base
 A:=X.A
 N:=N
 s₀:=s
 H₀:=H
 env:=compEnvC scope cl C X.env
 outer:=X.stack
 stack:=X.stack
 ex:=fp
 fn:=fun _=>false
 calm:=X.calm
 pn:=[]
 xe:=fun _ _=>False
def zaS (names:List (Str×NameKind)) (env:Env) (acc:List (Str×Addr)):List (Str×Addr) :=
 names.foldl (fun cs x=>if x.2 == .free then match env.cells.lookup x.1 with | some c=>(x.1,c)::cs | none=>cs else cs) acc
theorem zb1 {scope:Scope} {env:Env} (h:∀ x∈scope.names,x.2=.free→∃ c,env.cells.lookup x.1=some c):closureFor scope env=pure (zaS scope.names env []):=by
 have go:∀ (names:List (Str×NameKind)) (acc:List (Str×Addr)),(∀ x∈names,x.2=.free→∃ c,env.cells.lookup x.1=some c) →
   (forIn (m:=Sem) names acc fun x r=>if (x.2 == NameKind.free)=true then do let y ← cellOf env x.1;pure (ForInStep.yield ((x.1,y)::r)) else pure (ForInStep.yield r))=pure (zaS names env acc):=by
  intro names
  induction names with
  | nil=>intro acc _;rfl
  | cons x r ih =>
    intro acc hx;obtain ⟨n,k⟩:=x;rw [List.forIn_cons];have ihr:=fun acc=>ih acc fun y hy=>hx y (List.mem_cons_of_mem _ hy)
    by_cases hk:k=.free
    ·subst hk;obtain ⟨c,hc⟩:=hx (n,.free) List.mem_cons_self rfl;have e:cellOf env n=pure c:=by unfold cellOf;rw [show env.cells.lookup n=some c from hc]
     have e2:zaS ((n,NameKind.free)::r) env acc=zaS r env ((n,c)::acc):=by
      unfold zaS;rw [List.foldl_cons];simp only [beq_self_eq_true,if_true];rw [show env.cells.lookup n=some c from hc]
     rw [e2,← ihr];simp only [beq_self_eq_true,if_true,e,pure_bind]
    ·have hb:(k == NameKind.free)=false:=by simpa using hk
     have e2:zaS ((n,k)::r) env acc=zaS r env acc:=by
      unfold zaS;rw [List.foldl_cons];simp only [hb,Bool.false_eq_true,if_false]
     rw [e2,← ihr];simp only [hb,Bool.false_eq_true,if_false,pure_bind]
 unfold closureFor;have:=go scope.names [] h;simp only [pure_bind,bind_pure] at this ⊢;exact this
theorem zcY {env:Env}:∀ (names:List (Str×NameKind)) (acc:List (Str×Addr)),(∀ x c,acc.lookup x=some c→env.cells.lookup x=some c)→∀ x c,(zaS names env acc).lookup x=some c→env.cells.lookup x=some c:=by
 intro names
 induction names with
 | nil=>intro acc h x c e;exact h x c e
 | cons y r ih =>
   intro acc h x c e;unfold zaS at e;rw [List.foldl_cons] at e;refine ih _ ?_ x c e;intro z d hz
   by_cases hk:(y.2 == NameKind.free)=true
   ·rw [if_pos hk] at hz
    cases hc:env.cells.lookup y.1 with
    | none=>rw [hc] at hz;exact h z d hz
    | some a =>
      rw [hc] at hz;simp only [List.lookup_cons] at hz
      by_cases hzy:(z == y.1)=true
      ·rw [hzy] at hz;have:z=y.1:=by simpa using hzy
       rw [this,hc];exact hz
      ·have:(z == y.1)=false:=by simpa using hzy
       rw [this] at hz;exact h z d hz
   ·rw [if_neg hk] at hz;exact h z d hz
theorem zcZ {env:Env}:∀ (names:List (Str×NameKind)) (acc:List (Str×Addr)) (x:Str),((∃ c,acc.lookup x=some c)∨((x,NameKind.free)∈names∧∃ c,env.cells.lookup x=some c))→∃ c,(zaS names env acc).lookup x=some c:=by
 intro names
 induction names with
 | nil=>intro acc x h;rcases h with h | h;exact h;exact absurd h.1 (by simp)
 | cons y r ih =>
   intro acc x h;unfold zaS;rw [List.foldl_cons];refine ih _ x ?_
   by_cases hk:(y.2 == NameKind.free)=true
   ·rw [if_pos hk]
    cases hc:env.cells.lookup y.1 with
    | none =>
      rcases h with h | ⟨h,h2⟩
      ·exact .inl h
      ·rcases List.mem_cons.mp h with e | e
       ·subst e;rw [hc] at h2;obtain ⟨_,h2⟩:=h2;cases h2
       ·exact .inr ⟨e,h2⟩
    | some a =>
      simp only [List.lookup_cons]
      by_cases hzy:(x == y.1)=true
      ·exact .inl ⟨a,by rw [hzy]⟩
      ·have hf:(x == y.1)=false:=by simpa using hzy
       rw [hf];rcases h with h | ⟨h,h2⟩
       ·exact .inl h
       ·rcases List.mem_cons.mp h with e | e
        ·subst e;simp at hf
        ·exact .inr ⟨e,h2⟩
   ·rw [if_neg hk];rcases h with h | ⟨h,h2⟩
    ·exact .inl h
    ·rcases List.mem_cons.mp h with e | e
     ·subst e;simp at hk
     ·exact .inr ⟨e,h2⟩
def capS (own:Nat) (js:List Nat) (σ:St):St:=List.replicate own none++js.map fun j=>(σ[j]?).getD none
def zeH (wi:TI) (own:Nat) (js:List Nat) (g:TG) (tc:TT) (te:TE):TE:=fun σ H Q=>wi σ H fun J H1=>∀ p,H1 p=none →
 ∃ W:Nat→Nat→St→Hp→Prop,(∃ m,W 0 m (capS own js σ) (upd H1 p (.lst [])))∧∀ i m σc H,W i m σc H →
  (J.stop i H∧Q (.ref p) H)∨(J.go i H∧∃ N:St→Hp→Prop,(∀ σ' H',N σ' H'→∃ m',m' < m∧W (i+1) m' σ' H')∧∀ x H',J.yld i H x H' →
   g x σc H' fun σ2 H2=>tc σ2 H2 fun b H3=>if b=true then te σ2 H3 fun v H4=>∃ ys,H4 p=some (.lst ys)∧ys.length < sizeLine∧N σ2 (upd H4 p (.lst (ys++[v]))) else N σ2 H3)
structure zbF (X:Cx) (scope:Scope) (N:List Str) (own:Nat) (js:List Nat):Prop where
 kind:scope.kind=.function
 nocell:∀ y∈scope.names,y.2≠.cell
 nodup:∀ y∈scope.names,y.2=.local→scope.names.lookup y.1=some .local
 free:∀ y∈scope.names,y.2=.free→X.env.kindOf y.1=some .cell∨X.env.kindOf y.1=some .free
 len:N.length=own+js.length
 cap:∀ (i:Nat) (j:Nat),js[i]? = some j→N[own+i]? = X.N[j]?∧∀ x,X.N[j]? = some x→scope.names.lookup x=some .free∧Vis X.env.scope x∧X.env.kindOf x≠some .local
section
variable {X:Cx} {tg elt iter:Expr} {ifs:List Expr} {scope:Scope} {pos:Pos} {N:List Str} {own:Nat} {js:List Nat} {wi:TI} {g:TG} {tc:TT} {te:TE}
theorem zbl {env:Env} {names:List (Str×NameKind)} {x:Str} {k:NameKind} (hk:k=.cell∨k=.free) (hnc:∀ y∈names,y.2≠.cell)
  (h:(names.map fun (n,k)=>if (k == NameKind.free && env.scope.kind == .function && env.kindOf n == some .cell) then (n,NameKind.cell) else (n,k)).lookup x=some k):(x,NameKind.free)∈names:=by
 have:=PySem.mem_of_lookup h;obtain ⟨⟨n,k'⟩,hm,e⟩:=List.mem_map.mp this;dsimp only at e;split at e
 ·rename_i hc
  cases e
  have:k'=.free:=by
   simp only [Bool.and_eq_true,beq_iff_eq] at hc;exact hc.1.1
  rw [← this];exact hm
 ·cases e
  rcases hk with rfl | rfl
  ·exact absurd rfl (hnc _ hm)
  ·exact hm
theorem za2 {env:Env}:∀ {names:List (Str×NameKind)} {x:Str},names.lookup x=some .free →
  (names.map fun (n,k)=>if (k == NameKind.free && env.scope.kind == .function && env.kindOf n == some .cell) then (n,NameKind.cell) else (n,k)).lookup x=some .local→False
 | [],_,h,_=>by simp at h
 | (n,k)::r,x,h,h'=>by
  have ih:=@za2 env r x
  cases hx:x == n with
  | true =>
    simp only [List.lookup_cons,hx] at h
    cases h
    rw [List.map_cons] at h';dsimp only at h';split at h' <;> simp [List.lookup_cons,hx] at h'
  | false =>
    simp only [List.lookup_cons,hx] at h;rw [List.map_cons] at h';dsimp only at h';split at h' <;> simp only [List.lookup_cons,hx] at h' <;> exact ih h h'
theorem zgh {pins:List (Addr×Obj)} {σ:St} {H:Hp} {s:Shared} {fp:List Addr} {h1:Heap} (S:zbF X scope N own js) (I:Inv X pins σ H s) (hf:∀ b∈fp,FpOk X pins H b) (hfo:∀ b∈fp,b < s.heap.objs.size)
  (C p:Addr) (hp:p=s.heap.objs.size) (hC:C=s.heap.objs.size+1) (hns:h1.Ns C fun _=>none) (hkeep:∀ b o,s.heap.get? b=some o→h1.get? b=some o)
  (hacc:h1.get? p=some { cls:=.type "list",data:=.seq #[] 0 }) (tk:Nat) :
  Inv (X.comp scope (zaS scope.names X.env []) C N s H fp) [] (capS own js σ) (upd H p (.lst [])) { s with heap:=h1,toks:=tk }:=by
 have sub:=zcY (env:=X.env) scope.names [] (fun x c e=>by simp at e);have hHp:H p=none:=I.hok.fresh (by rw [hp];exact Nat.le_refl _);have hHC:H C=none:=I.hok.fresh (by rw [hC];exact Nat.le_succ _);have hpC:C≠p:=by rw [hp,hC];exact Nat.succ_ne_self _
 have cellLt:∀ x c,X.env.cells.lookup x=some c→c < s.heap.objs.size:=fun x c e=>by
  obtain ⟨v,q⟩:=I.cell x c e;exact q.lt
 have nop:∀ q:Addr×Obj,q∉(X.comp scope (zaS scope.names X.env []) C N s H fp).pn++([]:List (Addr×Obj)):=fun q z=>absurd (show q∈([]:List (Addr×Obj)) from z) (by simp);refine ⟨⟨I.ok.mod,S.kind,I.ok.glob,I.ok.blt,by rw [show (X.comp scope (zaS scope.names X.env []) C N s H fp).env.locals=C from rfl,hC];exact Nat.le_succ _,?_,?_,fun y c z=>absurd (show false=true from z) (by decide),I.ok.hd,I.ok.frames,.inl rfl,?_,fun b o e=>I.bs b o e,Nat.le_trans I.ok.bsz I.sz,?_,?_,I.stack,I.stkFree⟩,
  rfl,I.bare,Un.laid hkeep (by rw [hp];exact Nat.le_refl _) hHp,⟨_,hns,?_⟩,?_,?_,?_,fun q hq=>absurd hq (nop q),?_,?_⟩
 ·intro x y c e1 e2;exact I.ok.inj x y c (sub x c e1) (sub y c e2)
 ·intro x hx;have hm:(x,NameKind.free)∈scope.names:=by
   rcases hx with hx | hx
   ·exact zbl (.inl rfl) S.nocell hx
   ·exact zbl (.inr rfl) S.nocell hx
  exact zcZ scope.names [] x (.inr ⟨hm,I.ok.has x (S.free _ hm rfl)⟩)
 ·intro b hb;obtain ⟨f0,f1,f2,f3,f4,f5⟩:=hf b hb;refine ⟨fun e=>?_,fun x c e=>f4 x c (sub x c e)⟩;have e':b=C:=e;have:=hfo b hb;rw [e',hC] at this;exact absurd this (Nat.not_lt.mpr (Nat.le_succ _))
 ·intro b o e hb;obtain ⟨f0,f1,f2,f3,f4,f5⟩:=hf b hb;rcases f3 with z | z
  ·exact I.ok.noex b o e z
  ·exact absurd (Nat.lt_of_lt_of_le (Heap.lt_size (I.ok.bs b o e).1) z) (Nat.lt_irrefl _)
 ·intro b hb z;obtain ⟨f0,f1,f2,f3,f4,f5⟩:=hf b hb;rcases List.mem_cons.mp (I.stkSub b z) with e | e
  ·exact f1 e
  ·exact f2 e
 ·intro i x v h1' h2 h3;have hlen:(capS own js σ).length=own+js.length:=by simp [capS]
  have hio:own≤i:=by
   by_cases hi:i < own
   ·unfold capS at h2;rw [List.getElem?_append_left (by simpa using hi),List.getElem?_replicate,if_pos hi] at h2
    cases h2
   ·omega
  obtain ⟨k,rfl⟩:∃ k,i=own+k:=⟨i-own,by omega⟩
  have e1:(js.map fun j=>(σ[j]?).getD none)[k]? = some (some v):=by
   unfold capS at h2;rw [List.getElem?_append_right (by simp)] at h2;simpa using h2
  rw [List.getElem?_map] at e1
  cases ej:js[k]? with
  | none=>rw [ej] at e1;cases e1
  | some j =>
    rw [ej] at e1;have e2:(σ[j]?).getD none=some v:=Option.some.inj e1;have e3:σ[j]? = some (some v):=by
     cases q:σ[j]? with
     | none=>rw [q] at e2;cases e2
     | some z=>rw [q] at e2;exact congrArg some e2
    obtain ⟨c1,c2⟩:=S.cap k j ej;have hN:X.N[j]? = some x:=by rw [← c1];exact h1'
    obtain ⟨d1,d2,d3⟩:=c2 x hN;obtain ⟨m,_,hl⟩:=I.loc;obtain ⟨u,r,l⟩:=hl j x v hN e3 d2;refine ⟨u,r,?_⟩;rcases l with ⟨l,_⟩ | ⟨_,c,ec,o,ho,hd⟩
    ·exact absurd l d3
    ·obtain ⟨c',hc'⟩:=zcZ (env:=X.env) scope.names [] x (.inr ⟨PySem.mem_of_lookup d1,c,ec⟩);have e4:=sub x c' hc';rw [ec] at e4
     cases e4
     refine .inr ⟨?_,c,hc',o,hkeep c o ho,hd⟩;rcases h3 with z | z | z
     ·exact (za2 d1 z).elim
     ·exact .inl z
     ·exact .inr z
 ·intro x c e;obtain ⟨v,o,ho,hd⟩:=I.cell x c (sub x c e);exact ⟨v,o,hkeep c o ho,hd⟩
 ·rw [show (X.comp scope (zaS scope.names X.env []) C N s H fp).env.locals=C from rfl,zau hpC];exact hHC
 ·intro x c e;rw [zau (by rw [hp];exact Nat.ne_of_lt (cellLt x c (sub x c e)))];exact I.freeC x c (sub x c e)
 ·exact I.hok.laid hkeep (by rw [hp];exact Nat.le_refl _) ⟨Nat.zero_le _,[],0,.nil,hacc⟩
 ·show (capS own js σ).length=N.length;rw [S.len];simp [capS]
theorem zc0 {pins:List (Addr×Obj)} {σ:St} {H:Hp} {s:Shared} {E:Value→Shared→Prop} {it:Addr} {fp:List Addr} {tn:Nat→Heap→Prop} {J:It} {Q:VK} {RR:Value→Addr→Result→Shared→Prop}
  (S:zbF X scope N own js) (hc:X.calm=true) (I:Inv X pins σ H s) (T:Turn X.prog X.w X.K tg J fp it tn) (st:tn 0 s.heap) (hf:∀ b∈fp,FpOk X pins H b)
  (hg:∀ cl C s H fp,PG (X.comp scope cl C N s H fp) tg g) (hts:∀ cl C s H fp,PTs (X.comp scope cl C N s H fp) ifs tc) (he:∀ cl C s H fp,PE (X.comp scope cl C N s H fp) elt te)
  (hq:∀ p,H p=none→∃ W:Nat→Nat→St→Hp→Prop,(∃ m,W 0 m (capS own js σ) (upd H p (.lst [])))∧∀ i m σc H,W i m σc H →
   (J.stop i H∧Q (.ref p) H)∨(J.go i H∧∃ N:St→Hp→Prop,(∀ σ' H',N σ' H'→∃ m',m' < m∧W (i+1) m' σ' H')∧∀ x H',J.yld i H x H' →
    g x σc H' fun σ2 H2=>tc σ2 H2 fun b H3=>if b=true then te σ2 H3 fun v H4=>∃ ys,H4 p=some (.lst ys)∧ys.length < sizeLine∧N σ2 (upd H4 p (.lst (ys++[v]))) else N σ2 H3))
  (hRR:∀ p C s' H' m,C=s.heap.objs.size+1→s'.heap.Ns C m→Inv X pins σ H' s'→H' C=none→Q (.ref p) H'→RR (.ref p) C (.ok .next) s') :
  wpAny (model X.prog X.w) X.A (newList []) (fun acc s3=>wpAny (model X.prog X.w) X.A (newFunctionEnv scope X.env.globals (zaS scope.names X.env []) [] X.env.qual none .none (some X.env)) (fun cenv s4 =>
   codeAny (model X.prog X.w) X.A (.compStart (.ListComp elt [⟨tg,iter,ifs,0⟩] scope pos) 0 (.ref it) acc { cenv with scope:=relabel scope X.env }) (RR acc cenv.locals) s4) E s3) E s:=by
 refine wpAny_newObj_type (wpAny_newFunctionEnv S.nocell (by intro y hy;simp at hy) (fun h1 hns1 hsb1=>?_) S.kind);dsimp only at hns1 hsb1 ⊢;generalize hH2:s.heap.push { cls:=.type "list",dict:=none,data:=.seq ([]:List Value).toArray }=H2 at hns1 hsb1 ⊢;have hC:H2.objs.size=s.heap.objs.size+1:=by rw [← hH2,Heap.size_push]
 have old:∀ b o,s.heap.get? b=some o→h1.get? b=some o:=fun b o e=>hsb1.extBut b o (by rw [hC];exact Nat.ne_of_lt (Nat.lt_succ_of_lt (Heap.lt_size e))) (Heap.get?_push_of_some _ (hH2▸Heap.get?_push_of_some _ e));have hacc:h1.get? s.heap.objs.size=some { cls:=.type "list",data:=.seq #[] 0 }:=hsb1.extBut _ _ (by rw [hC];exact Nat.ne_of_lt (Nat.lt_succ_self _)) (Heap.get?_push_of_some _ (hH2▸Heap.get?_push_size _ rfl));have hfo:∀ b∈fp,b < s.heap.objs.size:=fun b hb=>by
  obtain ⟨o,e,_⟩:=T.obj 0 _ st b hb;exact Heap.lt_size e
 have st1:tn 0 h1:=T.keep _ _ _ st fun b _ o e=>old b o e;have I0:=zgh (fp:=fp) S I hf hfo H2.objs.size s.heap.objs.size rfl hC hns1 old hacc (s.toks+([]:List (Str×Value)).length);have hHp:H s.heap.objs.size=none:=I.hok.fresh (Nat.le_refl _);obtain ⟨W,⟨m0,w0⟩,turn⟩:=hq _ hHp;generalize hX:X.comp scope (zaS scope.names X.env []) H2.objs.size N s H fp=Y at I0;have eY:(Y.prog=X.prog∧Y.w=X.w∧Y.K=X.K∧Y.calm=true∧Y.A=X.A)∧Y.env=compEnvC scope (zaS scope.names X.env []) H2.objs.size X.env∧Y.fs=frs X.stack∧Y.ex=fp∧Y.s₀=s∧Y.H₀=H∧Y.pn=[]:=by
  subst hX;exact ⟨⟨rfl,rfl,rfl,hc,rfl⟩,rfl,rfl,rfl,rfl,rfl,rfl⟩
 have hgY:PG Y tg g:=by subst hX;exact hg _ _ _ _ _
 have htY:PTs Y ifs tc:=by subst hX;exact hts _ _ _ _ _
 have heY:PE Y elt te:=by subst hX;exact he _ _ _ _ _
 have hxe:Y.xe=fun _ _=>False:=by subst hX;rfl
 obtain ⟨⟨e1,e2,e3,e4,e5⟩,e6,e7,e8,e9,e10,e11⟩:=eY;have sub:=zcY (env:=X.env) scope.names [] (fun x c e=>by simp at e);have stat:∀ {H':Hp},(∀ b∈fp,H' b=none)→∀ b∈fp,FpOk Y [] H' b:=fun {H'} hn b hb=>by
  refine ⟨hn b hb,?_,?_,.inl (by rw [e8];exact hb),?_,?_⟩
  ·rw [e6];show b≠H2.objs.size;rw [hC];exact Nat.ne_of_lt (Nat.lt_succ_of_lt (hfo b hb))
  ·rw [e7];intro z;rcases List.mem_cons.mp (I.stkSub b z) with e | e
   ·exact (hf b hb).2.1 e
   ·exact (hf b hb).2.2.1 e
  ·intro x c e;rw [e6] at e;exact (hf b hb).2.2.2.2.1 x c (sub x c e)
  ·intro q hq;rw [e11] at hq;exact absurd hq (by simp)
 have noT:∀ b∈fp,b≠s.heap.objs.size:=fun b hb=>Nat.ne_of_lt (hfo b hb);have loop:∀ s3:Shared,s3={ s with heap:=h1,toks:=s.toks+([]:List (Str×Value)).length } →
   codeAny (model X.prog X.w) X.A (.compLoop (.ListComp elt [⟨tg,iter,ifs,0⟩] scope pos) 0 (.ref it) (.ref s.heap.objs.size) (compEnvC scope (zaS scope.names X.env []) H2.objs.size X.env))
    (RR (.ref s.heap.objs.size) H2.objs.size) s3:=by
  rintro s3 rfl;rw [← e1,← e2,← e5,← e6];refine zdC (fun n s'=>∃ i σ' H',Inv Y [] σ' H' s'∧tn i s'.heap∧(∀ b∈fp,H' b=none)∧W i n σ' H') ?_ m0 ⟨0,_,_,I0,st1,fun b hb=>by rw [zau (noT b hb)];exact (hf b hb).1,w0⟩;rintro n s3 ⟨i,σ3,H3,I3,st3,fr3,w3⟩;rcases turn i n σ3 H3 w3 with ⟨stop,qn⟩ | ⟨go,N',hN,step⟩
  ·have tt:=T.done Y e1 e2 e3 e4 i [] s3 σ3 H3 (fun _ _=>False) I3 (stat fr3) st3 stop;rw [← e1,← e2] at tt;refine thn tt fun r s4 ⟨hr,I4⟩=>?_;subst hr;obtain ⟨m,hn4,_⟩:=I4.loc;have hl:Y.env.locals=H2.objs.size:=by rw [e6];rfl
   have u:=I4.base;rw [e7,e8,e9,e10] at u;refine hRR _ _ s4 H3 m hC (by rw [← hl];exact hn4) ?_ (by rw [← hl];exact I4.free) qn;refine I.call' (by rw [I4.os,e9]) u (by rw [← e1,← e2];exact I4.hok) I4.bare fun b hb=>?_;obtain ⟨f0,f1,f2,f3,f4,f5⟩:=hf b hb;exact ⟨f3,f1,f4,f5⟩
  ·have tt:=T.item Y e1 e2 e3 e4 i [] s3 σ3 H3 (fun _ _=>False) I3 (stat fr3) st3 go;rw [← e1,← e2] at tt;refine thn tt fun r s4 ⟨u,hr,h4⟩=>?_;subst hr;refine thn h4 fun _ s5 ⟨x,H5,I5,r5,y5,st5,fr5⟩=>?_;have I5':=I5.pinned (stat fr5) (T.obj _ _ st5);have a6:=hgY _ s5 σ3 H5 x u _ I5' r5 (step x H5 y5);rw [hxe] at a6;refine thn a6 fun _ s6 ⟨σ6,H6,I6,q6⟩=>?_;have a7:=htY _ s6 σ6 H6 _ I6 q6;rw [hxe] at a7;refine thn a7 fun ok s7 ⟨H7,I7,q7⟩=>?_;have again:∀ {H8:Hp} {s8:Shared},Inv Y ([]++zdu fp s5.heap) σ6 H8 s8→N' σ6 H8→∃ m,m < n∧∃ i σ' H',Inv Y [] σ' H' s8∧tn i s8.heap∧(∀ b∈fp,H' b=none)∧W i m σ' H':=fun {H8 s8} I8 n8=>by
    obtain ⟨m',hm,w8⟩:=hN σ6 H8 n8;refine ⟨m',hm,i+1,σ6,H8,I8.unpinned,T.keep _ _ _ st5 fun b hb o e=>(I8.pin (b,o) (List.mem_append_right _ (List.mem_append_right _ (zbL hb e)))).1,fun b hb=>?_,w8⟩;obtain ⟨o,e,d⟩:=T.obj _ _ st5 b hb;exact (I8.pin (b,o) (List.mem_append_right _ (List.mem_append_right _ (zbL hb e)))).2.1
   cases ok with
   | false =>
     rw [if_neg Bool.false_ne_true] at q7 ⊢;exact again I7 q7
   | true =>
     rw [if_pos rfl] at q7 ⊢;have a8:=heY _ s7 σ6 H7 _ I7 q7;rw [hxe] at a8;refine thn a8 fun y s8 ⟨v,H8,I8,r8,ys,q8,hz8,n8⟩=>?_;have a9:=mt_append (X:=Y) _ s8 σ6 H8 (.ref s.heap.objs.size) [v] (.ref s.heap.objs.size) [y] (fun _ H'=>N' σ6 H') I8 rfl (.cons r8 .nil) ⟨_,ys,v,rfl,rfl,q8,hz8,n8⟩;rw [hxe] at a9;refine thn a9 fun _ s9 ⟨_,H9,I9,_,n9⟩=>?_;exact again I9 n9
 exact codeAny_compStart_list (loop _ rfl) (T.self _ 0 _ _ _ st1 (loop _ rfl))
theorem zeI {pins:List (Addr×Obj)} {σ:St} {H H':Hp} {s s':Shared} {h':Heap} {C:Addr} (I:Inv X pins σ H s) (hC:C=s.heap.objs.size+1) (I':Inv X pins σ H' s') (hn:H' C=none) (hs:Heap.SameBut C s'.heap h'):Inv X pins σ H' { s' with heap:=h' }:=by
 have hlt:∀ b:Addr,b < s.heap.objs.size→b≠C:=fun b hb=>by rw [hC];exact Nat.ne_of_lt (Nat.lt_succ_of_lt hb)
 refine I'.turned (it:=C) (t':=s'.toks) (fun b o hb e=>(hs.2 b hb).trans e) hn ?_ (.inr ?_) ?_ ?_
 ·exact (hlt _ I.lt).symm
 ·rw [hC];exact Nat.le_succ_of_le I.sz
 ·intro x c e;obtain ⟨v,q⟩:=I.cell x c e;exact hlt _ q.lt
 ·intro p hp;exact hlt _ (Heap.lt_size (I.pin p hp).1)
theorem zbn (S:zbF X scope N own js) (hc:X.calm=true) (hi:PI X tg iter wi)
  (hg:∀ cl C s H fp,PG (X.comp scope cl C N s H fp) tg g) (hts:∀ cl C s H fp,PTs (X.comp scope cl C N s H fp) ifs tc) (he:∀ cl C s H fp,PE (X.comp scope cl C N s H fp) elt te)
  (hs:∀ x,foldedSetIterable iter X.env x=pure x:=by intro _;rfl):PE X (.ListComp elt [⟨tg,iter,ifs,0⟩] scope pos) (zeH wi own js g tc te):=by
 intro pins s σ H Q I h;rw [eval_ListComp];refine wpAny_comprehension_free (use:=none) rfl hs (zb1 fun x hx hk=>I.ok.has x.1 (S.free x hx hk)) S.kind S.nodup (thn (hi pins s σ H _ I h) fun v s1 h1=>thn h1 fun itv s2 h2=>?_);obtain ⟨it,fp,tn,J,H2,e,I2,T,st2,f2,q⟩:=h2;subst e;refine zc0 (RR:=fun acc C=>compPost (model X.prog X.w) X.A X.xe none (EP X pins σ Q) acc C) S hc I2 T st2 f2 hg hts he q ?_;intro p C s' H' m hC hn I' hH' q';exact ⟨m,hn,fun h' hs'=>⟨.ref p,H',zeI I2 hC I' hH' hs',rfl,q'⟩⟩
theorem zeJ {i:Nat} {y:Str} {py spos:Pos} (hN:X.N.Nodup) (hi':X.N[i]? = some y) (hx:Loc X.env.scope y) (hsw:swapsWith (.ListComp elt [⟨tg,iter,ifs,0⟩] scope pos) (some (.Name y py)) spos.line X.env=pure true)
  (S:zbF X scope N own js) (hc:X.calm=true) (hi:PI X tg iter wi)
  (hg:∀ cl C s H fp,PG (X.comp scope cl C N s H fp) tg g) (hts:∀ cl C s H fp,PTs (X.comp scope cl C N s H fp) ifs tc) (he:∀ cl C s H fp,PE (X.comp scope cl C N s H fp) elt te)
  (hs:∀ x,foldedSetIterable iter X.env x=pure x:=by intro _;rfl) (hf:X.fn y=true∨X.env.scope.names.lookup y=some .local:=by first | exact .inl rfl | exact .inr rfl | assumption) :
  PS X (.Assign [.Name y py] (.ListComp elt [⟨tg,iter,ifs,0⟩] scope pos) spos) (tAsg (zeH wi own js g tc te) (zbR i)):=by
 intro pins s σ H D I h;rw [exec_Assign_Name_used _ _ _ _ hsw];refine wpAny_bind (wpAny_standAt (wpAny_bind ?_));show wpAny _ X.A (do let _ ← comprehension (.ListComp elt [⟨tg,iter,ifs,0⟩] scope pos) scope X.env _ (newList []) false (eval iter X.env) (some (assign (.Name y py) X.env))) _ _ s;refine wpAny_bind (wpAny_mono (wpAny_comprehension_free (use:=some (assign (.Name y py) X.env)) (Q:=fun _ s'=>SP X pins D .next s') rfl hs (zb1 fun x hx hk=>I.ok.has x.1 (S.free x hx hk)) S.kind S.nodup
  (thn (hi pins s σ H _ I h) fun v s1 h1=>thn h1 fun itv s2 h2=>?_)) (fun _ s' hq=>wpAny_pure (wpAny_pure hq)) fun _ _ e=>e)
 obtain ⟨it,fp,tn,J,H2,e,I2,T,st2,f2,q⟩:=h2;subst e;refine zc0 (Q:=fun x H1=>zbR i x σ H1 D.nx) (RR:=fun acc C=>compPost (model X.prog X.w) X.A X.xe (some (assign (.Name y py) X.env)) (fun _ s'=>SP X pins D .next s') acc C) S hc I2 T st2 f2 hg hts he q ?_;intro p C s' H' m hC hn I' hH' q';show wpAny _ X.A (assign (.Name y py) X.env (.ref p)) _ _ _;refine wpAny_assign_Name (zdq (v:=.ref p) I' hN hi' hx rfl (fun s'' I'' hsb=>?_) hf);obtain ⟨a,hsb,ha⟩:=hsb;have hlt:∀ b:Addr,b < s2.heap.objs.size→b≠C:=fun b hb=>by rw [hC];exact Nat.ne_of_lt (Nat.lt_succ_of_lt hb)
 have hne:C≠a:=by
  rcases ha with rfl | ha
  ·exact (hlt _ I2.lt).symm
  ·obtain ⟨v,q⟩:=I2.cell y a ha;exact (hlt _ q.lt).symm
 refine ⟨m,hn.sameBut hsb hne,fun h' hs'=>⟨σ.set i (some (.ref p)),H',?_,q'⟩⟩;refine I''.turned (it:=C) (t':=s''.toks) (fun b o hb e=>(hs'.2 b hb).trans e) hH' ?_ (.inr ?_) ?_ ?_
 ·exact (hlt _ I2.lt).symm
 ·rw [hC];exact Nat.le_succ_of_le I2.sz
 ·intro x c e;obtain ⟨v,q⟩:=I2.cell x c e;exact hlt _ q.lt
 ·intro p hp;exact hlt _ (Heap.lt_size (I2.pin p hp).1)
end
end L2
namespace L2
open PySem PySem.Spec PyProof.Rows
theorem zd4 {X:Cx}:zcf X (.builtin "isinstance") (fun xs H Q=>∃ x n t b,xs=[x,.ty n]∧TyOf X.K H x t∧PySem.W.kitOne X.K t (.type n)=some b∧Q (.bl b) H):=by
 intro pins s σ H xs us Q I r h;obtain ⟨x,n,t,b,rfl,ty,e,q⟩:=h;obtain ⟨u,v,rfl,r1,r2⟩:=Vals.two r;have e2:v=Value.type n:=r2;subst e2;exact zfk I r1 ty e fun tk=>⟨.bl b,H,I.tok _,rfl,q⟩
section
variable {X:Cx} {K:PySem.W.Frag}
theorem zar (h:X.K=K):IxR X (rIxL K):=h▸ix_list
theorem zgi (h:X.K=K):SlR X (rSlL K):=h▸sl_list
theorem zh0 (h:X.K=K):OpR X (compareOp .In) (rIn K false):=h▸op_in_seq
def cLen (K:PySem.W.Frag):List V→Hp→VK→Prop:=fun xs H Q=>∃ p ys,xs=[.ref p]∧(SqL K H p ys∨SqT K H p ys)∧Q (.int ys.length) H
theorem zan (h:X.K=K):zcf X (.builtin "len") (cLen K):=h▸call_len_seq
def zhb (K:PySem.W.Frag):List V→Hp→VK→Prop:=fun xs H Q=>∃ p ys,xs=[.ref p]∧(SqL K H p ys∨SqT K H p ys)∧∀ l,H l=none→Q (.ref l) (upd H l (.lst ys))
theorem zc1 (h:X.K=K):zcf X (.type "list") (zhb K):=h▸call_list_of
def cIsi (K:PySem.W.Frag):List V→Hp→VK→Prop:=fun xs H Q=>∃ x n t b,xs=[x,.ty n]∧TyOf K H x t∧PySem.W.kitOne K t (.type n)=some b∧Q (.bl b) H
theorem zaD (h:X.K=K):zcf X (.builtin "isinstance") (cIsi K):=h▸zd4
theorem zbb {tg l:Expr} {tl:TE} (h:X.K=K) (hl:PE X l tl):PI X tg l (zf6 K tl):=h▸zgS hl
def zgG (K:PySem.W.Frag) (ta:TE):TT:=fun σ H Q=>ta σ H fun x H'=>∃ k,TruV K x H' k∧Q k H'
theorem zap {a:Expr} {ta:TE} (h:X.K=K) (ha:PE X a ta) (he:∀ whole,isTrue a X.env whole=(do let v ← whole;standAt a.pos;holding [v] (truthy v))):PT X a (zgG K ta):=h▸zf8 ha he
theorem zc2 {o e:Expr} {es:List Expr} {to:TE} {t:TA} {name:Str} {apos cpos:Pos} {T id:String} {r:V→List V→Hp→VK→Prop} (h:X.K=K)
  (pa:PlainAttrs T) (slot:Slot T name id) (hty:typeOf (.builtin id)=pure (.type "method_descriptor")) (hm:MtR X id r) (ho:PE X o to) (ha:PA X (e::es) t)
  (hbase:attributeBase o name X.env (eval o X.env)=eval o X.env:=by rfl)
  (hfew:((backTo cpos (starEach (e::es) X.env)).all (fun x=>!x.1) && (backToKw cpos (keywordEach [] X.env)).all (fun x=>x.1.isSome)
   && decide ((e::es).length+([]:List Keyword).length+(if ([]:List Keyword).isEmpty then 0 else 1) < 30))=true:=by rfl)
  (hline:(apos.endLine == cpos.line)=true:=by rfl) (hs:starEach (e::es) X.env=(false,eval e X.env)::starEach es X.env:=by rfl) (hplain:(backTo cpos (starEach es X.env)).any (·.1)=false:=by rfl) :
  PE X (.Call (.Attribute o name apos) (e::es) [] cpos) (tBM K T r to t):=h▸ziK pa slot hty hm ho ha hbase hfew hline hs hplain
def rAddS:R2:=fun x y H Q=>∃ i j,x=.str i∧y=.str j∧i.length+j.length≤sizeLine∧Q (.str (i++j)) H
def rAddG:R2:=fun x y H Q=>rI0 (fun i j=>.int (i+j)) x y H Q∨rCat x y H Q∨rAddS x y H Q
theorem op_addG:OpR X (binaryOp .Add) rAddG:=op_add.or (op_cat.or op_add_str)
def rNeG (K:PySem.W.Frag):R2:=fun x y H Q=>rNe x y H Q
theorem zh1 (h:X.K=K):OpR X (compareOp .NotEq) (rNeG K):=op_ne
end
def zgH (scope:Scope) (xn:List (Str×NameKind)) (XN N:List Str) (own:Nat) (js:List Nat):Bool :=
 (scope.kind == .function) && scope.names.all (fun y=>y.2 != .cell) && scope.names.all (fun y=>y.2 != .local || scope.names.lookup y.1 == some .local) &&
 scope.names.all (fun y=>y.2 != .free || (xn.lookup y.1 == some .cell || xn.lookup y.1 == some .free)) && (N.length == own+js.length) &&
 (List.range js.length).all (fun i=>(N[own+i]? == XN[js.getD i 0]?) && match XN[js.getD i 0]? with
  | some x=>scope.names.lookup x == some .free && (xn.lookup x == some .cell || xn.lookup x == some .free)
  | none=>true)
theorem zax {X:Cx} {scope sc:Scope} {XN N:List Str} {own:Nat} {js:List Nat} (hs:X.env.scope=sc) (hN:X.N=XN) (h:zgH scope sc.names XN N own js=true):zbF X scope N own js:=by
 subst hs hN;unfold zgH at h;simp only [Bool.and_eq_true,List.all_eq_true,beq_iff_eq,bne_iff_ne,Bool.or_eq_true,List.mem_range] at h;obtain ⟨⟨⟨⟨⟨h1,h2⟩,h3⟩,h4⟩,h5⟩,h6⟩:=h;refine ⟨h1,h2,fun y hy hk=>?_,fun y hy hk=>?_,h5,fun i j hj=>?_⟩
 ·rcases h3 y hy with z | z
  ·exact absurd hk z
  ·exact z
 ·rcases h4 y hy with z | z
  ·exact absurd hk z
  ·exact z
 ·have hi:i < js.length:=(List.getElem?_eq_some_iff.mp hj).1;have e:js.getD i 0=j:=by rw [List.getD_eq_getElem?_getD,hj];rfl
  obtain ⟨a,b⟩:=h6 i hi;rw [e] at a b;refine ⟨a,fun x hx=>?_⟩;rw [hx] at b;simp only [Bool.and_eq_true,beq_iff_eq,Bool.or_eq_true] at b;obtain ⟨b1,b2⟩:=b;refine ⟨b1,?_,?_⟩
  ·rcases b2 with z | z
   ·exact .inr (.inl z)
   ·exact .inr (.inr z)
  ·intro z;have z':X.env.scope.names.lookup x=some .local:=z;rcases b2 with q | q <;> rw [z'] at q <;> cases q
section
variable {σ σ':St} {H:Hp} {Q:VK} {QT:Bool→Hp→Prop} {QA:List V→Hp→Prop} {i j:Int} {v x y:V} {te ta tb:TE} {tc tc':TT} {tl tr:TA} {t u:TS} {K:PySem.W.Frag} {p:Addr} {xs:List V}
 {nx bk ct:St→Hp→Prop} {rt:VK} {D:Ends} {r r':R2} {n:Nat}
theorem zdD {i:Nat} (h:σ[i]? = some (some v)) (q:Q v H):tVar i σ H Q:=⟨v,h,q⟩
theorem r_c (q:Q v H):tC v σ H Q:=q
theorem r_op (h:ta σ H fun x H1=>tb σ H1 fun y H2=>r x y H2 Q):tOp r ta tb σ H Q:=h
theorem r_I0 {g:Int→Int→V} (q:Q (g i j) H):rI0 g (.int i) (.int j) H Q:=⟨i,j,rfl,rfl,q⟩
theorem ziL (q:Q (.bl (decide (i=j))) H):rEq (.int i) (.int j) H Q:=⟨rfl,by simpa using q⟩
theorem ziM (q:Q (.bl (!decide (i=j))) H):rNe (.int i) (.int j) H Q:=⟨rfl,by simpa using q⟩
theorem ziN {a b:Bool} (q:Q (.bl (decide (a=b))) H):rEq (.bl a) (.bl b) H Q:=⟨rfl,by simpa using q⟩
theorem zh2 (h:SqL K H p xs) (e:atI xs i=some v) (q:Q v H):rIxL K (.ref p) (.int i) H Q:=⟨p,xs,i,v,rfl,rfl,h,e,q⟩
theorem r_cb {f:List V→Hp→VK→Prop} (h:tl σ H fun vs H1=>f vs H1 Q):tCB f tl σ H Q:=h
theorem zb2 (q:QA [] H):tNil σ H QA:=q
theorem zdE (h:ta σ H fun x H1=>tl σ H1 fun xs H2=>QA (x::xs) H2):zd0 ta tl σ H QA:=h
theorem zh3 {sp:Sp} {E:XK} (h:tl σ H fun vs H1=>sp vs H1 Q E):zgX sp [] E tl σ H Q:=by
 unfold zgX;simpa only [List.append_nil] using h
theorem zcB {c:Prop} {A B:Prop} [Decidable c] (h1:c→A) (h2:¬c→B):if decide c=true then A else B:=by
 by_cases h:c
 ·rw [if_pos (decide_eq_true h)];exact h1 h
 ·rw [if_neg (by simpa using h)];exact h2 h
theorem zeq {c:Prop} {A B:Prop} [Decidable c] (h1:¬c→A) (h2:c→B):if (!decide c)=true then A else B:=by
 by_cases h:c
 ·rw [if_neg (by simpa using h)];exact h2 h
 ·rw [if_pos (by simpa using h)];exact h1 h
theorem ziO {b:Bool} {A B:Prop} (h1:b=true→A) (h2:b=false→B):if b=true then A else B:=by
 cases b with
 | true=>exact h1 rfl
 | false=>exact h2 rfl
theorem zer {ns:List Int} {k:Int} (h0:0≤k) (h1:k < ns.length):atI (ns.map V.int) k=some (.int (ns.getD k.toNat 0)):=by
 obtain ⟨n,rfl⟩:=Int.eq_ofNat_of_zero_le h0;have hn:n < ns.length:=by omega
 refine zfn ?_;rw [List.getElem?_map,List.getD_eq_getElem?_getD,Int.toNat_natCast,List.getElem?_eq_getElem hn];rfl
theorem zgj {ps:List Addr} {k:Int} (h0:0≤k) (h1:k < ps.length):atI (ps.map V.ref) k=some (.ref (ps.getD k.toNat 0)):=by
 obtain ⟨n,rfl⟩:=Int.eq_ofNat_of_zero_le h0;have hn:n < ps.length:=by omega
 refine zfn ?_;rw [List.getElem?_map,List.getD_eq_getElem?_getD,Int.toNat_natCast,List.getElem?_eq_getElem hn];rfl
def zfw (xs:List V) (H:Hp) (Q:VK):Prop:=xs.length≤sizeLine∧∀ p,H p=none→Q (.ref p) (upd H p (.lst xs))
theorem ziP (h:tl σ H fun xs H1=>zfw xs H1 Q):tLst tl σ H Q:=h
theorem r_bm {T:String} {f:V→List V→Hp→VK→Prop} (h:te σ H fun x H1=>tyV K T x H1∧tl σ H1 fun xs H2=>f x xs H2 Q):tBM K T f te tl σ H Q:=h
theorem zh4 (h:ta σ H fun x H1=>∃ c,x=.bl c∧if c=true then tb σ H1 Q else Q (.bl false) H1):zhK ta tb σ H Q:=h
theorem zh5 (h:ta σ H fun x H1=>∃ c,x=.bl c∧Q (.bl (!c)) H1):zhL ta σ H Q:=h
theorem zh6 {b:Bool} {P:Bool→Prop} (h:P b):∃ c,V.bl b=.bl c∧P c:=⟨b,rfl,h⟩
theorem zh7 (h:ta σ H fun x H'=>∃ k,x=.bl k∧QT k H'):zhR ta σ H QT:=h
theorem r_tB (h:ta σ H fun x H'=>∃ k,x=.bl k∧QT k H'):tB ta σ H QT:=h
theorem ziQ (h:tc σ H fun c H1=>if c=true then tc' σ H1 QT else QT false H1):tAnd tc tc' σ H QT:=h
theorem r_or (h:tc σ H fun c H1=>if c=true then QT true H1 else tc' σ H1 QT):tOr tc tc' σ H QT:=h
theorem ziR (h:tc σ H fun c H1=>QT (!c) H1):tNot tc σ H QT:=h
theorem r_tt (h:QT true H):tTT σ H QT:=h
theorem zgk (h:t ⟨u ⟨nx,rt,bk,ct⟩,rt,bk,ct⟩ σ H):tSeq t u ⟨nx,rt,bk,ct⟩ σ H:=h
theorem ziS (h:te σ H rt):tRet te ⟨nx,rt,bk,ct⟩ σ H:=h
theorem zh8 (h:te σ H fun _ H1=>nx σ H1):zhM te ⟨nx,rt,bk,ct⟩ σ H:=h
theorem zh9 (h:nx σ H):tNext ⟨nx,rt,bk,ct⟩ σ H:=h
theorem ziT {i:Nat} (h:te σ H fun x H1=>nx (σ.set i (some x)) H1):tAsg te (zbR i) ⟨nx,rt,bk,ct⟩ σ H:=h
theorem ziU (h:tc σ H fun b H1=>if b=true then t D σ H1 else u D σ H1):tIfS tc t u D σ H:=h
theorem zhc {i:Nat} {N:St→Hp→Prop} (h:N (σ.set i (some v)) H):zbR i v σ H N:=h
def ForR (lo:Int) (n:Nat) (g:TG) (tb:TS) (D:Ends) (σ:St) (H:Hp):Prop :=
 ∃ W:Nat→Nat→St→Hp→Prop,(∃ m,W 0 m σ H)∧∀ i m σ H,W i m σ H →
  ((Itr lo n).stop i H∧D.nx σ H)∨((Itr lo n).go i H∧∃ N:St→Hp→Prop,(∀ σ' H',N σ' H'→∃ m',m' < m∧W (i+1) m' σ' H')∧∀ x H',(Itr lo n).yld i H x H'→g x σ H' fun σ2 H2=>tb { D with nx:=N,ct:=N,bk:=D.nx } σ2 H2)
theorem zia {g:TG} {tb:TS} (h:tl σ H fun vs H1=>∃ j:Int,vs=[.int j]∧-(2 ^ 62)≤j∧j < 2 ^ 62∧ForR 0 j.toNat g tb D σ H1):tFor (zhQ tl) g tb D σ H:=h
theorem zib {g:TG} {tb:TS} (h:tl σ H fun vs H1=>∃ i j:Int,vs=[.int i,.int j]∧(-(2 ^ 62)≤i∧i < 2 ^ 62∧-(2 ^ 62)≤j∧j < 2 ^ 62)∧ForR i (j-i).toNat g tb D σ H1):tFor (zgT tl) g tb D σ H:=h
theorem zgI {P:Int→Prop} (b1 : -(2 ^ 62)≤i) (b2:i < 2 ^ 62) (h:P i):∃ j:Int,[V.int i]=[.int j]∧-(2 ^ 62)≤j∧j < 2 ^ 62∧P j:=⟨i,rfl,b1,b2,h⟩
theorem zgJ {P:Int→Int→Prop} (b : -(2 ^ 62)≤i∧i < 2 ^ 62∧-(2 ^ 62)≤j∧j < 2 ^ 62) (h:P i j):∃ i' j':Int,[V.int i,V.int j]=[.int i',.int j']∧(-(2 ^ 62)≤i'∧i' < 2 ^ 62∧-(2 ^ 62)≤j'∧j' < 2 ^ 62)∧P i' j':=⟨i,j,rfl,b,h⟩
theorem ziV (h:SqL K H p xs) (q:Q (.int xs.length) H):cLen K [.ref p] H Q:=⟨p,xs,rfl,.inl h,q⟩
theorem zic {ns:List Int} (h:SqL K H p (ns.map V.int)) (q:Q (.int ns.length) H):cLen K [.ref p] H Q:=⟨p,_,rfl,.inl h,by rw [List.length_map];exact q⟩
theorem zid {ns:List Addr} (h:SqL K H p (ns.map V.ref)) (q:Q (.int ns.length) H):cLen K [.ref p] H Q:=⟨p,_,rfl,.inl h,by rw [List.length_map];exact q⟩
theorem ziW {T:String} {ty:Value} {b:Bool} (h:TyOf K H x ty) (e:PySem.W.kitOne K ty (.type T)=some b) (q:Q (.bl b) H):cIsi K [x,.ty T] H Q:=⟨x,T,ty,b,rfl,h,e,q⟩
theorem zhd (h:ta σ H fun x H'=>∃ k,TruV K x H' k∧QT k H'):zgG K ta σ H QT:=h
theorem zhe {b:Bool} {P:Bool→Prop} (h:P b):∃ k,TruV K (.bl b) H k∧P k:=⟨b,rfl,h⟩
theorem zie (q:Q (.int (i+j)) H):rAddG (.int i) (.int j) H Q:=.inl ⟨i,j,rfl,rfl,q⟩
theorem zgK (q:Q (.bl (!decide (i=j))) H):rNeG K (.int i) (.int j) H Q:=ziM q
theorem zfx {lo:Int} {g:TG} {tb:TS} (Pv:Nat→St→Hp→Prop) (h0:Pv 0 σ H)
  (hs:∀ i σ H,i < n→Pv i σ H→g (.int (lo+i)) σ H fun σ2 H2=>tb ⟨Pv (i+1),rt,nx,Pv (i+1)⟩ σ2 H2) (hd:∀ σ H,Pv n σ H→nx σ H):ForR lo n g tb ⟨nx,rt,bk,ct⟩ σ H :=
 zfe (D:=⟨nx,rt,bk,ct⟩) Pv h0 hs hd
end
end L2
namespace L2
open PySem PySem.Spec PyProof.Rows
section
variable {H:Hp} {Q:VK} {K:PySem.W.Frag} {p:Addr} {xs:List V} {y:V}
theorem zaG {H:Hp} {p:Addr} {o:HO} (hp:H p=none):Same H (upd H p o):=fun b u e=>by
 rw [zau (zaf e hp)];exact e
def But (p:Addr) (H H':Hp):Prop:=∀ b,b≠p→H' b=H b
theorem But.upd {H:Hp} {p:Addr} {o:HO}:But p H (upd H p o):=fun b h=>zau h
theorem Same.but {B H H':Hp} {p:Addr} (s:Same B H) (b:But p H H') (hp:B p=none):Same B H':=fun c o e=>by
 rw [b c (zaf e hp)];exact s c o e
theorem zat (hz:xs.length≤1000) (h:∀ p H2,H p=none→Same H H2→H2 p=some (.lst xs)→Q (.ref p) H2):zfw xs H Q :=
 ⟨Nat.le_of_lt (zaU hz),fun p hp=>h p _ hp (zaG hp) zal⟩
theorem zdF (h:SqL K H p xs) (q:∀ l H2,H l=none→Same H H2→H2 l=some (.lst xs)→Q (.ref l) H2):zhb K [.ref p] H Q:=⟨p,xs,rfl,.inl h,fun l hl=>q l _ hl (zaG hl) zal⟩
theorem zbe (h:H p=some (.lst xs)) (hz:xs.length≤1000000) (q:∀ H2,But p H H2→H2 p=some (.lst (xs++[y]))→Q .non H2):rAppend (.ref p) [y] H Q:=⟨p,xs,y,rfl,rfl,h,by rw [sizeLine_eq];omega,q _ But.upd zal⟩
theorem zgl {a b:Addr} {ys:List V} (h:H a=some (.lst xs)) (h':H b=some (.lst ys)) (hz:xs.length+ys.length≤1000) (q:∀ p H2,H p=none→Same H H2→H2 p=some (.lst (xs++ys))→Q (.ref p) H2):rAddG (.ref a) (.ref b) H Q :=
 .inr (.inl ⟨a,b,xs,ys,rfl,rfl,h,h',Nat.le_of_lt (zaU hz),fun p hp=>q p _ hp (zaG hp) zal⟩)
theorem zbM {c d:Bool} {tb:TE} {σ:St} (hb:c=true→∀ Q':VK,Q' (.bl d) H→tb σ H Q') (q:Q (.bl (c && d)) H):if c=true then tb σ H Q else Q (.bl false) H:=by
 cases c with
 | false=>exact q
 | true=>exact hb rfl Q q
theorem zb3 {c d:Bool} {tb:TT} {σ:St} {QT:Bool→Hp→Prop} (hb:c=true→∀ Q':Bool→Hp→Prop,Q' d H→tb σ H Q') (q:QT (c && d) H):if c=true then tb σ H QT else QT false H:=by
 cases c with
 | false=>exact q
 | true=>exact hb rfl QT q
theorem ziX {f:Int→Int→V} {i j:Int} (c:0 < j) (q:Q (f i j) H):rI (fun _ j=>0 < j) f (.int i) (.int j) H Q:=⟨i,j,rfl,rfl,c,q⟩
theorem ziY {P:Prop} (h:H p=some (.lst xs)) (q:P):tyV K "list" (.ref p) H∧P:=⟨.inl ⟨rfl,_,SqL.of h⟩,q⟩
end
end L2
namespace L2
open PySem PySem.Spec PyProof.Rows
section
variable {σ:St} {H:Hp} {Q:VK} {K:PySem.W.Frag} {js:List Nat} {te:TE} {tc:TT} {J:It} {n:Nat} {x:Nat→V}
structure Iter (J:It) (n:Nat) (x:Nat→V) (H:Hp):Prop where
 go:∀ i H',Same H H'→i < n→J.go i H'
 yld:∀ i H' v H2,Same H H'→i < n→J.yld i H' v H2→H2=H'∧v=x i
 stop:∀ H',Same H H'→J.stop n H'
theorem zeK (lo:Int) (n:Nat) (H:Hp):Iter (Itr lo n) n (fun i=>.int (lo+i)) H :=
 ⟨fun i H' _ h=>h,fun i H' v H2 _ _ h=>h,fun H' _=>Nat.le_refl n⟩
theorem za3 {a:Addr} {xs:List V} (h:SqL K H a xs):Iter (Itl K a) xs.length (fun i=>xs.getD i .non) H :=
 ⟨fun i H' s hi=>⟨xs,xs[i],s.seq h,List.getElem?_eq_getElem hi⟩,fun i H' v H2 s hi h'=>⟨h'.1,by
  have:=h'.2 xs (s.seq h);rw [List.getD_eq_getElem?_getD,this];rfl⟩,fun H' s=>⟨xs,s.seq h,Nat.le_refl _⟩⟩
def zdG (J:It) (js:List Nat) (tc:TT) (te:TE) (σ:St) (H:Hp) (Q:VK):Prop:=∀ p,H p=none →
 ∃ W:Nat→Nat→St→Hp→Prop,(∃ m,W 0 m (capS 1 js σ) (upd H p (.lst [])))∧∀ i m σc H,W i m σc H →
  (J.stop i H∧Q (.ref p) H)∨(J.go i H∧∃ N:St→Hp→Prop,(∀ σ' H',N σ' H'→∃ m',m' < m∧W (i+1) m' σ' H')∧∀ x H',J.yld i H x H' →
   zbR 0 x σc H' fun σ2 H2=>tc σ2 H2 fun b H3=>if b=true then te σ2 H3 fun v H4=>∃ ys,H4 p=some (.lst ys)∧ys.length < sizeLine∧N σ2 (upd H4 p (.lst (ys++[v]))) else N σ2 H3)
theorem zhf {tl:TA} (h:tl σ H fun vs H1=>∃ i j:Int,vs=[.int i,.int j]∧(-(2 ^ 62)≤i∧i < 2 ^ 62∧-(2 ^ 62)≤j∧j < 2 ^ 62)∧zdG (Itr i (j-i).toNat) js tc te σ H1 Q):zeH (zgT tl) 1 js (zbR 0) tc te σ H Q:=h
theorem zhg {tl:TE} (h:tl σ H fun x H1=>∃ a,x=.ref a∧(∃ xs,SqL K H1 a xs)∧zdG (Itl K a) js tc te σ H1 Q):zeH (zf6 K tl) 1 js (zbR 0) tc te σ H Q:=h
def capV (js:List Nat) (σ:St):St:=js.map fun j=>(σ[j]?).getD none
theorem zfy (u:Option V) (v:V):(u::capV js σ).set 0 (some v)=some v::capV js σ:=rfl
theorem zes {H H':Hp} {p:Addr} {o:HO} (s:Same H H') (hp:H p=none):Same H (upd H' p o):=fun b u e=>by
 rw [zau (zaf e hp)];exact s b u e
theorem zb4 (it:Iter J n x H) (hz:n < sizeLine) (c:Nat→Bool) (f:Nat→V)
  (ht:∀ i H' Q',i < n→Same H H'→Q' (c i) H'→tc (some (x i)::capV js σ) H' Q')
  (he:∀ i H' Q',i < n→Same H H'→c i=true→Q' (f i) H'→te (some (x i)::capV js σ) H' Q')
  (hq:∀ p,H p=none→Q (.ref p) (upd H p (.lst (((List.range n).filter c).map f)))):zdG J js tc te σ H Q:=by
 intro p hp;refine ⟨fun i m σc H'=>m=n-i∧i≤n∧(∃ u,σc=u::capV js σ)∧H'=upd H p (.lst (((List.range i).filter c).map f)),⟨n,by simp,Nat.zero_le _,⟨none,rfl⟩,rfl⟩,?_⟩;rintro i m σc H' ⟨rfl,hi,⟨u,rfl⟩,rfl⟩;have s:∀ o,Same H (upd H p o):=fun o=>zaG hp;have hlen:(((List.range i).filter c).map f).length≤i:=by
  rw [List.length_map];exact Nat.le_trans (List.length_filter_le _ _) (by simp)
 by_cases hlt:i < n
 ·refine .inr ⟨it.go i _ (s _) hlt,fun σ' H'=>(∃ u,σ'=u::capV js σ)∧H'=upd H p (.lst (((List.range (i+1)).filter c).map f)),fun σ' H' ⟨h1,h2⟩=>⟨n-(i+1),by omega,rfl,hlt,h1,h2⟩,fun v H2 hy=>?_⟩;obtain ⟨rfl,rfl⟩:=it.yld i _ v H2 (s _) hlt hy;show tc ((u::capV js σ).set 0 (some (x i))) _ _;rw [zfy];have e:(List.range (i+1)).filter c=(List.range i).filter c++if c i=true then [i] else []:=by
   rw [List.range_succ,List.filter_append]
   cases hc:c i <;> simp [hc]
  refine ht i _ _ hlt (s _) ?_
  cases hc:c i with
  | false =>
    rw [if_neg Bool.false_ne_true];refine ⟨⟨_,rfl⟩,?_⟩;rw [e,hc];simp
  | true =>
    rw [if_pos rfl];refine he i _ _ hlt (s _) hc ⟨_,zal,by omega,⟨_,rfl⟩,?_⟩;rw [zgQ,e,hc];simp
 ·have e:i=n:=by omega
  subst e;exact .inl ⟨it.stop _ (s _),hq p hp⟩
def ForI (J:It) (g:TG) (tb:TS) (D:Ends) (σ:St) (H:Hp):Prop :=
 ∃ W:Nat→Nat→St→Hp→Prop,(∃ m,W 0 m σ H)∧∀ i m σ H,W i m σ H →
  (J.stop i H∧D.nx σ H)∨(J.go i H∧∃ N:St→Hp→Prop,(∀ σ' H',N σ' H'→∃ m',m' < m∧W (i+1) m' σ' H')∧∀ x H',J.yld i H x H'→g x σ H' fun σ2 H2=>tb { D with nx:=N,ct:=N,bk:=D.nx } σ2 H2)
theorem zif {tl:TE} {g:TG} {tb:TS} {D:Ends} (h:tl σ H fun x H1=>∃ a,x=.ref a∧(∃ xs,SqL K H1 a xs)∧ForI (Itl K a) g tb D σ H1):tFor (zf6 K tl) g tb D σ H:=h
theorem zbv {a:Addr} {P:Addr→Prop} {xs:List V} (h:SqL K H a xs) (q:P a):∃ b,V.ref a=.ref b∧(∃ xs,SqL K H b xs)∧P b:=⟨a,rfl,⟨xs,h⟩,q⟩
theorem zhh {a:Addr} {xs:List V} {g:TG} {tb:TS} {nx bk ct:St→Hp→Prop} {rt:VK} (Pv:Nat→St→Hp→Prop) (h0:Pv 0 σ H) (hl:∀ i σ H,i≤xs.length→Pv i σ H→SqL K H a xs)
  (hs:∀ i x σ H,xs[i]? = some x→Pv i σ H→g x σ H fun σ2 H2=>tb ⟨Pv (i+1),rt,nx,Pv (i+1)⟩ σ2 H2) (hd:∀ σ H,Pv xs.length σ H→nx σ H):ForI (Itl K a) g tb ⟨nx,rt,bk,ct⟩ σ H :=
 zf7 (D:=⟨nx,rt,bk,ct⟩) Pv h0 hl hs hd
theorem zgm {xs ys:List Int} (hl:xs.length=ys.length) (h:∀ j,j < xs.length→xs.getD j 0=ys.getD j 0):xs=ys:=by
 refine List.ext_getElem hl fun i h1 h2=>?_;have:=h i h1;rw [List.getD_eq_getElem?_getD,List.getD_eq_getElem?_getD,List.getElem?_eq_getElem h1,List.getElem?_eq_getElem h2] at this;exact this
theorem zdH (it:Iter J n x H) (hz:n≤1000) (f:Nat→Int)
  (he:∀ i H' Q',i < n→Same H H'→Q' (.int (f i)) H'→te (some (x i)::capV js σ) H' Q')
  (hq:∀ p H2,H p=none→Same H H2→H2 p=some (.lst (((List.range n).map f).map V.int))→Q (.ref p) H2):zdG J js tTT te σ H Q:=by
 refine zb4 it (zaU hz) (fun _=>true) (fun i=>.int (f i)) (fun i H' Q' _ _ q=>q) (fun i H' Q' hi s _ q=>he i H' Q' hi s q) fun p hp=>hq p _ hp (zaG hp) ?_;rw [zal,List.filter_eq_self.mpr (fun _ _=>rfl),List.map_map];rfl
end
end L2
namespace L2
open PySem PySem.Spec PyProof.Rows
def LL (K:PySem.W.Frag) (H:Hp) (a:Addr) (rs:List (List Int)):Prop :=
 ∃ ps:List Addr,SqL K H a (ps.map V.ref)∧ps.length=rs.length∧∀ i,i < rs.length→H (ps.getD i 0)=some (.lst ((rs.getD i []).map V.int))
theorem LL.same {K:PySem.W.Frag} {H H':Hp} {a:Addr} {rs:List (List Int)} (h:LL K H a rs) (s:Same H H'):LL K H' a rs:=by
 obtain ⟨ps,h1,h2,h3⟩:=h;exact ⟨ps,s.seq h1,h2,fun i hi=>s _ _ (h3 i hi)⟩
structure zaC (B:Hp) (p:Addr) (rs:List (List Int)) (H:Hp):Prop where
 same:Same B H
 new:B p=none
 rows:∃ ps:List Addr,H p=some (.lst (ps.map V.ref))∧ps.length=rs.length∧ps.Nodup∧∀ i,i < rs.length→H (ps.getD i 0)=some (.lst ((rs.getD i []).map V.int))∧B (ps.getD i 0)=none∧ps.getD i 0≠p
theorem zaC.start {B H:Hp} {p:Addr} (hp:B p=none) (s:Same B H) (e:H p=some (.lst [])):zaC B p [] H :=
 ⟨s,hp,[],e,rfl,List.nodup_nil,fun i hi=>absurd hi (by simp)⟩
theorem zas {α:Type} {xs ys:List α} {d:α} {i:Nat} (h:i < xs.length):(xs++ys).getD i d=xs.getD i d:=by
 rw [List.getD_eq_getElem?_getD,List.getD_eq_getElem?_getD,List.getElem?_append_left h]
theorem zao {α:Type} {xs:List α} {y d:α}:(xs++[y]).getD xs.length d=y:=by
 rw [List.getD_eq_getElem?_getD,List.getElem?_append_right (Nat.le_refl _)];simp
theorem mem_getD {α:Type} {xs:List α} {d a:α} (h:a∈xs):∃ i,i < xs.length∧xs.getD i d=a:=by
 obtain ⟨k,hk,e⟩:=List.getElem_of_mem h;exact ⟨k,hk,by rw [List.getD_eq_getElem?_getD,List.getElem?_eq_getElem hk,e];rfl⟩
theorem zaC.push {B H H2 H3:Hp} {p q:Addr} {rs:List (List Int)} {r:List Int} {zs:List V} (R:zaC B p rs H) (hq:H q=none) (s:Same H H2) (e:H2 q=some (.lst (r.map V.int))) (hz:H2 p=some (.lst zs)) (b:But p H2 H3) (e3:H3 p=some (.lst (zs++[.ref q]))):zaC B p (rs++[r]) H3:=by
 obtain ⟨sb,hp,ps,h1,h2,nd,h3⟩:=R;have ez:zs=ps.map V.ref:=by
  have:=s p _ h1;rw [hz] at this;exact (HO.lst.inj (Option.some.inj this))
 subst ez;have hBq:B q=none:=sb.free hq;have hqp:q≠p:=(zaf h1 hq).symm;refine ⟨(sb.trans s).but b hp,hp,ps++[q],by rw [e3,List.map_append];rfl,by simp [h2],?_,fun i hi=>?_⟩
 ·refine List.nodup_append.mpr ⟨nd,by simp,fun a ha c hc=>?_⟩;have hc':c=q:=by simpa using hc
  subst hc';obtain ⟨k,hk,ek⟩:=mem_getD (d:=0) ha;have:=(h3 k (by omega)).1;rw [ek] at this;exact zaf this hq
 ·rw [List.length_append,List.length_singleton] at hi
  by_cases hlt:i < rs.length
  ·obtain ⟨a1,a2,a3⟩:=h3 i hlt;rw [zas (by omega),zas hlt];refine ⟨?_,a2,a3⟩;rw [b _ a3];exact s _ _ a1
  ·have ei:i=rs.length:=by omega
   subst ei;rw [zao,← h2,zao];refine ⟨?_,hBq,hqp⟩;rw [b _ hqp];exact e
theorem zaC.ll {K:PySem.W.Frag} {B H:Hp} {p:Addr} {rs:List (List Int)} (R:zaC B p rs H):LL K H p rs:=by
 obtain ⟨sb,hp,ps,h1,h2,nd,h3⟩:=R;exact ⟨ps,SqL.of h1,h2,fun i hi=>(h3 i hi).1⟩
theorem zaC.lst {B H:Hp} {p:Addr} {rs:List (List Int)} (R:zaC B p rs H):∃ zs:List V,H p=some (.lst zs)∧zs.length=rs.length:=by
 obtain ⟨sb,hp,ps,h1,h2,nd,h3⟩:=R;exact ⟨_,h1,by rw [List.length_map,h2]⟩
theorem za1 {α:Type} {f:Nat→α} {n i:Nat} {d:α} (h:i < n):((List.range n).map f).getD i d=f i:=by
 rw [List.getD_eq_getElem?_getD,List.getElem?_map,List.getElem?_range h];rfl
theorem zfz {xs ys:List (List Int)} (hl:xs.length=ys.length) (h:∀ j,j < xs.length→xs.getD j []=ys.getD j []):xs=ys:=by
 refine List.ext_getElem hl fun i h1 h2=>?_;have:=h i h1;rw [List.getD_eq_getElem?_getD,List.getD_eq_getElem?_getD,List.getElem?_eq_getElem h1,List.getElem?_eq_getElem h2] at this;exact this
end L2
namespace L2
open PySem PySem.Spec PyProof.Rows
section
variable {X:Cx} {tg:Expr}
end
section
variable {σ:St} {H:Hp} {i j:Int} {D:Ends} {nx bk ct:St→Hp→Prop} {rt:VK} {n:Nat} {Q:VK}
theorem r_un {f:Int→V} (q:Q (f i) H):rU f (.int i) H Q:=⟨i,rfl,q⟩
theorem ziZ {r:V→Hp→VK→Prop} {ta:TE} (h:ta σ H fun x H1=>r x H1 Q):tUn r ta σ H Q:=h
end
end L2
namespace L2
open PySem PySem.Spec PyProof.Rows
section
variable {X:Cx} {pins:List (Addr×Obj)} {σ:St} {H:Hp} {s:Shared} {h':Heap}
theorem Inv.turnedNew {ch:List Addr} {T:Addr} {o:HO} {t':Nat} (I:Inv X pins σ H s) (k:∀ b ob,b∉ch→s.heap.get? b=some ob→h'.get? b=some ob) (hf:∀ b∈ch,FpOk X pins H b∧∃ ob,h'.get? b=some ob) (hT:s.heap.objs.size≤T)
  (new:za5 X.prog X.w (upd H T o) h' T o):Inv X pins σ (upd H T o) { s with heap:=h',toks:=t' }:=by
 have hn:H T=none:=I.hok.fresh hT;have ne:∀ b ob,s.heap.get? b=some ob→b≠T:=fun b ob e=>Nat.ne_of_lt (Nat.lt_of_lt_of_le (Heap.lt_size e) hT);have nch:∀ b u,H b=some u→b∉ch:=fun b u e z=>by rw [(hf b z).1.1] at e;cases e
 refine I.step (g':=s.gens) (d':=s.drawn) (ch:=ch) (fun b hb=>?_) (fun b ob _ _ hc e _=>k b ob hc e) (fun b ob _ _ hc e _=>⟨ob.slots,k b ob hc e⟩) (fun b ob _ e n=>by rw [zau (ne b ob e)];exact n)
  (fun b ob hc e=>⟨ob,k b ob hc e⟩) (fun b xs e=>by rw [zau (zaf e hn)];exact e) (fun b ob u e=>by rw [zau (zaf e hn)];exact e) (fun b ps e=>⟨#[],by rw [zau (zaf e hn),e];simp⟩) (fun m hm=>?_) (fun b u e=>?_) I.bare
 ·obtain ⟨⟨f0,f1,f2,f3,f4,f5⟩,_⟩:=hf b hb;exact ⟨f3,f1,f4,f5⟩
 ·obtain ⟨ob,es,ep,ho,r⟩:=hm;exact ⟨ob,es,ep,k _ ob (fun z=>(hf _ z).1.2.1 rfl) ho,r⟩
 ·by_cases hb:b=T
  ·subst hb;rw [zal] at e;cases e;exact new
  ·rw [zau hb] at e;refine (I.hok b u e).stay (fun c v hc q=>k c v ?_ q) (fun c q=>by rw [zau (zaf q hn)];exact q) fun c xs q=>by rw [zau (zaf q hn)];exact q
   rcases hc with z | z
   ·rw [z];exact nch b u e
   ·exact nch c _ z
theorem Inv.turnedL {ch:List Addr} {t':Nat} (I:Inv X pins σ H s) (k:∀ b ob,b∉ch→s.heap.get? b=some ob→h'.get? b=some ob) (hf:∀ b∈ch,FpOk X pins H b):Inv X pins σ H { s with heap:=h',toks:=t' }:=by
 have nch:∀ b u,H b=some u→b∉ch:=fun b u e z=>by rw [(hf b z).1] at e;cases e
 refine I.step (g':=s.gens) (d':=s.drawn) (ch:=ch) (fun b hb=>?_) (fun b ob _ _ hc e _=>k b ob hc e) (fun b ob _ _ hc e _=>⟨ob.slots,k b ob hc e⟩) (fun b ob _ e n=>n)
  (fun b ob hc e=>⟨ob,k b ob hc e⟩) (fun b xs e=>e) (fun b ob u e=>e) (fun b ps e=>⟨#[],by rw [e];simp⟩) (fun m hm=>?_) (fun b u e=>?_) I.bare
 ·obtain ⟨f0,f1,f2,f3,f4,f5⟩:=hf b hb;exact ⟨f3,f1,f4,f5⟩
 ·obtain ⟨ob,es,ep,ho,r⟩:=hm;exact ⟨ob,es,ep,k _ ob (fun z=>(hf _ z).2.1 rfl) ho,r⟩
 ·refine (I.hok b u e).stay (fun c v hc q=>k c v ?_ q) (fun c q=>q) fun c xs q=>q;rcases hc with z | z
  ·rw [z];exact nch b u e
  ·exact nch c _ z
end
def Itz (K:PySem.W.Frag) (a b:Addr):It :=
 ⟨fun i H=>∃ xs ys x y,SqL K H a xs∧SqL K H b ys∧xs[i]? = some x∧ys[i]? = some y,
  fun i H v H'=>∃ T,H T=none∧v=.ref T∧∀ xs ys,SqL K H a xs→SqL K H b ys→∃ x y,xs[i]? = some x∧ys[i]? = some y∧H'=upd H T (.tup [x,y]),
  fun i H=>∃ xs ys,SqL K H a xs∧SqL K H b ys∧(xs.length≤i∨ys.length≤i)⟩
theorem zgn {P:Program} {w:World} {K:PySem.W.Frag} {elts:List Expr} {x1:Nat} {tpos:Pos} {l1 l2 z TI TO i1 i2:Addr} (D:ZipApart z TI TO i1 i2 l1 l2) :
  Turn P w K (.Tuple elts x1 tpos) (Itz K l1 l2) [z,TI,TO,i1,i2] z (fun i h=>IsZip h z TI TO .none∧IsPair h TI (.ref i1) (.ref i2)∧(∃ a b,IsPair h TO a b)∧h.IsListIter i1 l1 i∧h.IsListIter i2 l2 i) where
 mem:=by simp
 obj:=fun i h st b hb=>by
  obtain ⟨h1,h2,⟨_,_,h3⟩,⟨o4,h4,c4,d4⟩,⟨o5,h5,c5,d5⟩⟩:=st;simp only [List.mem_cons,List.not_mem_nil,or_false] at hb;rcases hb with rfl | rfl | rfl | rfl | rfl
  ·exact ⟨_,h1,fun v z=>by cases z⟩
  ·exact ⟨_,h2,fun v z=>by cases z⟩
  ·exact ⟨_,h3,fun v z=>by cases z⟩
  ·exact ⟨_,h4,fun v z=>by rw [d4] at z;cases z⟩
  ·exact ⟨_,h5,fun v z=>by rw [d5] at z;cases z⟩
 keep:=fun i h h' st k=>by
  obtain ⟨h1,h2,⟨a,b,h3⟩,h4,h5⟩:=st;exact ⟨k z (by simp) _ h1,k TI (by simp) _ h2,⟨a,b,k TO (by simp) _ h3⟩,h4.at fun o e=>k i1 (by simp) o e,h5.at fun o e=>k i2 (by simp) o e⟩
 item:=by
  intro X hP hw hK hc i pins s σ H E I hf st hg;subst hP hw hK;obtain ⟨xs,ys,x,y,hq1,hq2,hx,hy⟩:=hg;obtain ⟨its1,rv1,p1,hz1⟩:=I.list hq1;obtain ⟨its2,rv2,p2,hz2⟩:=I.list hq2;obtain ⟨u1,hu1,ru1⟩:=rv1.get hx;obtain ⟨u2,hu2,ru2⟩:=rv2.get hy;obtain ⟨g1,g2,⟨ta,tb,g3⟩,g4,g5⟩:=st;refine wpAny_pyNext_zip_item D g1 g2 g3 g4 g5 p1.isList p2.isList (x:=u1) (y:=u2) (by simpa using hu1) (by simpa using hu2) fun h' a1 a2 a3 a4 a5 a6 hk=>?_;refine ⟨_,rfl,?_⟩;refine wpAny_letOwnedTupleGo_zip a1 fun h2 b1 hs2=>?_;have hTn:H s.heap.objs.size=none:=I.hok.fresh (Nat.le_refl _);have ltz:∀ b∈[z,TI,TO,i1,i2],b≠s.heap.objs.size:=fun b hb=>by
   obtain ⟨⟨o,e⟩⟩:∃ o,s.heap.get? b=some o:=by
    obtain ⟨o4,e4,_⟩:=g4;obtain ⟨o5,e5,_⟩:=g5;simp only [List.mem_cons,List.not_mem_nil,or_false] at hb;rcases hb with rfl | rfl | rfl | rfl | rfl
    ·exact ⟨_,g1⟩
    ·exact ⟨_,g2⟩
    ·exact ⟨_,g3⟩
    ·exact ⟨_,e4⟩
    ·exact ⟨_,e5⟩
   exact Nat.ne_of_lt (Heap.lt_size ‹_›)
  have keep:∀ b ob,b∉[z,TO,i1,i2]→s.heap.get? b=some ob→h2.get? b=some ob:=fun b ob hb e=>by
   simp only [List.mem_cons,List.not_mem_nil,or_false,not_or] at hb;obtain ⟨n1,n2,n3,n4⟩:=hb;exact hs2.extBut b ob n1 (hk b ob n1 n2 n3 n4 e)
  have pT:IsPair h2 s.heap.objs.size u1 u2:=hs2.extBut _ _ (ltz z (by simp)).symm a5;have c4:h2.IsListIter i1 l1 (i+1):=a3.extBut hs2.extBut D.i1z;have c5:h2.IsListIter i2 l2 (i+1):=a4.extBut hs2.extBut D.i2z;have c3:IsPair h2 TO u1 u2:=hs2.extBut _ _ D.TOz a2;have c2:IsPair h2 TI (.ref i1) (.ref i2):=hs2.extBut _ _ D.TIz (hk _ _ D.TIz D.TITO D.TIi1 D.TIi2 g2);refine ⟨.ref s.heap.objs.size,upd H s.heap.objs.size (.tup [x,y]),?_,rfl,⟨_,hTn,rfl,fun xs' ys' q1' q2'=>?_⟩,⟨b1,c2,⟨_,_,c3⟩,c4,c5⟩,fun b hb=>?_⟩
  ·refine I.turnedNew (t':=s.toks) (ch:=[z,TO,i1,i2]) keep (fun b hb=>⟨hf b ?_,?_⟩) (Nat.le_refl _) ?_
   ·simp only [List.mem_cons,List.not_mem_nil,or_false] at hb ⊢;rcases hb with rfl | rfl | rfl | rfl <;> simp
   ·obtain ⟨o4,e4,_⟩:=c4;obtain ⟨o5,e5,_⟩:=c5;simp only [List.mem_cons,List.not_mem_nil,or_false] at hb;rcases hb with rfl | rfl | rfl | rfl
    ·exact ⟨_,b1⟩
    ·exact ⟨_,c3⟩
    ·exact ⟨_,e4⟩
    ·exact ⟨_,e5⟩
   ·exact ⟨by show 2≤sizeLine;rw [sizeLine_eq];decide,[u1,u2],.cons ru1 (.cons ru2 .nil),_,pT,rfl,_,rfl⟩
  ·rw [I.list_inj q1' hq1,I.list_inj q2' hq2];exact ⟨x,y,hx,hy,rfl⟩
  ·rw [zau (ltz b hb)];exact (hf b hb).1
 done:=by
  intro X hP hw hK hc i pins s σ H E I hf st hg;subst hP hw hK;obtain ⟨xs,ys,hq1,hq2,hx⟩:=hg;obtain ⟨its1,rv1,p1,hz1⟩:=I.list hq1;obtain ⟨its2,rv2,p2,hz2⟩:=I.list hq2;obtain ⟨g1,g2,⟨ta,tb,g3⟩,g4,g5⟩:=st;have hl1:=rv1.length;have hl2:=rv2.length;refine wpAny_pyNext_zip_end (I.ok.hd hc) D g1 g2 g3 g4 g5 p1.isList p2.isList ?_ fun h' hk=>⟨rfl,I.turnedL (t':=s.toks) (ch:=[z,TI,TO,i1,i2]) (fun b ob hb e=>?_) hf⟩
  ·rcases hx with hx | hx
   ·exact .inl (Array.getElem?_eq_none (by simp;omega))
   ·exact .inr (Array.getElem?_eq_none (by simp;omega))
  ·simp only [List.mem_cons,List.not_mem_nil,or_false,not_or] at hb;obtain ⟨n1,n2,n3,n4,n5⟩:=hb;exact hk b ob n1 n3 n4 n5 e
 self:=fun _ _ _ _ _ st h=>wpAny_pyIter_zip st.1 h
section
variable {X:Cx} {K:PySem.W.Frag}
def iZip (K:PySem.W.Frag) (ta:TA):TI:=fun σ H R=>ta σ H fun vs H1=>∃ a b xs ys,vs=[.ref a,.ref b]∧SqL K H1 a xs∧SqL K H1 b ys∧R (Itz K a b) H1
theorem zhi {a b:Expr} {ta:TA} {p pos tpos:Pos} {elts:List Expr} {x1:Nat} (hK:X.K=K) (hg:Gl X "zip") (hm:X.mg "zip" = none) (ha:PA X [a,b] ta) (hs:starEach [a,b] X.env=(false,eval a X.env)::starEach [b] X.env:=by rfl)
  (hs2:(backTo pos (starEach [b] X.env)).any (·.1)=false:=by rfl):PI X (.Tuple elts x1 tpos) (.Call (.Name "zip" p) [a,b] [] pos) (iZip K ta):=by
 subst hK;intro pins s σ H R I h;refine Call_ (zcx I hg hm boot_zip (PyProof.Rows.callWith_type1 (thn (ha pos pins s σ H _ I h) fun us s1 ⟨vs,H1,I1,r1,q1⟩=>?_) hs hs2));obtain ⟨l1,l2,xs,ys,e,q1,q2,q⟩:=q1;subst e;obtain ⟨v1,v2,rfl,r1,r2⟩:=Vals.two r1
 cases r1
 cases r2
 obtain ⟨its1,rv1,p1,hz1⟩:=I1.list q1;obtain ⟨its2,rv2,p2,hz2⟩:=I1.list q2;refine call_zip_2 p1.isList p2.isList fun h' hz hTI hTO hi1 hi2 hsz hk=>?_;refine wpAny_pyIter_zip hz ?_;obtain ⟨o1,e1,_⟩:=p1.isList;obtain ⟨o2,e2,_⟩:=p2.isList;have L1:=Heap.lt_size e1;have L2:=Heap.lt_size e2;have I2:Inv X pins σ H1 { s1 with heap:=h' }:=I1.kept (t':=s1.toks) hk;have nn:∀ k l:Nat,k≠l→s1.heap.objs.size+k≠s1.heap.objs.size+l:=fun k l hkl z=>hkl (Nat.add_left_cancel z);have n0:∀ k:Nat,0 < k→s1.heap.objs.size≠s1.heap.objs.size+k:=fun k hk=>by omega
 have D:ZipApart (s1.heap.objs.size+4) (s1.heap.objs.size+2) (s1.heap.objs.size+3) s1.heap.objs.size (s1.heap.objs.size+1) l1 l2:=by
  have m1:∀ k:Nat,l1≠s1.heap.objs.size+k:=fun k=>Nat.ne_of_lt (Nat.lt_of_lt_of_le L1 (Nat.le_add_right _ _));have m2:∀ k:Nat,l2≠s1.heap.objs.size+k:=fun k=>Nat.ne_of_lt (Nat.lt_of_lt_of_le L2 (Nat.le_add_right _ _));exact ⟨nn 2 4 (by decide),nn 3 4 (by decide),n0 4 (by decide),nn 1 4 (by decide),nn 2 3 (by decide),(n0 2 (by decide)).symm,nn 2 1 (by decide),(n0 3 (by decide)).symm,nn 3 1 (by decide),n0 1 (by decide),m1 4,m1 3,m1 0,m1 1,m2 4,m2 3,m2 0,m2 1⟩
 refine ⟨s1.heap.objs.size+4,_,_,Itz X.K l1 l2,H1,rfl,I2,zgn D,⟨hz,hTI,⟨_,_,hTO⟩,hi1,hi2⟩,fun b hb=>?_,q⟩;have hge:s1.heap.objs.size≤b:=by
  simp only [List.mem_cons,List.not_mem_nil,or_false] at hb;rcases hb with rfl | rfl | rfl | rfl | rfl
  ·exact Nat.le_add_right _ _
  ·exact Nat.le_add_right _ _
  ·exact Nat.le_add_right _ _
  ·exact Nat.le_refl _
  ·exact Nat.le_add_right _ _
 exact I1.fpOk hge (I1.hok.fresh hge)
theorem zfA {es:List Expr} {k:Nat} {t:TGs} {n:Nat} {pos:Pos} (hK:X.K=K) (hc:X.calm=true) (h:PGs X es t)
  (hn:(assignEach es X.env).length=n:=by rfl) (hst:(assignEach es X.env).findIdx? (·.1)=none:=by rfl):PG X (.Tuple es k pos) (gTup K n t):=hK▸zhN hc h hn hst
end
section
variable {σ:St} {H:Hp} {D:Ends} {nx bk ct:St→Hp→Prop} {rt:VK} {K:PySem.W.Frag} {Q:VK}
theorem zhj {a b:Addr} {xs ys:List V} {P:Addr→Addr→Prop} (h1:SqL K H a xs) (h2:SqL K H b ys) (q:P a b):∃ a' b' xs ys,[V.ref a,V.ref b]=[.ref a',.ref b']∧SqL K H a' xs∧SqL K H b' ys∧P a' b':=⟨a,b,xs,ys,rfl,h1,h2,q⟩
end
theorem zbw {t u:TS} {nx bk ct:St→Hp→Prop} {rt:VK} {σ:St} {H:Hp} (M:St→Hp→Prop) (h1:∀ nx':St→Hp→Prop,(∀ σ' H',M σ' H'→nx' σ' H')→t ⟨nx',rt,bk,ct⟩ σ H)
  (h2:∀ σ' H',M σ' H'→u ⟨nx,rt,bk,ct⟩ σ' H'):tSeq t u ⟨nx,rt,bk,ct⟩ σ H:=h1 _ h2
section
variable {X:Cx} {K:PySem.W.Frag}
def eqVs:List V→List V→Bool
 | [],[]=>true
 | x::xs,y::ys=>eqV x y && eqVs xs ys
 | _,_=>false
theorem eqVs_len:∀ {xs ys:List V},xs.length≠ys.length→eqVs xs ys=false
 | [],[],h=>absurd rfl h
 | [],_::_,_=>rfl
 | _::_,[],_=>rfl
 | x::xs,y::ys,h=>by
   unfold eqVs;rw [eqVs_len (xs:=xs) (ys:=ys) (fun e=>h (by simp [e])),Bool.and_false]
theorem eqVs_all:∀ {xs ys:List V},xs.length=ys.length→(List.range xs.length).all (fun j=>eqV (xs.getD j .non) (ys.getD j .non))=eqVs xs ys
 | [],[],_=>rfl
 | x::xs,y::ys,h=>by
   have ih:=eqVs_all (xs:=xs) (ys:=ys) (by simpa using h);rw [List.length_cons,List.range_succ_eq_map,List.all_cons,List.all_map];unfold eqVs;rw [← ih];rfl
theorem eqVs_ints:∀ {xs ys:List Int},eqVs (xs.map V.int) (ys.map V.int)=decide (xs=ys)
 | [],[]=>rfl
 | [],_::_=>rfl
 | _::_,[]=>rfl
 | x::xs,y::ys=>by
   rw [List.map_cons,List.map_cons];unfold eqVs;rw [eqVs_ints]
   by_cases h:x=y
   ·subst h;simp [eqV]
   ·simp [eqV,h]
def rEqL (K:PySem.W.Frag):R2:=fun x y H Q=>∃ a b xs ys,x=.ref a∧y=.ref b∧SqL K H a xs∧SqL K H b ys∧xs.all flatV=true∧ys.all flatV=true∧Q (.bl (eqVs xs ys)) H
theorem zig (hu:X.A.units < cLine):OpR X (compareOp .Eq) (rEqL X.K):=by
 intro pins s σ H x y v u Q I rx ry h;obtain ⟨a,b,xs,ys,rfl,rfl,h1,h2,f1,f2,q⟩:=h
 cases rx
 cases ry
 obtain ⟨its1,r1,p1,z1⟩:=I.list h1;obtain ⟨its2,r2,p2,z2⟩:=I.list h2;have l1:=r1.length;have l2:=r2.length
 by_cases hl:xs.length=ys.length
 ·refine SeqAt.eq_listAt (e:=fun j=>eqV (xs.getD j .non) (ys.getD j .non)) p1.isList p2.isList (by simp;omega) hu (fun j h1 h2=>?_) ⟨.bl _,H,I,rfl,?_⟩
  ·simp only [List.size_toArray] at h1 h2;have e1:xs[j]? = some (xs.getD j .non):=by rw [List.getD_eq_getElem?_getD,List.getElem?_eq_getElem (by omega)];rfl
   have e2:ys[j]? = some (ys.getD j .non):=by rw [List.getD_eq_getElem?_getD,List.getElem?_eq_getElem (by omega)];rfl
   obtain ⟨u1,a1,b1⟩:=r1.get e1;obtain ⟨u2,a2,b2⟩:=r2.get e2;have c1:its1.toArray[j]=u1:=by simpa [List.getElem?_eq_getElem h1] using a1
   have c2:its2.toArray[j]=u2:=by simpa [List.getElem?_eq_getElem h2] using a2
   rw [c1,c2];exact zfo b1 b2 (List.all_eq_true.mp f1 _ (List.mem_of_getElem? e1)) (List.all_eq_true.mp f2 _ (List.mem_of_getElem? e2))
  ·have e:its1.toArray.size=xs.length:=by simp;omega
   rw [e,eqVs_all hl];exact q
 ·refine SeqAt.eq_list_lengthsAt p1.isList p2.isList (by simp;omega) hu ⟨.bl false,H,I,rfl,?_⟩;rw [← eqVs_len hl];exact q
def zgo (K:PySem.W.Frag):R2:=fun x y H Q=>rEq x y H Q∨rEqL K x y H Q
theorem zhk (h:X.K=K) (hu:X.A.units < cLine):OpR X (compareOp .Eq) (zgo K):=op_eq.or (h▸zig hu)
end
section
variable {H:Hp} {K:PySem.W.Frag} {Q:VK} {i j:Int}
theorem zhl (q:Q (.bl (decide (i=j))) H):zgo K (.int i) (.int j) H Q:=.inl (ziL q)
theorem zhm {a b:Bool} (q:Q (.bl (decide (a=b))) H):zgo K (.bl a) (.bl b) H Q:=.inl (ziN q)
theorem zhn {x:Int} {xs:List Int}:inV (.int x) (xs.map V.int)=decide (x∈xs):=by
 unfold inV;rw [Bool.eq_iff_iff,List.any_eq_true];simp only [List.mem_map,decide_eq_true_eq];constructor
 ·rintro ⟨v,⟨y,hy,rfl⟩,e⟩;have e':y=x:=by simpa [eqV] using e
  rw [← e'];exact hy
 ·intro h;exact ⟨_,⟨x,h,rfl⟩,by simp [eqV]⟩
theorem zi0 {a:Addr} {xs:List Int} (h:SqL K H a (xs.map V.int)) (q:Q (.bl (decide (i∈xs))) H):rIn K false (.int i) (.ref a) H Q :=
 ⟨a,_,rfl,.inl h,rfl,by simp [flatV],by rw [zhn];exact q⟩
end
end L2
namespace L2
open PySem PySem.Spec PyProof.Rows
section
variable {prog:Program} {w:World} {A:Around} {R:Result→Shared→Prop}
end
section
variable {X:Cx} {K:PySem.W.Frag}
end
section
variable {σ:St} {H:Hp} {Q:VK} {K:PySem.W.Frag} {ta td:TE}
end
end L2
namespace Prf
open PySem PySem.Spec PyProof.Rows L2
def zfB (ns:List Int) (k:Int):Int:=if (ns.length:Int)=0 then 0 else ns.getD (k % ns.length).toNat 0+k / ns.length
theorem getD_mem {α:Type} {xs:List α} {d:α} {i:Nat} (h:i < xs.length):xs.getD i d∈xs:=by
 rw [List.getD_eq_getElem?_getD,List.getElem?_eq_getElem h];exact List.getElem_mem h
end Prf
namespace L2
open PySem PySem.Spec PyProof.Rows
section
variable {X:Cx} {K:PySem.W.Frag}
def CBig (i j:Int):Prop:=0 < j∧j < 2 ^ 200
theorem op_fdivB:OpR X (binaryOp .FloorDiv) (rI CBig fun i j=>.int (i / j)):=opI fun i j _ _ _ _ _ hc q=>by
 obtain ⟨h1,h2⟩:=hc;have hl:j.natAbs.log2 < 9000:=by
  have h3:j.natAbs < 2 ^ 200:=by
   have e:(j.natAbs:Int)=j:=Int.natAbs_of_nonneg (by omega);have:(j.natAbs:Int) < ((2 ^ 200:Nat):Int):=by rw [e];exact h2
   exact Int.ofNat_lt.mp this
  have h4:j.natAbs.log2 < 200:=(Nat.log2_lt (by omega)).mpr h3;omega
 refine floordiv_int (by omega) ?_ (.inl (PyProof.noPylong_of_log2 hl));rw [Int.fdiv_eq_ediv_of_nonneg i (by omega)];exact q
end
section
variable {σ:St} {H:Hp} {Q:VK} {K:PySem.W.Frag} {i j:Int} {p:Addr} {xs:List V} {ta:TA} {te:TE} {tl th:TO}
theorem zih {f:Int→Int→V} (c1:0 < j) (c2:j < 2 ^ 200) (q:Q (f i j) H):rI CBig f (.int i) (.int j) H Q:=⟨i,j,rfl,rfl,⟨c1,c2⟩,q⟩
theorem r_sl {r:V→Option Int→Option Int→Hp→VK→Prop} (h:te σ H fun x H1=>tl σ H1 fun l H2=>th σ H2 fun u H3=>r x l u H3 Q):tSl r te tl th σ H Q:=h
theorem zho {QO:Option Int→Hp→Prop} (h:QO none H):tNoPart σ H QO:=h
theorem zii {QO:Option Int→Hp→Prop} (h:te σ H fun x H1=>∃ i,x=.int i∧QO (some i) H1):zhW te σ H QO:=h
theorem zhp {P:Int→Prop} (h:P i):∃ k,V.int i=.int k∧P k:=⟨i,rfl,h⟩
theorem zeL {lo hi:Option Int} (h:SqL K H p xs) (q:∀ l H2,H l=none→Same H H2→H2 l=some (.lst (cutV xs lo hi))→Q (.ref l) H2):rSlL K (.ref p) lo hi H Q:=⟨p,xs,rfl,h,fun l hl=>q l _ hl (zaG hl) zal⟩
theorem zhq (k:Nat):cutV xs none (some (k:Int))=xs.take k:=by
 unfold cutV;rw [HT.sIx_none,HT.sIx_nat,List.drop_zero,Nat.sub_zero]
 by_cases h:k≤xs.length
 ·rw [Nat.min_eq_left h]
 ·rw [Nat.min_eq_right (by omega),List.take_of_length_le (Nat.le_refl _),List.take_of_length_le (by omega)]
end
end L2
namespace Prf
open PySem PySem.Spec PyProof.Rows L2
def cntB (rows:List (List Int)) (x:Int):Nat:=(rows.filter fun r=>decide (x∈r)).length
theorem zfC (rows:List (List Int)) (x:Int):((List.range rows.length).filter fun i=>decide (x∈rows.getD i [])).length=cntB rows x:=by
 unfold cntB
 induction rows with
 | nil=>rfl
 | cons r rs ih =>
   rw [List.length_cons,List.range_succ_eq_map,List.filter_cons,List.filter_cons,List.filter_map,];have e:((fun i=>decide (x∈(r::rs).getD i []))∘Nat.succ)=fun i=>decide (x∈rs.getD i []):=by funext i;rfl
   rw [e]
   by_cases h:x∈r
   ·simp only [List.getD_cons_zero,h,decide_true,if_true,List.length_cons,List.length_map];rw [ih]
   ·simp only [List.getD_cons_zero,h,decide_false,Bool.false_eq_true,if_false,List.length_map];exact ih
theorem zgp {K:PySem.W.Frag} {σ:L2.St} {H:Hp} {Q:VK} {js:List Nat} {tc:TT} {a:Addr} {ps:List Addr} {rows:List (List Int)} {x:Int} (h1:SqL K H a (ps.map V.ref)) (h2:ps.length=rows.length) (hz:rows.length≤1000)
  (ht:∀ i H' (Q':Bool→Hp→Prop),i < rows.length→Same H H'→Q' (decide (x∈rows.getD i [])) H'→tc (some (.ref (ps.getD i 0))::capV js σ) H' Q')
  (hq:∀ p H2 zs,H p=none→Same H H2→H2 p=some (.lst zs)→zs.length=cntB rows x→Q (.ref p) H2):zdG (Itl K a) js tc (tVar 0) σ H Q:=by
 have ex:∀ i,i < rows.length→(ps.map V.ref).getD i .non=.ref (ps.getD i 0):=fun i hi=>by
  rw [List.getD_eq_getElem?_getD,List.getElem?_map,List.getElem?_eq_getElem (by omega),List.getD_eq_getElem?_getD,List.getElem?_eq_getElem (by omega)];rfl
 have hl:(ps.map V.ref).length=rows.length:=by rw [List.length_map,h2]
 refine zb4 (za3 h1) (by rw [hl];exact zaU hz) (fun i=>decide (x∈rows.getD i [])) (fun i=>.ref (ps.getD i 0)) (fun i H' Q' hi s q=>?_) (fun i H' Q' hi s _ q=>?_) fun p hp=>?_
 ·show tc (some ((ps.map V.ref).getD i .non)::capV js σ) H' Q';rw [hl] at hi;rw [ex i hi];exact ht i H' Q' hi s q
 ·show tVar 0 (some ((ps.map V.ref).getD i .non)::capV js σ) H' Q';rw [hl] at hi;rw [ex i hi];exact zdD (i:=0) rfl q
 ·refine hq p _ _ hp (zaG hp) zal ?_;rw [List.length_map,hl,zfC]
end Prf
namespace L2
open PySem PySem.Spec PyProof.Rows
section
variable {X:Cx} {K:PySem.W.Frag}
def rIsN:R2:=fun x y H Q=>y=.non∧Q (.bl (decide (x=.non))) H
def rNotN:R2:=fun x y H Q=>y=.non∧Q (.bl (!decide (x=.non))) H
theorem op_isNN:OpR X (compareOp .Is) rIsN:=op_isN
theorem op_notNN:OpR X (compareOp .IsNot) rNotN:=op_notN
end
section
variable {σ:St} {H:Hp} {Q:VK} {K:PySem.W.Frag} {x:V}
theorem zi1 (q:Q (.bl (decide (x=.non))) H):rIsN x .non H Q:=⟨rfl,q⟩
theorem zij (q:Q (.bl (!decide (x=.non))) H):rNotN x .non H Q:=⟨rfl,q⟩
theorem zdI (xs:List V) (c:V→Bool):((List.range xs.length).filter fun i=>c (xs.getD i .non)).map (fun i=>xs.getD i .non)=xs.filter c:=by
 induction xs with
 | nil=>rfl
 | cons y ys ih =>
   rw [List.length_cons,List.range_succ_eq_map,List.filter_cons,List.filter_map,List.filter_cons];have e:((fun i=>c ((y::ys).getD i .non))∘Nat.succ)=fun i=>c (ys.getD i .non):=by funext i;rfl
   have e2:∀ l:List Nat,(l.map Nat.succ).map (fun i=>(y::ys).getD i .non)=l.map fun i=>ys.getD i .non:=fun l=>by rw [List.map_map];rfl
   rw [e]
   cases h:c y with
   | true =>
     simp only [List.getD_cons_zero,h,if_true,List.map_cons];rw [e2,ih]
   | false =>
     simp only [List.getD_cons_zero,h,Bool.false_eq_true,if_false];rw [e2,ih]
theorem zfD {js:List Nat} {tc:TT} {a:Addr} {xs:List V} (h:SqL K H a xs) (hz:xs.length≤1000) (c:V→Bool)
  (ht:∀ i H' (Q':Bool→Hp→Prop),i < xs.length→Same H H'→Q' (c (xs.getD i .non)) H'→tc (some (xs.getD i .non)::capV js σ) H' Q')
  (hq:∀ p H2,H p=none→Same H H2→H2 p=some (.lst (xs.filter c))→Q (.ref p) H2):zdG (Itl K a) js tc (tVar 0) σ H Q:=by
 refine zb4 (za3 h) (zaU hz) (fun i=>c (xs.getD i .non)) (fun i=>xs.getD i .non) ht (fun i H' Q' _ _ _ q=>zdD (i:=0) rfl q) fun p hp=>hq p _ hp (zaG hp) ?_;rw [zal,zdI]
end
end L2
namespace Prf
open PySem PySem.Spec PyProof.Rows L2
structure InB (hs:List Int) (rs:List (List Int)):Prop where
 lp:hs.length≤10
 lr:rs.length≤8
 hh:∀ i,i < hs.length→1≤hs.getD i 0∧hs.getD i 0≤6
 r2:∀ i,i < rs.length→(rs.getD i []).length=2
 rh:∀ i,i < rs.length→0≤(rs.getD i []).getD 0 0∧(rs.getD i []).getD 0 0≤6
 rl:∀ i,i < rs.length→0≤(rs.getD i []).getD 1 0∧(rs.getD i []).getD 1 0≤30
end Prf
namespace Hall
variable {n m:Nat} {L d:Nat→Nat} {A:Nat→Nat→Bool}
end Hall
namespace Hall
variable {n m:Nat} {L d:Nat→Nat} {A:Nat→Nat→Bool}
end Hall
namespace Prf
open PySem PySem.Spec PyProof.Rows L2
def zcC (x y s:Int):Bool:=decide (x-y≤s∧y-x≤s)
def min2 (x y:Int):Int:=if y < x then y else x
def max2 (x y:Int):Int:=if y > x then y else x
def zgq (x y s:Int):List Int:=if zcC x y s then (if (x+y) % 2=1 then [x+y,2] else [(x+y) / 2,1]) else [min2 x y,1]
def mid3 (x y z:Int):Int:=x+y+z-max2 (max2 x y) z-min2 (min2 x y) z
theorem zgr (x y z:Int):mid3 x y z=x∨mid3 x y z=y∨mid3 x y z=z:=by
 unfold mid3 min2 max2
 repeat' split
 all_goals omega
def zeM (rs rows:List (List Int)):List Int:=(List.range rs.length).map fun k=>(rs.getD k []).getD 1 0-(cntB rows ((k:Int)+1):Int)
structure Low (top bottom t b:Int):Prop where
 t0:0≤t
 b1:1≤b
 eq:t * bottom=top * b
 co:Int.gcd t b=1
 tl:t≤top
 bl:b≤bottom
end Prf
namespace Prf
open PySem PySem.Spec PyProof.Rows L2
end Prf
namespace L2
open PySem PySem.Spec PyProof.Rows
theorem sum_rng:∀ (ns:List Int) (B:Int),0≤B→(∀ x∈ns,0≤x∧x≤B)→0≤ns.sum∧ns.sum≤B * ns.length
 | [],B,hB,_=>by simp
 | n::ns,B,hB,h=>by
   have h1:=h n List.mem_cons_self;have h2:=sum_rng ns B hB fun x hx=>h x (List.mem_cons_of_mem _ hx);rw [List.sum_cons,List.length_cons];have e:B * ((ns.length+1:Nat):Int)=B * ns.length+B:=by
    rw [Int.natCast_add,Int.mul_add];simp
   omega
section
variable {X:Cx} {K:PySem.W.Frag}
def cSum (K:PySem.W.Frag):List V→Hp→VK→Prop:=fun xs H Q=>∃ (a:Addr) (ns:List Int),xs=[.ref a]∧SqL K H a (ns.map V.int)∧(∀ x∈ns,0≤x∧x≤1000000)∧ns.length≤1000∧Q (.int ns.sum) H
theorem zfE (hK:X.K=K) (hc:X.calm=true):zcf X (.builtin "sum") (cSum K):=by
 subst hK;intro pins s σ H xs us Q I r h;obtain ⟨a,ns,rfl,hl,hb,hz,q⟩:=h;obtain ⟨u,rfl,ru⟩:=r.one
 cases ru
 obtain ⟨its,rv,pl,_⟩:=I.list hl;have hi:=intsAre_of rv;have ha:AllInts its.toArray:=hi.allInts;obtain ⟨zs,ez⟩:=ha.items;have en:zs.toList.map (·.1)=ns:=by
  have h1:=nums_intItems zs;rw [← ez] at h1;rw [← h1];exact hi.numsOf
 refine sum_intList (xs:=zs) (I.ok.hd hc) (by rw [← ez];exact pl.isList) (fun j hj=>?_) fun h' tk t' k=>⟨.int ns.sum,H,I.kept k,⟨t',?_⟩,q⟩
 ·rw [numAt_eq,preSum_eq,en];have hjn:j < ns.length:=by rw [← en];simpa using hj
  have h0:=hb (ns.getD j 0) (by rw [List.getD_eq_getElem?_getD,List.getElem?_eq_getElem hjn];exact List.getElem_mem hjn);have h1:=sum_rng (ns.take (j+1)) 1000000 (by decide) fun x hx=>hb x (List.mem_of_mem_take hx);have h2:((ns.take (j+1)).length:Int)≤1000:=by rw [List.length_take];omega
  exact ⟨⟨by omega,by omega⟩,⟨by omega,by omega⟩⟩
 ·rw [preSum_eq,en,List.take_of_length_le (by rw [← en];simp)]
def zik (K:PySem.W.Frag):List V→Hp→VK→Prop:=fun xs H Q=>∃ (a:Addr) (ns:List Int),xs=[.ref a]∧SqL K H a (ns.map V.int)∧0 < ns.length∧∀ m∈ns,(∀ x∈ns,m≤x)→Q (.int m) H
theorem zfF (hK:X.K=K) (hc:X.calm=true):zcf X (.builtin "min") (zik K):=by
 subst hK;intro pins s σ H xs us Q I r h;obtain ⟨a,ns,rfl,hl,hz,q⟩:=h;obtain ⟨u,rfl,ru⟩:=r.one
 cases ru
 obtain ⟨its,rv,pl,_⟩:=I.list hl;have hi:=intsAre_of rv;have ha:AllInts its.toArray:=hi.allInts;obtain ⟨zs,ez⟩:=ha.items;have en:zs.toList.map (·.1)=ns:=by
  have h1:=nums_intItems zs;rw [← ez] at h1;rw [← h1];exact hi.numsOf
 have hs:0 < zs.size:=by
  have:zs.size=ns.length:=by rw [← en];simp
  omega
 refine min_intList (xs:=zs) (I.ok.hd hc) (by rw [← ez];exact pl.isList) hs fun v h' tk hv k=>?_;obtain ⟨t,rfl⟩:=intItems_at hv;obtain ⟨h1,h2⟩:=argBest_lt (numAt zs) (zs.size-1);refine ⟨.int _,H,I.kept k,⟨t,rfl⟩,q _ ?_ fun x hx=>?_⟩
 ·rw [numAt_eq,← en];exact getD_mem (by rw [List.length_map,Array.length_toList];omega)
 ·rw [← en] at hx;obtain ⟨j,hj,ej⟩:=mem_getD (d:=0) hx;rw [← ej];rw [List.length_map,Array.length_toList] at hj;rw [← numAt_eq];exact h2 j (by omega)
def zfG (K:PySem.W.Frag):List V→Hp→VK→Prop:=fun xs H Q=>∃ (a:Addr) (ns:List Int),xs=[.ref a]∧SqL K H a (ns.map V.int)∧ns.length < 64∧∀ ns':List Int,ns'.Perm ns→ns'.Pairwise (·≤·)→∀ p,H p=none→Q (.ref p) (upd H p (.lst (ns'.map V.int)))
theorem zdJ (hK:X.K=K):zcf X (.builtin "sorted") (zfG K):=by
 subst hK;intro pins s σ H xs us Q I r h;obtain ⟨a,ns,rfl,hl,hz,q⟩:=h;obtain ⟨u,rfl,ru⟩:=r.one
 cases ru
 obtain ⟨its,rv,pl,_⟩:=I.list hl;have hi:=intsAre_of rv;have hlen:its.length < 64:=by rw [← rv.length,List.length_map];exact hz
 refine sorted_ints pl.isList hi hlen fun out ns' a1 a2 a3=>?_;obtain ⟨e,he⟩:=sortedAll_at s.heap its out;have hf:H (s.heap.objs.size+1)=none:=I.hok.fresh (Nat.le_succ _);refine ⟨.ref (s.heap.objs.size+1),_,I.laid (t':=s.toks) (o:=.lst (ns'.map V.int)) (fun b o x=>sortedAll_old x) (Nat.le_succ _) ?_,rfl,q ns' a2 a3 _ hf⟩;refine ⟨by rw [List.length_map,a2.length_eq,sizeLine_eq];omega,out.toList,e,vals_ints a1,?_⟩;exact he
end
section
variable {σ:St} {H:Hp} {Q:VK} {K:PySem.W.Frag} {a:Addr} {ns:List Int} {bs:List Bool}
theorem zgs (h:SqL K H a (ns.map V.int)) (hb:∀ x∈ns,0≤x∧x≤1000000) (hz:ns.length≤1000) (q:Q (.int ns.sum) H):cSum K [.ref a] H Q:=⟨a,ns,rfl,h,hb,hz,q⟩
theorem zfH (h:SqL K H a (ns.map V.int)) (hz:0 < ns.length) (q:∀ m∈ns,(∀ x∈ns,m≤x)→Q (.int m) H):zik K [.ref a] H Q:=⟨a,ns,rfl,h,hz,q⟩
theorem zd5 (h:SqL K H a (ns.map V.int)) (hz:ns.length < 64) (q:∀ ns':List Int,ns'.Perm ns→ns'.Pairwise (·≤·)→∀ p H2,H p=none→Same H H2→H2 p=some (.lst (ns'.map V.int))→Q (.ref p) H2):zfG K [.ref a] H Q :=
 ⟨a,ns,rfl,h,hz,fun ns' h1 h2 p hp=>q ns' h1 h2 p _ hp (zaG hp) zal⟩
end
end L2
namespace L2
open PySem PySem.Spec PyProof.Rows
section
variable {σ:St} {H:Hp} {Q:VK} {K:PySem.W.Frag} {js:List Nat} {te:TE} {tc:TT} {J:It} {n k:Nat} {x y:Nat→V} {g:TG} {w:Nat→St}
def zeN (J:It) (k:Nat) (js:List Nat) (g:TG) (tc:TT) (te:TE) (σ:St) (H:Hp) (Q:VK):Prop:=∀ p,H p=none →
 ∃ W:Nat→Nat→St→Hp→Prop,(∃ m,W 0 m (capS k js σ) (upd H p (.lst [])))∧∀ i m σc H,W i m σc H →
  (J.stop i H∧Q (.ref p) H)∨(J.go i H∧∃ N:St→Hp→Prop,(∀ σ' H',N σ' H'→∃ m',m' < m∧W (i+1) m' σ' H')∧∀ x H',J.yld i H x H' →
   g x σc H' fun σ2 H2=>tc σ2 H2 fun b H3=>if b=true then te σ2 H3 fun v H4=>∃ ys,H4 p=some (.lst ys)∧ys.length < sizeLine∧N σ2 (upd H4 p (.lst (ys++[v]))) else N σ2 H3)
theorem zcu (h:zeN J 1 js (zbR 0) tc te σ H Q):zdG J js tc te σ H Q:=h
structure zbS (J:It) (n k:Nat) (js:List Nat) (σ:St) (g:TG) (w:Nat→St) (H:Hp):Prop where
 len:∀ i,(w i).length=k
 go:∀ i H',Same H H'→i < n→J.go i H'
 stop:∀ H',Same H H'→J.stop n H'
 yld:∀ i H' v H2 (u:St) (N:St→Hp→Prop),Same H H'→i < n→u.length=k→J.yld i H' v H2→(∀ H3,Same H' H3→N (w i++capV js σ) H3)→g v (u++capV js σ) H2 N
theorem zbS.one (it:Iter J n x H):zbS J n 1 js σ (zbR 0) (fun i=>[some (x i)]) H where
 len:=fun _=>rfl
 go:=it.go
 stop:=it.stop
 yld:=fun i H' v H2 u N s hi hu hy q=>by
  obtain ⟨rfl,rfl⟩:=it.yld i H' v H2 s hi hy
  match u,hu with
  | [a],_=>exact q _ (Same.refl _)
theorem zfI (T:zbS J n k js σ g w H) (hz:n≤1000) (c:Nat→Bool) (f:Nat→V)
  (ht:∀ i H' Q',i < n→Same H H'→(∀ H2,Same H' H2→Q' (c i) H2)→tc (w i++capV js σ) H' Q')
  (he:∀ i H' Q',i < n→Same H H'→c i=true→(∀ H2,Same H' H2→Q' (f i) H2)→te (w i++capV js σ) H' Q')
  (hq:∀ p H2,H p=none→Same H H2→H2 p=some (.lst (((List.range n).filter c).map f))→Q (.ref p) H2):zeN J k js g tc te σ H Q:=by
 intro p hp;refine ⟨fun i m σc H'=>m=n-i∧i≤n∧(∃ u:St,u.length=k∧σc=u++capV js σ)∧Same H H'∧H' p=some (.lst (((List.range i).filter c).map f)),⟨n,by simp,Nat.zero_le _,⟨List.replicate k none,List.length_replicate,rfl⟩,zaG hp,zal⟩,?_⟩;rintro i m σc H' ⟨rfl,hi,⟨u,hu,rfl⟩,s,hpp⟩;have hlen:(((List.range i).filter c).map f).length≤i:=by
  rw [List.length_map];exact Nat.le_trans (List.length_filter_le _ _) (by simp)
 have hsl:n < sizeLine:=zaU hz
 by_cases hlt:i < n
 ·refine .inr ⟨T.go i _ s hlt,fun σ' H'=>(∃ u:St,u.length=k∧σ'=u++capV js σ)∧Same H H'∧H' p=some (.lst (((List.range (i+1)).filter c).map f)),fun σ' H' ⟨h1,h2,h3⟩=>⟨n-(i+1),by omega,rfl,hlt,h1,h2,h3⟩,fun v H2 hy=>?_⟩;have e:(List.range (i+1)).filter c=(List.range i).filter c++if c i=true then [i] else []:=by
   rw [List.range_succ,List.filter_append]
   cases hc:c i <;> simp [hc]
  refine T.yld i H' v H2 u _ s hlt hu hy fun H3 s3=>?_;refine ht i _ _ hlt (s.trans s3) fun H4 s4=>?_;have s34:=s3.trans s4
  cases hc:c i with
  | false =>
    rw [if_neg Bool.false_ne_true];refine ⟨⟨w i,T.len i,rfl⟩,s.trans s34,?_⟩;rw [e,hc];simpa using s34 _ _ hpp
  | true =>
    rw [if_pos rfl];refine he i _ _ hlt (s.trans s34) hc fun H5 s5=>?_;refine ⟨_,s5 _ _ (s34 _ _ hpp),by omega,⟨w i,T.len i,rfl⟩,zes ((s.trans s34).trans s5) hp,?_⟩;rw [zal,e,hc];simp
 ·have e:i=n:=by omega
  subst e;exact .inl ⟨T.stop _ s,hq p _ hp s hpp⟩
theorem zb5 (T:zbS J n k js σ g w H) (hz:n≤1000) (f:Nat→List Int)
  (he:∀ i H' Q',i < n→Same H H'→(∀ q H2,H' q=none→Same H' H2→H2 q=some (.lst ((f i).map V.int))→Q' (.ref q) H2)→te (w i++capV js σ) H' Q')
  (hq:∀ p H2,zaC H p ((List.range n).map f) H2→Q (.ref p) H2):zeN J k js g tTT te σ H Q:=by
 intro p hp;refine ⟨fun i m σc H'=>m=n-i∧i≤n∧(∃ u:St,u.length=k∧σc=u++capV js σ)∧zaC H p ((List.range i).map f) H',⟨n,by simp,Nat.zero_le _,⟨List.replicate k none,List.length_replicate,rfl⟩,zaC.start hp (zaG hp) zal⟩,?_⟩;rintro i m σc H' ⟨rfl,hi,⟨u,hu,rfl⟩,R⟩;have s:=R.same;have hsl:n < sizeLine:=zaU hz
 by_cases hlt:i < n
 ·refine .inr ⟨T.go i _ s hlt,fun σ' H'=>(∃ u:St,u.length=k∧σ'=u++capV js σ)∧zaC H p ((List.range (i+1)).map f) H',fun σ' H' ⟨h1,h2⟩=>⟨n-(i+1),by omega,rfl,hlt,h1,h2⟩,fun v H2 hy=>?_⟩;refine T.yld i H' v H2 u _ s hlt hu hy fun H3 s3=>?_;refine r_tt ?_;rw [if_pos rfl];refine he i _ _ hlt (s.trans s3) fun q H4 f4 s4 e4=>?_;obtain ⟨zs,hzs,hzl⟩:=R.lst;have hzn:zs.length=i:=by rw [hzl];simp
  have hp4:=s4 _ _ (s3 _ _ hzs);refine ⟨zs,hp4,by omega,⟨w i,T.len i,rfl⟩,?_⟩;rw [List.range_succ,List.map_append];exact R.push (s3.free f4) (s3.trans s4) e4 hp4 But.upd zal
 ·have e:i=n:=by omega
  subst e;exact .inl ⟨T.stop _ s,hq p _ R⟩
end
end L2
namespace L2
open PySem PySem.Spec PyProof.Rows
section
variable {prog:Program} {w:World} {A:Around} {E:Value→Shared→Prop} {s:Shared}
abbrev kwS (v:Value):List (Str×Value):=[(Str.ofString "start",v)]
theorem zeO (a v:Value):checkTypeCall "enumerate" ⟨[a],kwS v⟩=pure ():=by kernel_rfl
theorem zfJ (a v:Value):checkBuiltinCall "enumerate.__new__" ⟨[.type "enumerate",a],kwS v⟩=pure ():=by kernel_rfl
theorem zeP (a b v:Value):argsOk "object.__init__" ⟨[a,b],kwS v⟩:=by unfold argsOk;kernel_rfl
theorem zd6 (l:Addr) (items:Array Value) (n:Nat) (dct:Option Addr) (sl:Array (Option Value)) (t:Tok) :
  Meets (Builtin.«enumerate.__new__» ⟨[.type "enumerate",.ref l],kwS (.int 1 t)⟩) (fun _ R s=>s.heap.get? l=some { cls:=.type "list",dict:=dct,data:=.seq items n,slots:=sl } ∧
   R (.ok (.ret (.ref (s.heap.push { cls:=.type "list_iterator",data:=.fields #[.ref l,.int 0 0] }).objs.size)))
    { s with heap:=(s.heap.push { cls:=.type "list_iterator",data:=.fields #[.ref l,.int 0 0] }).push { cls:=.type "enumerate",data:=.fields #[.none,.bool false,.ref s.heap.objs.size,rawInt 1,.none,.none] } }) :=
 .of_wp fun prog w A R s ⟨hl,h⟩=>by
  obtain ⟨hp,g,d,tk,os⟩:=s;have hsub:=sub_enumerate;have hL:Heap.IsList (Shared.heap ⟨hp,g,d,tk,os⟩) l items:=⟨_,hl,rfl,n,rfl⟩
  wp_walk using AutoSeq1.wpAny_loadPart' hl
  refine wpAny_stack_any fun st=>wpAny_pure ?_;split
  ·rename_i c _ _ _ _ _
   cases hcc:(c == Value.type "enumerate")
   ·wp_walk using AutoSeq1.wpAny_loadPart' hl,wpAny_pyIter_list hL
    exact ⟨_,rfl,h⟩
   ·wp_walk using AutoSeq1.wpAny_loadPart' hl,wpAny_pyIter_list hL
    exact ⟨_,rfl,h⟩
  ·wp_walk using AutoSeq1.wpAny_loadPart' hl,wpAny_pyIter_list hL
   exact ⟨_,rfl,h⟩
theorem zd7 (self a v:Value):Meets (Builtin.«object.__init__» ⟨[self,a],kwS v⟩) (fun _ R s=>s.TypeIs self "enumerate"∧R (.ok (.ret .none)) s):=by
 refine Meets.of_wp fun prog w A R s hs=>?_;obtain ⟨hT,hq⟩:=hs;have hl:=F.called_enumerate.init.lookup;have hm:=F.called_enumerate.made;have hne:(some "enumerate.__new__" != some "object.__new__")=true:=by decide
 repeat (any_goals (first | (assumption) | wp_step))
 exact ⟨_,rfl,hq⟩
theorem zeQ {l:Addr} {items:Array Value} {t:Tok} {Q:Value→Shared→Prop} (hL:s.heap.IsList l items)
  (h:∀ h',IsEnum h' (s.heap.objs.size+1) s.heap.objs.size 1 .none→h'.IsListIter s.heap.objs.size l 0→(∀ b o,s.heap.get? b=some o→h'.get? b=some o)→Q (.ref (s.heap.objs.size+1)) { s with heap:=h' }) :
  wpAny (model prog w) A (call (.type "enumerate") [.ref l] (kwS (.int 1 t))) Q E s:=by
 obtain ⟨⟨c,dct,dt,sl⟩,hl,hc,n,hd⟩:=hL;obtain rfl:c=.type "list":=hc;obtain rfl:dt=.seq items n:=hd;have ft:=F.called_enumerate;obtain ⟨c0,tl,hmro⟩:=ft.mro;have hmade:=ft.made;have hsub:=ft.sub;have hct:=zeO (.ref l) (.int 1 t);refine wpAny_call (codeAny_of_tree ?_);show wpAny _ _ (callAny (.type "enumerate") _) _ _ _;refine wpAny_pure ⟨Code.quiet_builtin _ (by decide +kernel),codeAny_builtin F.entry_type_call ?_⟩;rw [Around.under_plain (weight_type_call_type "enumerate" [.ref l] (kwS (.int 1 t))) (units_type_call_type "enumerate" [.ref l] (kwS (.int 1 t)))];have n1:=ft.notType;have n2:=ft.canCreate
 repeat (any_goals (first | (assumption) | wp_step))
 have hz:(s.heap.push { cls:=.type "list_iterator",data:=.fields #[.ref l,.int 0 0] }).objs.size=s.heap.objs.size+1:=Heap.size_push ..
 let R0:Result→Shared→Prop:=fun r s'=>r=.ok (.ret (.ref (s.heap.objs.size+1)))∧∃ h',s'={ s with heap:=h' }∧IsEnum h' (s.heap.objs.size+1) s.heap.objs.size 1 .none∧h'.IsListIter s.heap.objs.size l 0∧(∀ b o,s.heap.get? b=some o→h'.get? b=some o)
 have key:codeAny (model prog w) A.in1 (Code.call (.builtin "enumerate.__new__") ⟨[.type "enumerate",.ref l],kwS (.int 1 t)⟩) R0 s:=by
  refine codeAny_call_builtin ft.plain F.entry_enumerate_new (wpAny_of_eq (zfJ _ _) (zd6 l items n dct sl t prog w A.in1 R0 s ⟨hl,?_⟩));rw [hz];refine ⟨rfl,_,rfl,?_,⟨_,Heap.get?_push_of_some _ (Heap.get?_push_size _ rfl),rfl,rfl⟩,fun b o x=>Heap.get?_push_of_some _ (Heap.get?_push_of_some _ x)⟩;have e:=Heap.get?_push_size (s.heap.push { cls:=.type "list_iterator",data:=.fields #[.ref l,.int 0 0] }) (o:={ cls:=.type "enumerate",data:=.fields #[.none,.bool false,.ref s.heap.objs.size,rawInt 1,.none,.none] }) rfl;rw [hz] at e;exact e
 refine codeAny_mono key fun r s1 hr=>?_;obtain ⟨rfl,h',rfl,a1,a2,a3⟩:=hr;have hT:Shared.TypeIs { s with heap:=h' } (.ref (s.heap.objs.size+1)) "enumerate":=⟨_,a1,rfl⟩
 have hli:=ft.init.lookup;have hbi:=ft.init.bind (.ref (s.heap.objs.size+1))
 repeat (any_goals (first | (assumption) | wp_step))
 let R1:Result→Shared→Prop:=fun r s'=>r=.ok (.ret .none)∧s'={ s with heap:=h' }
 have key2:codeAny (model prog w) A.in1 (Code.call (.builtin "object.__init__") ⟨[.ref (s.heap.objs.size+1),.ref l],kwS (.int 1 t)⟩) R1 { s with heap:=h' } :=
  codeAny_call_builtin ft.init.plain F.entry_object_init (ft.init.check _ _ _ _ _ _ _ _ hT (zeP _ _ _) (zd7 _ _ _ prog w A.in1 R1 _ ⟨hT,rfl,rfl⟩))
 refine codeAny_mono key2 fun r s2 hr=>?_;obtain ⟨rfl,rfl⟩:=hr
 repeat (any_goals (first | (assumption) | wp_step))
 exact h _ a1 a2 a3
theorem zeR {e it l:Addr} {i:Nat} {c:Int} {xs:Array Value} {x old:Value} {Q:Value→Shared→Prop} (he:IsEnum s.heap e it c old) (hit:s.heap.IsListIter it l i) (hl:s.heap.IsList l xs) (hx:xs[i]? = some x) (ne:e≠it)
  (q:∀ k,IsEnumOut k e it (c+1) x s.heap.objs.size→k.IsListIter it l (i+1)→k.get? s.heap.objs.size=some { cls:=.type "tuple",data:=.seq #[.int c s.toks,x] } →
   (∀ b o,b≠e→b≠it→s.heap.get? b=some o→k.get? b=some o)→Q (.ref s.heap.objs.size) { s with heap:=k,toks:=s.toks+1 }) :
  wpAny (model prog w) A (Builtin.«enumerate.__next__» ⟨[.ref e],[]⟩) (fun fin s'=>∃ v,fin=.done (.ret v)∧Q v s') E s:=by
 obtain ⟨g0,ge,dr,tk,os⟩:=s;have elt:e < g0.objs.size:=Heap.lt_size he;show wpAny _ _ (field (.ref e) 2 >>= _) _ _ _;refine wpAny_bind (wpAny_field he rfl (x:=.ref it) rfl (wpAny_bind (wpAny_nextOf_list_item hit hl hx fun g1 i1 b1=>?_)));replace b1:Heap.SameBut it g0 g1:=b1;have e1:IsEnum g1 e it c old:=(b1.2 e ne).trans he;show wpAny _ _ (field (.ref e) 3 >>= _) _ _ ⟨g1,ge,dr,tk,os⟩;refine wpAny_bind (wpAny_field e1 rfl (x:=rawInt c) rfl ?_);show wpAny _ _ (field (.ref e) 4 >>= _) _ _ ⟨g1,ge,dr,tk,os⟩;refine wpAny_bind (wpAny_field e1 rfl (x:=.none) rfl ?_);show wpAny _ _ (mkInt c >>= _) _ _ ⟨g1,ge,dr,tk,os⟩;refine wpAny_bind (wpAny_mkInt ?_);show wpAny _ _ (setField (.ref e) 3 (rawInt (c+1)) >>= _) _ _ ⟨g1,ge,dr,tk+1,os⟩;refine wpAny_bind (wpAny_setField_rec e1 (by simp) fun g2 e2 b2=>?_);replace b2:Heap.SameBut e g1 g2:=b2;replace e2:IsEnum g2 e it (c+1) old:=e2;show wpAny _ _ (setField (.ref e) 4 .none >>= _) _ _ ⟨g2,ge,dr,tk+1,os⟩;refine wpAny_bind (wpAny_setField_rec e2 (by simp) fun g3 e3 b3=>?_);replace b3:Heap.SameBut e g2 g3:=b3;replace e3:IsEnum g3 e it (c+1) old:=e3;show wpAny _ _ (newTuple [.int c tk,x] >>= _) _ _ ⟨g3,ge,dr,tk+1,os⟩;refine wpAny_bind (wpAny_newTuple ?_);have z3:g3.objs.size=g0.objs.size:=by rw [b3.1,b2.1,b1.1]
 have keep3:∀ b o,b≠e→b≠it→g0.get? b=some o→g3.get? b=some o:=fun b o n1 n2 y=>b3.extBut b o n1 (b2.extBut b o n1 (b1.extBut b o n2 y));have i3:g3.IsListIter it l (i+1):=(i1.extBut b2.extBut ne.symm).extBut b3.extBut ne.symm;have e4:IsEnum (g3.push { cls:=.type "tuple",data:=.seq #[.int c tk,x] }) e it (c+1) old:=Heap.get?_push_of_some _ e3;have t4:(g3.push { cls:=.type "tuple",data:=.seq #[.int c tk,x] }).get? g0.objs.size=some { cls:=.type "tuple",data:=.seq #[.int c tk,x] }:=by rw [← z3];exact Heap.get?_push_size _ rfl
 have keep4:∀ b o,b≠e→b≠it→g0.get? b=some o→(g3.push { cls:=.type "tuple",data:=.seq #[.int c tk,x] }).get? b=some o:=fun b o n1 n2 y=>Heap.get?_push_of_some _ (keep3 b o n1 n2 y);have i4:(g3.push { cls:=.type "tuple",data:=.seq #[.int c tk,x] }).IsListIter it l (i+1):=i3.at fun o y=>Heap.get?_push_of_some _ y;rw [z3];generalize g3.push { cls:=.type "tuple",data:=.seq #[.int c tk,x] }=g4 at e4 t4 keep4 i4;show wpAny _ _ (Builtin.SmallTypes.ownedTupleIsFree (.ref e) >>= _) _ _ ⟨g4,ge,dr,tk+1,os⟩;refine wpAny_bind ?_;unfold Builtin.SmallTypes.ownedTupleIsFree;refine wpAny_bind (wpAny_field e4 rfl (x:=.none) rfl (wpAny_pure ?_));simp only [if_true];refine wpAny_bind (wpAny_rule (wpAny_bind (wpAny_field e4 rfl (x:=old) rfl (wpAny_bind (wpAny_setField_rec e4 (by simp) fun g5 e5 b5=>?_)))));replace b5:Heap.SameBut e g4 g5:=b5;replace e5:IsEnum g5 e it (c+1) x:=e5;show wpAny _ _ (Builtin.SmallTypes.ownedTupleHandOut (.ref e) (.ref g0.objs.size) >>= _) _ _ ⟨g5,ge,dr,tk+1,os⟩;refine wpAny_bind ?_;unfold Builtin.SmallTypes.ownedTupleHandOut;refine wpAny_bind (wpAny_setField_rec e5 (by simp) fun g6 e6 b6=>?_);replace b6:Heap.SameBut e g5 g6:=b6;replace e6:IsEnumOut g6 e it (c+1) x g0.objs.size:=e6;refine wpAny_setField_rec e6 (by simp) fun g7 e7 b7=>?_;replace b7:Heap.SameBut e g6 g7:=b7;have far:∀ b o,b≠e→g4.get? b=some o→g7.get? b=some o:=fun b o n1 y=>b7.extBut b o n1 (b6.extBut b o n1 (b5.extBut b o n1 y));exact wpAny_bind (wpAny_letGo (wpAny_pure ⟨_,rfl,q g7 e7 (i4.at fun o y=>far it o ne.symm y) (far _ _ (Nat.ne_of_gt elt) t4) fun b o n1 n2 y=>far b o n1 (keep4 b o n1 n2 y)⟩))
theorem zeS {e it l:Addr} {i:Nat} {c:Int} {xs:Array Value} {x old:Value} {Q:Option Value→Shared→Prop} (he:IsEnum s.heap e it c old) (hit:s.heap.IsListIter it l i) (hl:s.heap.IsList l xs) (hx:xs[i]? = some x) (ne:e≠it)
  (q:∀ k,IsEnumOut k e it (c+1) x s.heap.objs.size→k.IsListIter it l (i+1)→k.get? s.heap.objs.size=some { cls:=.type "tuple",data:=.seq #[.int c s.toks,x] } →
   (∀ b o,b≠e→b≠it→s.heap.get? b=some o→k.get? b=some o)→Q (some (.ref s.heap.objs.size)) { s with heap:=k,toks:=s.toks+1 }) :
  wpAny (model prog w) A (pyNext (.ref e)) Q E s:=by
 have hT:s.TypeIs (.ref e) "enumerate":=⟨_,he,rfl⟩
 unfold pyNext;refine wpAny_bind (wpAny_attempt (wpAny_callSpecial?_slot (name:=Str.ofString "__next__") hT F.slot_enumerate_next (wpAny_call_entry F.slot_enumerate_next hT F.entry_enumerate_next ?_ (F.args_enumerate_next_1 _))));exact zeR he hit hl hx ne fun k a b d f=>wpAny_pure (q k a b d f)
theorem zfK {e it l:Addr} {i:Nat} {c:Int} {xs:Array Value} {old:Value} {Q:Option Value→Shared→Prop} (hh:A.handled=none) (he:IsEnum s.heap e it c old) (hit:s.heap.IsListIter it l i) (hl:s.heap.IsList l xs) (hx:xs[i]? = none)
  (q:∀ k,Heap.ExtBut it s.heap k→Q none { s with heap:=k }):wpAny (model prog w) A (pyNext (.ref e)) Q E s:=by
 have hT:s.TypeIs (.ref e) "enumerate":=⟨_,he,rfl⟩
 unfold pyNext;refine wpAny_bind (wpAny_attempt (wpAny_callSpecial?_slot (name:=Str.ofString "__next__") hT F.slot_enumerate_next (wpAny_call_entry F.slot_enumerate_next hT F.entry_enumerate_next ?_ (F.args_enumerate_next_1 _))));show wpAny _ _ (field (.ref e) 2 >>= _) _ _ _;refine wpAny_bind (wpAny_field he rfl (x:=.ref it) rfl (wpAny_bind (wpAny_nextOf_list_end hh hit hl hx fun k y hk hy=>?_)));obtain ⟨o,ho,hc⟩:=hy;exact wpAny_bind (wpAny_isInstance (T:="StopIteration") (b:=true) ⟨o,ho,hc⟩ isSubtype_stop (wpAny_pure (q _ hk)))
theorem zdf {M:Model} {env:Env} {pos:Pos} {T:String} {e:Expr} {rest:List Expr} {kws:List Keyword} {Q:Value→Shared→Prop}
  (h:wpAny M A (spliced (backTo pos (starEach (e::rest) env))) (fun vs s1=>wpAny M A (evalAll ((backToKw pos (keywordEach kws env)).map (·.2)))
   (fun ks s2=>wpAny M A (call (.type T) vs (((backToKw pos (keywordEach kws env)).filterMap (·.1)).zip ks)) Q E s2) E s1) E s)
  (he:backTo pos (starEach (e::rest) env)=(false,eval e env)::backTo pos (starEach rest env)) (hp:(backTo pos (starEach (e::rest) env)).any (·.1)=false)
  (ha:(backToKw pos (keywordEach kws env)).all (·.1.isSome)=true) (hk:(backToKw pos (keywordEach kws env)).any (·.1.isNone)=false) :
  wpAny M A (callWith pos (.type T) [] (backTo pos (starEach (e::rest) env)) (backToKw pos (keywordEach kws env))) Q E s:=by
 have h2:wpAny M A (evalArgs (.type T) true (backTo pos (starEach (e::rest) env)) (backToKw pos (keywordEach kws env))) (fun a s1=>wpAny M A (call (.type T) ([]++a.pos) a.kw) Q E s1) E s:=by
  rw [he] at h ⊢;exact evalArgs_kwB ha h
 unfold callWith;refine wpAny_bind (wpAny_holding (wpAny_mono h2 (fun a s1 h1=>wpAny_bind (wpAny_standAt ?_)) fun _ _ z=>z));simp only [hp,hk,Bool.or_false];exact wpAny_bind (wpAny_pure (wpAny_bind (wpAny_mono h1 (fun r s2 hr=>wpAny_bind (wpAny_holding (wpAny_point (wpAny_pure hr)))) fun _ _ z=>z)))
end
def Ite (K:PySem.W.Frag) (a:Addr) (c:Int):It :=
 ⟨fun i H=>∃ xs x,SqL K H a xs∧xs[i]? = some x,
  fun i H v H'=>∃ T,H T=none∧v=.ref T∧∀ xs,SqL K H a xs→∃ x,xs[i]? = some x∧H'=upd H T (.tup [.int (c+i),x]),
  fun i H=>∃ xs,SqL K H a xs∧xs.length≤i⟩
theorem zfL {P:Program} {w:World} {K:PySem.W.Frag} {elts:List Expr} {x1:Nat} {tpos:Pos} {l z I:Addr} {c:Int} (hzI:z≠I) (hlz:l≠z) (hlI:l≠I) :
  Turn P w K (.Tuple elts x1 tpos) (Ite K l c) [z,I] z (fun i h=>(∃ old,IsEnum h z I (c+i) old)∧h.IsListIter I l i) where
 mem:=by simp
 obj:=fun i h st b hb=>by
  obtain ⟨⟨old,h1⟩,o2,h2,c2,d2⟩:=st;simp only [List.mem_cons,List.not_mem_nil,or_false] at hb;rcases hb with rfl | rfl
  ·exact ⟨_,h1,fun v y=>by cases y⟩
  ·exact ⟨_,h2,fun v y=>by rw [d2] at y;cases y⟩
 keep:=fun i h h' st k=>by
  obtain ⟨⟨old,h1⟩,h2⟩:=st;exact ⟨⟨old,k z (by simp) _ h1⟩,h2.at fun o e=>k I (by simp) o e⟩
 item:=by
  intro X hP hw hK hc i pins s σ H E Iv hf st hg;subst hP hw hK;obtain ⟨xs,x,hq,hx⟩:=hg;obtain ⟨its,rv,p1,_⟩:=Iv.list hq;obtain ⟨u,hu,ru⟩:=rv.get hx;obtain ⟨⟨old,g1⟩,g2⟩:=st;have hI:I < s.heap.objs.size:=by obtain ⟨_,y,_⟩:=g2;exact Heap.lt_size y
  have hz:z < s.heap.objs.size:=Heap.lt_size g1;refine zeS g1 g2 p1.isList (x:=u) (by simpa using hu) hzI fun k a1 a2 a3 a4=>⟨_,rfl,?_⟩
  refine wpAny_letOwnedTupleGo_enum a1 fun k2 b1 b2=>?_;replace b2:Heap.SameBut z k k2:=b2;have hTn:H s.heap.objs.size=none:=Iv.hok.fresh (Nat.le_refl _);have keep:∀ b ob,b∉[z,I]→s.heap.get? b=some ob→k2.get? b=some ob:=fun b ob hb e=>by
   simp only [List.mem_cons,List.not_mem_nil,or_false,not_or] at hb;exact b2.extBut b ob hb.1 (a4 b ob hb.1 hb.2 e)
  have ei:c+(i:Int)+1=c+((i+1:Nat):Int):=by rw [Int.natCast_add];omega
  have c2:k2.IsListIter I l (i+1):=a2.extBut b2.extBut hzI.symm;refine ⟨.ref s.heap.objs.size,upd H s.heap.objs.size (.tup [.int (c+i),x]),?_,rfl,⟨_,hTn,rfl,fun xs' q'=>?_⟩,⟨⟨_,by rw [← ei];exact b1⟩,c2⟩,fun b hb=>?_⟩
  ·refine Iv.turnedNew (t':=s.toks+1) (ch:=[z,I]) keep (fun b hb=>⟨hf b hb,?_⟩) (Nat.le_refl _) ?_
   ·simp only [List.mem_cons,List.not_mem_nil,or_false] at hb;rcases hb with rfl | rfl
    ·exact ⟨_,b1⟩
    ·obtain ⟨o,e,_⟩:=c2;exact ⟨_,e⟩
   ·exact ⟨by show 2≤sizeLine;rw [sizeLine_eq];decide,[.int (c+i) s.toks,u],.cons ⟨_,rfl⟩ (.cons ru .nil),_,b2.extBut _ _ (Nat.ne_of_gt hz) a3,rfl,_,rfl⟩
  ·rw [Iv.list_inj q' hq];exact ⟨x,hx,rfl⟩
  ·have:b≠s.heap.objs.size:=by
    simp only [List.mem_cons,List.not_mem_nil,or_false] at hb;rcases hb with rfl | rfl
    ·exact Nat.ne_of_lt hz
    ·exact Nat.ne_of_lt hI
   rw [zau this];exact (hf b hb).1
 done:=by
  intro X hP hw hK hc i pins s σ H E Iv hf st hg;subst hP hw hK;obtain ⟨xs,hq,hx⟩:=hg;obtain ⟨its,rv,p1,_⟩:=Iv.list hq;obtain ⟨⟨old,g1⟩,g2⟩:=st;have hl1:=rv.length;refine zfK (Iv.ok.hd hc) g1 g2 p1.isList (Array.getElem?_eq_none (by simp;omega)) fun k hk=>⟨rfl,Iv.turnedL (t':=s.toks) (ch:=[z,I]) (fun b ob hb e=>?_) hf⟩
  simp only [List.mem_cons,List.not_mem_nil,or_false,not_or] at hb;exact hk b ob hb.2 e
 self:=fun _ _ _ _ _ ⟨⟨_,st⟩,_⟩ h=>wpAny_pyIter_enum st h
section
variable {X:Cx} {K:PySem.W.Frag}
def zil (K:PySem.W.Frag) (c:Int) (ta:TA):TI:=fun σ H R=>ta σ H fun vs H1=>∃ a xs,vs=[.ref a]∧SqL K H1 a xs∧R (Ite K a c) H1
theorem zhr {pins:List (Addr×Obj)} {σ:St} {H:Hp} {s:Shared} {h':Heap} (I:Inv X pins σ H s) (b:Addr) (hb:b∈[s.heap.objs.size+1,s.heap.objs.size]):FpOk X pins H b:=by
 have hge:s.heap.objs.size≤b:=by
  simp only [List.mem_cons,List.not_mem_nil,or_false] at hb;rcases hb with rfl | rfl
  ·exact Nat.le_succ _
  ·exact Nat.le_refl _
 exact I.fpOk hge (I.hok.fresh hge)
theorem zgt {a:Expr} {ta:TA} {p pos tpos kpos cpos:Pos} {ci:Nat} {elts:List Expr} {x1:Nat} (hK:X.K=K) (hg:Gl X "enumerate") (hm:X.mg "enumerate" = none) (ha:PA X [a] ta)
  (hb:bootBuiltins "enumerate" = some (.type "enumerate"):=by rfl)
  (he:backTo pos (starEach [a] X.env)=(false,eval a X.env)::backTo pos (starEach [] X.env):=by rfl) (hpl:(backTo pos (starEach [a] X.env)).any (·.1)=false:=by rfl) :
  PI X (.Tuple elts x1 tpos) (.Call (.Name "enumerate" p) [a] [⟨some "start",.Constant (.int 1) ci cpos,kpos⟩] pos) (zil K 1 ta):=by
 subst hK;intro pins s σ H R I h;refine wpAny_Call_Name_kw (zcx I hg hm hb ?_ (by decide) (by decide));refine zdf (thn (ha pos pins s σ H _ I h) fun us s1 ⟨vs,H1,I1,r1,q1⟩=>thn ((zgY zae pk_nil) pos pins s1 σ H1 (fun zs H2=>zs=[.int 1]∧H2=H1) I1 ⟨rfl,rfl⟩) fun ws s2 ⟨zs,H2,I2,r2,q2⟩=>?_) he hpl rfl rfl;obtain ⟨rfl,rfl⟩:=q2;obtain ⟨l,xs,e,q1,q⟩:=q1;subst e;obtain ⟨v1,rfl,ru⟩:=r1.one
 cases ru
 obtain ⟨v2,rfl,tt,rfl⟩:=r2.one;obtain ⟨its,rv,p1,_⟩:=I2.list q1;obtain ⟨o1,e1,_⟩:=p1.isList;have L1:=Heap.lt_size e1;refine zeQ p1.isList fun k a1 a2 a4=>?_;refine wpAny_pyIter_enum a1 ?_;have I3:Inv X pins σ H2 { s2 with heap:=k }:=I2.kept (t':=s2.toks) a4;exact ⟨s2.heap.objs.size+1,_,_,Ite X.K l 1,H2,rfl,I3,zfL (Nat.succ_ne_self _) (Nat.ne_of_lt (Nat.lt_succ_of_lt L1)) (Nat.ne_of_lt L1),⟨⟨_,a1⟩,a2⟩,zhr (h':=k) I2,q⟩
end
section
variable {σ:St} {H:Hp} {D:Ends} {nx bk ct:St→Hp→Prop} {rt:VK} {K:PySem.W.Frag} {Q:VK} {js:List Nat} {te:TE} {tc:TT} {c:Int} {a b:Addr} {xs ys:List V}
theorem zhs {tl:TA} {k:Nat} {g:TG} (h:tl σ H fun vs H1=>∃ a xs,vs=[.ref a]∧SqL K H1 a xs∧zeN (Ite K a c) k js g tc te σ H1 Q):zeH (zil K c tl) k js g tc te σ H Q:=h
theorem zht {tl:TA} {k:Nat} {g:TG} (h:tl σ H fun vs H1=>∃ a b xs ys,vs=[.ref a,.ref b]∧SqL K H1 a xs∧SqL K H1 b ys∧zeN (Itz K a b) k js g tc te σ H1 Q):zeH (iZip K tl) k js g tc te σ H Q:=h
theorem zgu {P:Addr→Prop} (h:SqL K H a xs) (q:P a):∃ b xs,[V.ref a]=[.ref b]∧SqL K H b xs∧P b:=⟨a,xs,rfl,h,q⟩
theorem zbS.enum (h:SqL K H a xs):zbS (Ite K a c) xs.length 2 js σ (gTup K 2 (zfb (zbR 0) (zfb (zbR 1) gNil))) (fun i=>[some (.int (c+i)),some (xs.getD i .non)]) H where
 len:=fun _=>rfl
 go:=fun i H' s hi=>⟨xs,xs[i],s.seq h,by simp [hi]⟩
 stop:=fun H' s=>⟨xs,s.seq h,Nat.le_refl _⟩
 yld:=fun i H' v H2 u N s hi hu hy q=>by
  obtain ⟨T,hT,rfl,yy⟩:=hy;obtain ⟨x,hx,rfl⟩:=yy xs (s.seq h);have ex:xs.getD i .non=x:=by rw [List.getD_eq_getElem?_getD,hx];rfl
  match u,hu with
  | [u1,u2],_ =>
    refine ⟨T,[.int (c+i),x],rfl,SqT.of zal,rfl,.int (c+i),[x],rfl,x,[],rfl,rfl,?_⟩;have:=q _ (zaG (o:=.tup [.int (c+i),x]) hT);rw [ex] at this;exact this
theorem zbS.zip (h:SqL K H a xs) (h2:SqL K H b ys) (hl:xs.length=ys.length):zbS (Itz K a b) xs.length 2 js σ (gTup K 2 (zfb (zbR 0) (zfb (zbR 1) gNil))) (fun i=>[some (xs.getD i .non),some (ys.getD i .non)]) H where
 len:=fun _=>rfl
 go:=fun i H' s hi=>⟨xs,ys,xs[i],ys[i],s.seq h,s.seq h2,by simp [hi],by simp [hl▸hi]⟩
 stop:=fun H' s=>⟨xs,ys,s.seq h,s.seq h2,.inl (Nat.le_refl _)⟩
 yld:=fun i H' v H2 u N s hi hu hy q=>by
  obtain ⟨T,hT,rfl,yy⟩:=hy;obtain ⟨x,y,hx,hy,rfl⟩:=yy xs ys (s.seq h) (s.seq h2);have ex:xs.getD i .non=x:=by rw [List.getD_eq_getElem?_getD,hx];rfl
  have ey:ys.getD i .non=y:=by rw [List.getD_eq_getElem?_getD,hy];rfl
  match u,hu with
  | [u1,u2],_ =>
    refine ⟨T,[x,y],rfl,SqT.of zal,rfl,x,[y],rfl,y,[],rfl,rfl,?_⟩;have:=q _ (zaG (o:=.tup [x,y]) hT);rw [ex,ey] at this;exact this
end
end L2
namespace Prf
open PySem PySem.Spec PyProof.Rows L2
end Prf
namespace L2
open PySem PySem.Spec PyProof.Rows
section
variable {X:Cx} {K:PySem.W.Frag} {o e value:Expr} {f:Str} {pos pos' tpos:Pos} {ta tv:TE}
theorem zay (hK:X.K=K) (he:PE X e ta) (hb:attributeBase e f X.env (eval e X.env)=eval e X.env:=by rfl):PE X (.Attribute e f pos) (tFld K ta f):=hK▸zhS he hb
theorem zbT (hK:X.K=K) (ha:PE X o ta) (hv:PE X value tv) (hs:swapsWith value (some (.Attribute o f pos')) pos.line X.env=pure false:=by rfl):PS X (.Assign [.Attribute o f pos'] value pos) (sFld K ta tv f):=hK▸zhT ha hv hs
end
section
variable {σ:St} {H:Hp} {Q:VK} {D:Ends} {K:PySem.W.Frag} {ta tv to ti te tb:TE} {f m:Str} {tl:TA} {C a p x:Addr} {nx bk ct:St→Hp→Prop} {rt:VK} {sp:Sp} {E:XK} {fs:List (Str×V)} {dx:Addr} {v:V} {i:Int} {xs:List V} {ns:List Int}
def zfM (K:PySem.W.Frag) (f:Str) (x:V) (H1:Hp) (Q:VK):Prop:=∃ a C dx fs v,x=.ref a∧H1 a=some (.ins C dx fs)∧Cls K C∧za8 K C f∧fs.lookup f=some v∧Q v H1
theorem zi2 (h:ta σ H fun x H1=>zfM K f x H1 Q):tFld K ta f σ H Q:=h
theorem zgv (h:H a=some (.ins C dx fs)) (c:Cls K C) (n:za8 K C f) (l:fs.lookup f=some v) (q:Q v H):zfM K f (.ref a) H Q:=⟨a,C,dx,fs,v,rfl,h,c,n,l,q⟩
def zet (K:PySem.W.Frag) (f:Str) (y x:V) (H2:Hp) (N:Hp→Prop):Prop:=∃ a C dx fs,x=.ref a∧H2 a=some (.ins C dx fs)∧Cls K C∧za8 K C f∧fs.length < 1000∧N (upd H2 a (.ins C dx (putF f y fs)))
theorem zim (h:tv σ H fun y H1=>ta σ H1 fun x H2=>zet K f y x H2 fun H3=>nx σ H3):sFld K ta tv f ⟨nx,rt,bk,ct⟩ σ H:=h
theorem zbf {y:V} {N:Hp→Prop} (h:H a=some (.ins C dx fs)) (c:Cls K C) (n:za8 K C f) (l:fs.length < 1000) (q:∀ H2,But a H H2→H2 a=some (.ins C dx (putF f y fs))→N H2):zet K f y (.ref a) H N:=⟨a,C,dx,fs,rfl,h,c,n,l,q _ But.upd zal⟩
def zaH (C:Addr) (m:Str) (sp:Sp) (E:XK) (t:TA) (σ:St) (x:V) (H1:Hp) (Q:VK):Prop:=∃ a dx fs,x=.ref a∧H1 a=some (.ins C dx fs)∧fs.lookup m=none∧t σ H1 fun vs H2=>sp (x::(vs++[])) H2 Q E
theorem zin (h:ta σ H fun x H1=>zaH C m sp E tl σ x H1 Q):zgb C m sp [] E ta tl σ H Q:=h
theorem zaB (h:H a=some (.ins C dx fs)) (l:fs.lookup m=none) (q:tl σ H fun vs H2=>sp (.ref a::(vs++[])) H2 Q E):zaH C m sp E tl σ (.ref a) H Q:=⟨a,dx,fs,rfl,h,l,q⟩
def zeu (C:Addr) (sp:Sp) (E:XK) (vs:List V) (H1:Hp) (Q:VK):Prop:=∀ x dx,H1 x=none→H1 dx=none→dx≠x→sp (.ref x::(vs++[])) (upd (upd H1 dx (.own x)) x (.ins C dx [])) (fun v H2=>v=.non∧Q (.ref x) H2) E
theorem zio (h:tl σ H fun vs H1=>zeu C sp E vs H1 Q):zhU C sp [] E tl σ H Q:=h
theorem zfN {vs:List V} (h:∀ x dx H2,H x=none→H dx=none→dx≠x→Same H H2→H2 x=some (.ins C dx [])→sp (.ref x::(vs++[])) H2 (fun v H3=>v=.non∧Q (.ref x) H3) E):zeu C sp E vs H Q :=
 fun x dx hx hd ne=>h x dx _ hx hd ne (fun b u z=>by rw [zau (zaf z hx),zau (zaf z hd)];exact z) zal
end
end L2
namespace Prf
open PySem PySem.Spec PyProof.Rows L2
end Prf
namespace L2
open PySem PySem.Spec PyProof.Rows
section
variable {σ:St} {H:Hp} {Q:VK} {K:PySem.W.Frag} {ta tb:TE} {a:Addr} {i:Int} {v:V}
def zev (y x:V) (H2:Hp) (Q:VK):Prop:=∃ a o,x=.ref a∧DGet H2 a y o∧Q (.bl (!o.isSome)) H2
theorem ziq (h:ta σ H fun y H1=>tb σ H1 fun x H2=>zev y x H2 Q):zft ta tb σ H Q:=h
theorem zfO {kvs:List (Key×V)} (h:H a=some (.dK kvs)) (q:Q (.bl (!(valV kvs (Sum.inl i:Key)).isSome)) H):zev (.int i) (.ref a) H Q:=⟨a,_,rfl,DGet.k (k:=Sum.inl i) h,q⟩
def zew (x y:V) (H2:Hp) (Q:VK):Prop:=∃ a v,x=.ref a∧DGet H2 a y (some v)∧Q v H2
theorem zir (h:ta σ H fun x H1=>tb σ H1 fun y H2=>zew x y H2 Q):zhZ ta tb σ H Q:=h
theorem zfP {kvs:List (Key×V)} (h:H a=some (.dK kvs)) (e:valV kvs (Sum.inl i:Key)=some v) (q:Q v H):zew (.ref a) (.int i) H Q:=⟨a,v,rfl,e▸DGet.k (k:=Sum.inl i) h,q⟩
end
end L2
namespace Prf
open PySem PySem.Spec PyProof.Rows L2
structure ExS where
 hs:List Int
 rs:List (List Int)
 step:Int
 dl:Option (List (List Int)×List (List Int))
def ExS.nm (s:ExS):List (List Int):=(s.dl.map (·.1)).getD []
def ExS.en (s:ExS):List (List Int):=(s.dl.map (·.2)).getD []
def zbx (en:List (List Int)) (k:Nat) (r:Int):Option Int:=((en.filter fun e=>decide (e.getD 0 0=(k:Int)+1) && decide (e.getD 1 0=r)).getLast?).map fun e=>e.getD 2 0
theorem zis (k:Nat) (r:Int):zbx [] k r=none:=rfl
def exFs (va vb vs vd vc ve:V):List (Str×V):=[("paper_houses",va),("reader_rows",vb),("widest_step",vs),("is_dealt",vd),("named_readers",vc),("entered_points",ve)]
section
variable {va vb vs vd vc ve v:V}
theorem exFs_mk:putF "entered_points" ve (putF "named_readers" vc (putF "is_dealt" vd (putF "widest_step" vs (putF "reader_rows" vb (putF "paper_houses" va [])))))=exFs va vb vs vd vc ve:=by
 unfold exFs
 repeat (first | rw [if_neg (by decide +kernel)] | simp only [putF])
theorem exFs_a:(exFs va vb vs vd vc ve).lookup ("paper_houses" : Str)=some va:=by rw [← exFs_mk];simp only [zaF];repeat (first | rw [if_pos trivial] | rw [if_pos rfl] | rw [if_neg (by decide +kernel)])
theorem exFs_b:(exFs va vb vs vd vc ve).lookup ("reader_rows" : Str)=some vb:=by rw [← exFs_mk];simp only [zaF];repeat (first | rw [if_pos trivial] | rw [if_pos rfl] | rw [if_neg (by decide +kernel)])
theorem exFs_s:(exFs va vb vs vd vc ve).lookup ("widest_step" : Str)=some vs:=by rw [← exFs_mk];simp only [zaF];repeat (first | rw [if_pos trivial] | rw [if_pos rfl] | rw [if_neg (by decide +kernel)])
theorem exFs_d:(exFs va vb vs vd vc ve).lookup ("is_dealt" : Str)=some vd:=by rw [← exFs_mk];simp only [zaF];repeat (first | rw [if_pos trivial] | rw [if_pos rfl] | rw [if_neg (by decide +kernel)])
theorem exFs_c:(exFs va vb vs vd vc ve).lookup ("named_readers" : Str)=some vc:=by rw [← exFs_mk];simp only [zaF];repeat (first | rw [if_pos trivial] | rw [if_pos rfl] | rw [if_neg (by decide +kernel)])
theorem exFs_e:(exFs va vb vs vd vc ve).lookup ("entered_points" : Str)=some ve:=by rw [← exFs_mk];simp only [zaF];repeat (first | rw [if_pos trivial] | rw [if_pos rfl] | rw [if_neg (by decide +kernel)])
theorem exFs_ps:putF "widest_step" v (exFs va vb vs vd vc ve)=exFs va vb v vd vc ve:=by
 unfold exFs;simp only [putF];repeat (first | rw [if_pos trivial] | rw [if_pos rfl] | rw [if_neg (by decide +kernel)])
end
def exFields:List Str:=["paper_houses","reader_rows","widest_step","is_dealt","named_readers","entered_points"]
theorem zhu {va vb vs vd vc ve:V} {m:Str} (h:m∉exFields):(exFs va vb vs vd vc ve).lookup m=none:=by
 have hn:∀ f∈exFields,¬m=f:=fun f hf z=>h (z▸hf);rw [← exFs_mk];simp only [zaF];rw [if_neg (hn _ (by decide +kernel)),if_neg (hn _ (by decide +kernel)),if_neg (hn _ (by decide +kernel)),if_neg (hn _ (by decide +kernel)),if_neg (hn _ (by decide +kernel)),if_neg (hn _ (by decide +kernel))];rfl
def zeT (n:Nat) (en:List (List Int)) (k:Nat) (row:List Int):Prop:=∃ f s:Int,1≤f∧f < s∧s≤n∧(row=[f,s]∨∃ t:Int,row=[f,s,t]∧1≤t∧t≤n∧t≠f∧t≠s∧(zbx en k f).isSome=true∧(zbx en k s).isSome=true)
structure Wf (st:ExS):Prop where
 ln:st.dl.isSome=true→st.nm.length=st.hs.length
 row:∀ k,k < st.nm.length→zeT st.rs.length st.en k (st.nm.getD k [])
 pts:∀ k r p,zbx st.en k r=some p→0≤p∧p≤100
 stp:0≤st.step∧st.step≤100
structure ExAd where
 x:Addr
 dx:Addr
 a:Addr
 b:Addr
 c:Addr
 d:Addr
 ps:List Addr
 qs:List Addr
 ds:List Addr
def ExAd.own (e:ExAd):List Addr:=e.x::e.a::e.b::e.c::e.d::(e.ps++(e.qs++e.ds))
structure ExIn (C:Addr) (H:Hp) (e:ExAd) (st:ExS) (kvs:List (List (Key×V))):Prop where
 ob:H e.x=some (.ins C e.dx (exFs (.ref e.a) (.ref e.b) (.int st.step) (.bl st.dl.isSome) (.ref e.c) (.ref e.d)))
 ha:H e.a=some (.lst (st.hs.map V.int))
 hb:H e.b=some (.lst (e.ps.map V.ref))
 hc:H e.c=some (.lst (e.qs.map V.ref))
 hd:H e.d=some (.lst (e.ds.map V.ref))
 lp:e.ps.length=st.rs.length
 lq:e.qs.length=st.nm.length
 ld:e.ds.length=st.nm.length
 rp:∀ i,i < st.rs.length→H (e.ps.getD i 0)=some (.lst ((st.rs.getD i []).map V.int))
 rq:∀ i,i < st.nm.length→H (e.qs.getD i 0)=some (.lst ((st.nm.getD i []).map V.int))
 rd:∀ i,i < st.nm.length→H (e.ds.getD i 0)=some (.dK (kvs.getD i []))
 vk:∀ i,i < st.nm.length→∀ r:Int,valV (kvs.getD i []) (Sum.inl r:Key)=(zbx st.en i r).map V.int
 sk:∀ i,i < st.nm.length→(kvs.getD i []).length≤st.en.length
 lk:kvs.length=st.nm.length
 nd:e.own.Nodup
 wf:Wf st
def ExAt (C:Addr) (H:Hp) (x:Addr) (F:Addr→Prop) (st:ExS):Prop:=∃ e kvs,e.x=x∧(∀ b,F b↔b∈e.own)∧ExIn C H e st kvs
theorem zeU {ps:List Addr} {i:Nat} (h:i < ps.length):ps.getD i 0∈ps:=by
 rw [List.getD_eq_getElem?_getD,List.getElem?_eq_getElem h];exact List.getElem_mem h
section
variable {C x:Addr} {H H':Hp} {e:ExAd} {st:ExS} {kvs:List (List (Key×V))} {F:Addr→Prop}
theorem own_x:e.x∈e.own:=List.mem_cons_self
theorem own_a:e.a∈e.own:=List.mem_cons_of_mem _ List.mem_cons_self
theorem own_b:e.b∈e.own:=List.mem_cons_of_mem _ (List.mem_cons_of_mem _ List.mem_cons_self)
theorem own_c:e.c∈e.own:=List.mem_cons_of_mem _ (List.mem_cons_of_mem _ (List.mem_cons_of_mem _ List.mem_cons_self))
theorem own_d:e.d∈e.own:=List.mem_cons_of_mem _ (List.mem_cons_of_mem _ (List.mem_cons_of_mem _ (List.mem_cons_of_mem _ List.mem_cons_self)))
theorem zhv {b:Addr} (h:b∈e.ps++(e.qs++e.ds)):b∈e.own:=List.mem_cons_of_mem _ (List.mem_cons_of_mem _ (List.mem_cons_of_mem _ (List.mem_cons_of_mem _ (List.mem_cons_of_mem _ h))))
theorem zit {b:Addr} (h:b∈e.ps):b∈e.own:=zhv (List.mem_append_left _ h)
theorem ziu {b:Addr} (h:b∈e.qs):b∈e.own:=zhv (List.mem_append_right _ (List.mem_append_left _ h))
theorem zgL {b:Addr} (h:b∈e.ds):b∈e.own:=zhv (List.mem_append_right _ (List.mem_append_right _ h))
theorem ExIn.keep (E:ExIn C H e st kvs) (k:∀ b o,b∈e.own→H b=some o→H' b=some o):ExIn C H' e st kvs :=
 ⟨k _ _ own_x E.ob,k _ _ own_a E.ha,k _ _ own_b E.hb,k _ _ own_c E.hc,k _ _ own_d E.hd,E.lp,E.lq,E.ld,fun i hi=>k _ _ (zit (zeU (by rw [E.lp];exact hi))) (E.rp i hi),fun i hi=>k _ _ (ziu (zeU (by rw [E.lq];exact hi))) (E.rq i hi),fun i hi=>k _ _ (zgL (zeU (by rw [E.ld];exact hi))) (E.rd i hi),E.vk,E.sk,E.lk,E.nd,E.wf⟩
theorem ExIn.mem (E:ExIn C H e st kvs) {b:Addr} (h:b∈e.own):∃ o,H b=some o:=by
 unfold ExAd.own at h;simp only [List.mem_cons,List.mem_append] at h;rcases h with h | h | h | h | h | h | h | h
 ·exact ⟨_,h▸E.ob⟩
 ·exact ⟨_,h▸E.ha⟩
 ·exact ⟨_,h▸E.hb⟩
 ·exact ⟨_,h▸E.hc⟩
 ·exact ⟨_,h▸E.hd⟩
 ·obtain ⟨i,hi,ei⟩:=L2.mem_getD (d:=0) h;exact ⟨_,ei▸E.rp i (by have:=E.lp;omega)⟩
 ·obtain ⟨i,hi,ei⟩:=L2.mem_getD (d:=0) h;exact ⟨_,ei▸E.rq i (by have:=E.lq;omega)⟩
 ·obtain ⟨i,hi,ei⟩:=L2.mem_getD (d:=0) h;exact ⟨_,ei▸E.rd i (by have:=E.ld;omega)⟩
theorem ExAt.keep (E:ExAt C H x F st) (k:∀ b o,F b→H b=some o→H' b=some o):ExAt C H' x F st:=by
 obtain ⟨e,kvs,hx,hF,I⟩:=E;exact ⟨e,kvs,hx,hF,I.keep fun b o hb eb=>k b o ((hF b).mpr hb) eb⟩
theorem ExAt.mem (E:ExAt C H x F st) {b:Addr} (h:F b):∃ o,H b=some o:=by
 obtain ⟨e,kvs,hx,hF,I⟩:=E;exact I.mem ((hF b).mp h)
def exMeths:List Str:=["bring_paper","bring_reader","set_step","deal","enter","papers","readers","step","dealt","dealing","against","due","marks","left","refuse_behind_dealing","refuse_ahead_of_dealing","refuse_not_due","due_readers","points_for","mark_for","name_third","needs_third"]
theorem zeV {m:Str} (h:m∈exMeths):m∉exFields:=by
 revert m
 have:exMeths.all (fun m=>!exFields.contains m)=true:=by decide +kernel
 intro m h z;have:=List.all_eq_true.mp this m h;simp only [Bool.not_eq_true',← Bool.not_eq_true,List.contains_iff_mem] at this;exact this z
theorem ExAt.ob (E:ExAt C H x F st):∃ dx fs,H x=some (.ins C dx fs)∧∀ m∈exMeths,fs.lookup m=none:=by
 obtain ⟨e,kvs,rfl,hF,I⟩:=E;exact ⟨_,_,I.ob,fun m hm=>zhu (zeV hm)⟩
end
structure ExFr (H H':Hp) (F F':Addr→Prop):Prop where
 kp:∀ b o,H b=some o→¬F b→H' b=some o
 fp:∀ b,F' b→F b∨H b=none
section
variable {C x:Addr} {H H':Hp} {e:ExAd} {st:ExS} {kvs:List (List (Key×V))} {F F':Addr→Prop}
theorem ExFr.but {p:Addr} (b:But p H H') (hp:F p) (fp:∀ b,F' b→F b∨H b=none):ExFr H H' F F':=⟨fun c o e n=>by rw [b c (fun z=>n (z▸hp))];exact e,fp⟩
theorem ExAt.same (E:ExAt C H x F st) (s:Same H H'):ExAt C H' x F st:=E.keep fun b o _ e=>s b o e
theorem ExAt.new (E:ExAt C H x F st) {b:Addr} (h:H b=none):¬F b:=fun z=>by obtain ⟨o,e⟩:=E.mem z;rw [h] at e;cases e
theorem ExIn.new (E:ExIn C H e st kvs) {b:Addr} (h:H b=none):b∉e.own:=fun z=>by obtain ⟨o,e⟩:=E.mem z;rw [h] at e;cases e
end
def zcR (H:Hp) (F:Addr→Prop) (a:Addr) (ns:List Int):Prop:=H a=some (.lst (ns.map V.int))∧¬F a
theorem zcR.same {H H':Hp} {F:Addr→Prop} {a:Addr} {ns:List Int} (h:zcR H F a ns) (s:Same H H'):zcR H' F a ns:=⟨s _ _ h.1,h.2⟩
theorem zcR.fr {H H':Hp} {F F':Addr→Prop} {a:Addr} {ns:List Int} (h:zcR H F a ns) (f:ExFr H H' F F'):zcR H' F' a ns:=⟨f.kp _ _ h.1 h.2,fun z=>(f.fp a z).elim h.2 fun e=>by rw [h.1] at e;cases e⟩
def zcD (H:Hp) (F:Addr→Prop) (a:Addr) (ps:List Addr) (rs:List (List Int)):Prop:=H a=some (.lst (ps.map V.ref))∧¬F a∧ps.length=rs.length∧∀ i,i < rs.length→zcR H F (ps.getD i 0) (rs.getD i [])
theorem zcD.same {H H':Hp} {F:Addr→Prop} {a:Addr} {ps:List Addr} {rs:List (List Int)} (h:zcD H F a ps rs) (s:Same H H'):zcD H' F a ps rs:=⟨s _ _ h.1,h.2.1,h.2.2.1,fun i hi=>(h.2.2.2 i hi).same s⟩
theorem zcD.fr {H H':Hp} {F F':Addr→Prop} {a:Addr} {ps:List Addr} {rs:List (List Int)} (h:zcD H F a ps rs) (f:ExFr H H' F F'):zcD H' F' a ps rs :=
 ⟨f.kp _ _ h.1 h.2.1,(fun z=>(f.fp a z).elim h.2.1 fun e=>(by rw [h.1] at e;cases e)),h.2.2.1,fun i hi=>(h.2.2.2 i hi).fr f⟩
theorem zcD.ll {K:PySem.W.Frag} {H:Hp} {F:Addr→Prop} {a:Addr} {ps:List Addr} {rs:List (List Int)} (h:zcD H F a ps rs):LL K H a rs:=⟨ps,SqL.of h.1,h.2.2.1,fun i hi=>(h.2.2.2 i hi).1⟩
theorem ExFr.nf {H0 H H':Hp} {F F':Addr→Prop} (f:ExFr H H' F F') (s:Same H0 H) (n:∀ c o,H0 c=some o→¬F c):(∀ c o,H0 c=some o→¬F' c)∧Same H0 H' :=
 ⟨fun c o e z=>(f.fp c z).elim (n c o e) fun z=>(by rw [s c o e] at z;cases z),fun c o e=>f.kp c o (s c o e) (n c o e)⟩
theorem InB.addP {hs:List Int} {rs:List (List Int)} (B:InB hs rs) {h:Int} (hl:hs.length < 10) (h1:1≤h∧h≤6):InB (hs++[h]) rs:=by
 refine ⟨by rw [List.length_append,List.length_singleton];omega,B.lr,fun i hi=>?_,B.r2,B.rh,B.rl⟩;rw [List.length_append,List.length_singleton] at hi
 by_cases e:i < hs.length
 ·rw [zas e];exact B.hh i e
 ·have:i=hs.length:=by omega
  subst this;rw [zao];exact h1
end Prf
namespace L2
open PySem PySem.Spec PyProof.Rows
section
variable {σ:St} {H:Hp} {Q:VK} {K:PySem.W.Frag} {js:List Nat} {te:TE} {J:It} {n k:Nat} {g:TG} {w:Nat→St} {x:Nat→V}
theorem zgw (T:zbS J n k js σ g w H) (hz:n≤1000) (R:Addr→Nat→V→Hp→Prop) (S:List V→V→Prop)
  (st:∀ p i v H1 H2,R p i v H1→(∀ b o,H1 b=some o→b≠p→H2 b=some o)→R p i v H2)
  (he:∀ p ys i H' Q',i < n→H p=none→Same H H'→H' p=some (.lst ys)→ys.length=i→(∀ j,j < i→R p j (ys.getD j .non) H')→(∀ v H2,Same H' H2→R p i v H2→S ys v→Q' v H2)→te (w i++capV js σ) H' Q')
  (hq:∀ p vs H2,H p=none→Same H H2→H2 p=some (.lst vs)→vs.length=n→(∀ i,i < n→R p i (vs.getD i .non) H2)→(∀ i,i < n→S (vs.take i) (vs.getD i .non))→Q (.ref p) H2):zeN J k js g tTT te σ H Q:=by
 intro p hp;refine ⟨fun i m σc H'=>m=n-i∧i≤n∧(∃ u:St,u.length=k∧σc=u++capV js σ)∧Same H H'∧∃ vs:List V,vs.length=i∧H' p=some (.lst vs)∧(∀ j,j < i→R p j (vs.getD j .non) H')∧∀ j,j < i→S (vs.take j) (vs.getD j .non),⟨n,by simp,Nat.zero_le _,⟨List.replicate k none,List.length_replicate,rfl⟩,zaG hp,[],rfl,zal,fun j hj=>absurd hj (by omega),fun j hj=>absurd hj (by omega)⟩,?_⟩;rintro i m σc H' ⟨rfl,hi,⟨u,hu,rfl⟩,s,vs,hvl,hpp,hR,hS⟩;have hsl:n < sizeLine:=zaU hz
 by_cases hlt:i < n
 ·refine .inr ⟨T.go i _ s hlt,fun σ' H'=>(∃ u:St,u.length=k∧σ'=u++capV js σ)∧Same H H'∧∃ vs:List V,vs.length=i+1∧H' p=some (.lst vs)∧(∀ j,j < i+1→R p j (vs.getD j .non) H')∧∀ j,j < i+1→S (vs.take j) (vs.getD j .non),fun σ' H' ⟨h1,h2,h3⟩=>⟨n-(i+1),by omega,rfl,hlt,h1,h2,h3⟩,fun v H2 hy=>?_⟩;refine T.yld i H' v H2 u _ s hlt hu hy fun H3 s3=>?_;refine r_tt ?_;rw [if_pos rfl];have hpp3:=s3 _ _ hpp;refine he p vs i _ _ hlt hp (s.trans s3) hpp3 hvl (fun j hj=>st p j _ _ _ (hR j hj) fun b o e _=>s3 b o e) fun v H5 s5 hv sv=>?_;refine ⟨vs,s5 _ _ hpp3,by omega,⟨w i,T.len i,rfl⟩,zes ((s.trans s3).trans s5) hp,vs++[v],by rw [List.length_append,hvl];rfl,zal,fun j hj=>?_,fun j hj=>?_⟩
  ·by_cases hji:j < i
   ·rw [zas (by omega)];exact st p j _ _ _ (hR j hji) fun b o e nb=>by rw [zau nb];exact s5 _ _ (s3 _ _ e)
   ·have e0:j=vs.length:=by omega
    subst e0;rw [zao];exact st p _ _ _ _ (hvl▸hv) fun b o e nb=>by rw [zau nb];exact e
  ·by_cases hji:j < i
   ·rw [zas (by omega),List.take_append_of_le_length (by omega)];exact hS j hji
   ·have e0:j=vs.length:=by omega
    subst e0;rw [zao,List.take_append_of_le_length (Nat.le_refl _),List.take_length];exact sv
 ·have e:i=n:=by omega
  subst e;exact .inl ⟨T.stop _ s,hq p vs _ hp s hpp hvl hR hS⟩
theorem zbG {xs:List Int} {i:Nat} (h:i < xs.length):(xs.map V.int).getD i .non=.int (xs.getD i 0):=by
 rw [List.getD_eq_getElem?_getD,List.getElem?_map,List.getElem?_eq_getElem h,List.getD_eq_getElem?_getD,List.getElem?_eq_getElem h];rfl
theorem zfQ {xs ys:List Int} (h:ys.length=xs.length):(List.range xs.length).map (fun i=>[xs.getD i 0,ys.getD i 0])=(xs.zip ys).map fun p=>[p.1,p.2]:=by
 refine List.ext_getElem (by simp [h]) fun i h1 h2=>?_;have h3:i < xs.length:=by simpa using h1
 rw [List.getElem_map,List.getElem_map,List.getElem_range,List.getElem_zip,List.getD_eq_getElem?_getD,List.getElem?_eq_getElem h3,List.getD_eq_getElem?_getD,List.getElem?_eq_getElem (by omega)];rfl
theorem za9 {f:Str} {v:V}:∀ {fs:List (Str×V)} {n:Nat},fs.length < n→(putF f v fs).length < n+1
 | [],n,h=>by show 1 < n+1;have:0 < n:=h;omega
 | (g,x)::r,n,h=>by
  show (if g=f then (g,v)::r else (g,x)::putF f v r).length < n+1;have h':r.length+1 < n:=h;split
  ·show r.length+1 < n+1;omega
  ·show (putF f v r).length+1 < n+1;have:=za9 (f:=f) (v:=v) (fs:=r) (n:=n-1) (by omega);omega
theorem zbo {α:Type} (xs:List α) (d:α):(List.range xs.length).map (fun i=>xs.getD i d)=xs:=by
 refine List.ext_getElem (by simp) fun i h1 h2=>?_;simp at h1 ⊢;rw [List.getElem?_eq_getElem h1];rfl
theorem zeW {a:Addr} {rs:List (List Int)} (h:LL K H a rs) (hz:rs.length≤1000) (hq:∀ p H2,zaC H p rs H2→Q (.ref p) H2):zdG (Itl K a) js tTT (tCB (zhb K) (zd0 (tVar 0) tNil)) σ H Q:=by
 obtain ⟨ps,h1,h2,h3⟩:=h;refine zcu (zb5 (zbS.one (za3 h1)) (by rw [List.length_map];omega) (fun i=>rs.getD i []) (fun i H' Q' hi s q=>?_) fun p H2 R=>?_)
 ·rw [List.length_map] at hi;have e:(ps.map V.ref).getD i .non=.ref (ps.getD i 0):=by
   rw [List.getD_eq_getElem?_getD,List.getElem?_map,List.getElem?_eq_getElem hi,List.getD_eq_getElem?_getD,List.getElem?_eq_getElem hi];rfl
  rw [e];refine r_cb (zdE (zdD (i:=0) rfl (zb2 ?_)));exact zdF (SqL.of (s _ _ (h3 i (by omega)))) fun l H2 f s2 e2=>q l H2 f s2 e2
 ·rw [List.length_map,h2,zbo] at R;exact hq p H2 R
theorem zgx {p b:Addr} {xs ys:List V} (h:H p=some (.lst xs)) (h':H b=some (.lst ys)) (hz:xs.length+ys.length≤1000000) (q:∀ H2,But p H H2→H2 p=some (.lst (xs++ys))→Q .non H2):rExtend (.ref p) [.ref b] H Q :=
 ⟨p,b,xs,ys,rfl,rfl,h,h',by rw [sizeLine_eq];omega,q _ But.upd zal⟩
theorem zaC.ext {B H H2 H3:Hp} {p p2:Addr} {rs rs2:List (List Int)} (R:zaC B p rs H) (R2:zaC H p2 rs2 H2) :
  ∃ zs zs2:List V,H2 p=some (.lst zs)∧H2 p2=some (.lst zs2)∧zs.length=rs.length∧zs2.length=rs2.length∧(But p H2 H3→H3 p=some (.lst (zs++zs2))→zaC B p (rs++rs2) H3):=by
 obtain ⟨sb,hp,ps,h1,h2,nd,h3⟩:=R;obtain ⟨sb2,hp2,qs,k1,k2,nd2,k3⟩:=R2;refine ⟨_,_,sb2 _ _ h1,k1,by rw [List.length_map];exact h2,by rw [List.length_map];exact k2,fun b e=>?_⟩;have ne:∀ i,i < rs2.length→qs.getD i 0≠p:=fun i hi z=>by have:=(k3 i hi).2.1;rw [z,h1] at this;cases this
 refine ⟨(sb.trans sb2).but b hp,hp,ps++qs,by rw [e,List.map_append],by rw [List.length_append,List.length_append,h2,k2],?_,fun i hi=>?_⟩
 ·refine List.nodup_append.mpr ⟨nd,nd2,fun x hx y hy z=>?_⟩;subst z;obtain ⟨i,hi,ei⟩:=L2.mem_getD (d:=0) hx;obtain ⟨j,hj,ej⟩:=L2.mem_getD (d:=0) hy;have a1:=(h3 i (by omega)).1;have a2:=(k3 j (by omega)).2.1;rw [ei] at a1;rw [ej,a1] at a2
  cases a2
 ·rw [List.length_append] at hi
  by_cases hlt:i < rs.length
  ·rw [zas (by omega),zas hlt];obtain ⟨a1,a2,a3⟩:=h3 i hlt;exact ⟨by rw [b _ a3];exact sb2 _ _ a1,a2,a3⟩
  ·obtain ⟨j,rfl⟩:∃ j,i=rs.length+j:=⟨i-rs.length,by omega⟩
   have e1:(ps++qs).getD (rs.length+j) 0=qs.getD j 0:=by
    rw [List.getD_eq_getElem?_getD,List.getD_eq_getElem?_getD,List.getElem?_append_right (by omega)]
    congr 2;omega
   have e2:(rs++rs2).getD (rs.length+j) []=rs2.getD j []:=by
    rw [List.getD_eq_getElem?_getD,List.getD_eq_getElem?_getD,List.getElem?_append_right (by omega)]
    congr 2;omega
   rw [e1,e2];obtain ⟨a1,a2,a3⟩:=k3 j (by omega);exact ⟨by rw [b _ (ne j (by omega))];exact a1,sb.free a2,ne j (by omega)⟩
end
end L2
namespace Prf
open PySem PySem.Spec PyProof.Rows L2
section
variable {C x:Addr} {H H' H1 H2 H3:Hp} {e:ExAd} {st:ExS} {kvs:List (List (Key×V))} {F F':Addr→Prop}
structure ExNd (e:ExAd):Prop where
 xa:e.x≠e.a
 xb:e.x≠e.b
 xc:e.x≠e.c
 xd:e.x≠e.d
 xp:e.x∉e.ps
 xq:e.x∉e.qs
 xs:e.x∉e.ds
 ab:e.a≠e.b
 ac:e.a≠e.c
 ad:e.a≠e.d
 ap:e.a∉e.ps
 aq:e.a∉e.qs
 as:e.a∉e.ds
 bc:e.b≠e.c
 bd:e.b≠e.d
 bp:e.b∉e.ps
 bq:e.b∉e.qs
 bs:e.b∉e.ds
 cd:e.c≠e.d
 cp:e.c∉e.ps
 cq:e.c∉e.qs
 cs:e.c∉e.ds
 dp:e.d∉e.ps
 dq:e.d∉e.qs
 ds:e.d∉e.ds
 np:e.ps.Nodup
 nq:e.qs.Nodup
 nds:e.ds.Nodup
 pq:∀ b,b∈e.ps→b∉e.qs
 pds:∀ b,b∈e.ps→b∉e.ds
 qds:∀ b,b∈e.qs→b∉e.ds
theorem nd_iff:e.own.Nodup↔ExNd e:=by
 unfold ExAd.own;simp only [List.nodup_cons,List.mem_cons,List.mem_append,List.nodup_append,not_or];constructor
 ·rintro ⟨⟨xa,xb,xc,xd,xp,xq,xs⟩,⟨ab,ac,ad,ap,aq,as⟩,⟨bc,bd,bp,bq,bs⟩,⟨cd,cp,cq,cs⟩,⟨dp,dq,ds⟩,np,⟨nq,nds,qd⟩,pqd⟩;exact ⟨xa,xb,xc,xd,xp,xq,xs,ab,ac,ad,ap,aq,as,bc,bd,bp,bq,bs,cd,cp,cq,cs,dp,dq,ds,np,nq,nds,fun b h h'=>pqd b h b (.inl h') rfl,fun b h h'=>pqd b h b (.inr h') rfl,fun b h h'=>qd b h b h' rfl⟩
 ·intro N;exact ⟨⟨N.xa,N.xb,N.xc,N.xd,N.xp,N.xq,N.xs⟩,⟨N.ab,N.ac,N.ad,N.ap,N.aq,N.as⟩,⟨N.bc,N.bd,N.bp,N.bq,N.bs⟩,⟨N.cd,N.cp,N.cq,N.cs⟩,⟨N.dp,N.dq,N.ds⟩,N.np,⟨N.nq,N.nds,fun a h b h' z=>N.qds a h (z▸h')⟩,fun a h b h' z=>h'.elim (fun h'=>N.pq a h (z▸h')) fun h'=>N.pds a h (z▸h')⟩
theorem zeT.mono {n n' k:Nat} {en en':List (List Int)} {row:List Int} (h:zeT n en k row) (hn:n≤n') (he:∀ r,(zbx en k r).isSome=true→(zbx en' k r).isSome=true):zeT n' en' k row:=by
 obtain ⟨f,s,h1,h2,h3,h4⟩:=h;refine ⟨f,s,h1,h2,by omega,?_⟩;rcases h4 with h4 | ⟨t,h4,t1,t2,t3,t4,t5,t6⟩
 ·exact .inl h4
 ·exact .inr ⟨t,h4,t1,by omega,t3,t4,he _ t5,he _ t6⟩
theorem zeT.len {n k:Nat} {en:List (List Int)} {row:List Int} (h:zeT n en k row):row.length=2∨row.length=3:=by
 obtain ⟨f,s,h1,h2,h3,h4 | ⟨t,h4,_⟩⟩:=h
 ·exact .inl (by rw [h4];rfl)
 ·exact .inr (by rw [h4];rfl)
theorem Wf.ofStep {st:ExS} (w:Wf st) {s:Int} (h:0≤s∧s≤100):Wf { st with step:=s }:=⟨w.ln,w.row,w.pts,h⟩
theorem zfR {st:ExS} (h:st.dl=none):st.nm=[]:=by unfold ExS.nm;rw [h];rfl
theorem Wf.ofPaper {st:ExS} (w:Wf st) (hd:st.dl=none) {h:Int}:Wf { st with hs:=st.hs++[h] }:=⟨fun z=>(by rw [show ({ st with hs:=st.hs++[h] }:ExS).dl=st.dl from rfl,hd] at z;cases z),w.row,w.pts,w.stp⟩
theorem Wf.ofReader {st:ExS} (w:Wf st) {r:List Int}:Wf { st with rs:=st.rs++[r] }:=⟨w.ln,fun k hk=>(w.row k hk).mono (by show _≤(st.rs++[r]).length;rw [List.length_append];omega) fun _ z=>z,w.pts,w.stp⟩
theorem ExIn.N (E:ExIn C H e st kvs):ExNd e:=nd_iff.mp E.nd
theorem ExIn.at (E:ExIn C H e st kvs):ExAt C H e.x (fun b=>b∈e.own) st:=⟨e,kvs,rfl,fun _=>Iff.rfl,E⟩
theorem zaV {b p:Addr} {l:List Addr} (h:p∉l) (hb:b∈l):b≠p:=fun z=>h (z▸hb)
theorem ExIn.ip (E:ExIn C H e st kvs) {i:Nat} (hi:i < st.rs.length):e.ps.getD i 0∈e.ps:=zeU (by have:=E.lp;omega)
theorem ExIn.iq (E:ExIn C H e st kvs) {i:Nat} (hi:i < st.nm.length):e.qs.getD i 0∈e.qs:=zeU (by have:=E.lq;omega)
theorem ExIn.is (E:ExIn C H e st kvs) {i:Nat} (hi:i < st.nm.length):e.ds.getD i 0∈e.ds:=zeU (by have:=E.ld;omega)
theorem ExIn.setStep (E:ExIn C H e st kvs) {s:Int} (b:But e.x H H') (h:H' e.x=some (.ins C e.dx (putF "widest_step" (.int s) (exFs (.ref e.a) (.ref e.b) (.int st.step) (.bl st.dl.isSome) (.ref e.c) (.ref e.d))))) (wf:0≤s∧s≤100):ExIn C H' e { st with step:=s } kvs:=by
 have N:=E.N;rw [exFs_ps] at h;exact ⟨h,by rw [b _ N.xa.symm];exact E.ha,by rw [b _ N.xb.symm];exact E.hb,by rw [b _ N.xc.symm];exact E.hc,by rw [b _ N.xd.symm];exact E.hd,E.lp,E.lq,E.ld,fun i hi=>by rw [b _ (zaV N.xp (E.ip hi))];exact E.rp i hi,fun i hi=>by rw [b _ (zaV N.xq (E.iq hi))];exact E.rq i hi,fun i hi=>by rw [b _ (zaV N.xs (E.is hi))];exact E.rd i hi,E.vk,E.sk,E.lk,E.nd,E.wf.ofStep wf⟩
theorem ExIn.paper (E:ExIn C H e st kvs) (hd:st.dl=none) {h:Int} (b:But e.a H H') (h1:H' e.a=some (.lst (st.hs.map V.int++[.int h]))):ExIn C H' e { st with hs:=st.hs++[h] } kvs:=by
 have N:=E.N;exact ⟨by rw [b _ N.xa];exact E.ob,by rw [h1,List.map_append];rfl,by rw [b _ N.ab.symm];exact E.hb,by rw [b _ N.ac.symm];exact E.hc,by rw [b _ N.ad.symm];exact E.hd,E.lp,E.lq,E.ld,fun i hi=>by rw [b _ (zaV N.ap (E.ip hi))];exact E.rp i hi,fun i hi=>by rw [b _ (zaV N.aq (E.iq hi))];exact E.rq i hi,fun i hi=>by rw [b _ (zaV N.as (E.is hi))];exact E.rd i hi,E.vk,E.sk,E.lk,E.nd,E.wf.ofPaper hd⟩
theorem ExIn.reader (E:ExIn C H e st kvs) {row:List Int} {r:Addr} (hr:r∉e.own) (er:H r=some (.lst (row.map V.int))) (b:But e.b H H') (h1:H' e.b=some (.lst (e.ps.map V.ref++[.ref r]))):ExIn C H' { e with ps:=e.ps++[r] } { st with rs:=st.rs++[row] } kvs:=by
 have N:=E.N;have lp:=E.lp;have nrb:r≠e.b:=fun z=>hr (z▸own_b);refine ⟨by rw [b _ N.xb];exact E.ob,by rw [b _ N.ab];exact E.ha,by rw [h1,List.map_append];rfl,by rw [b _ N.bc.symm];exact E.hc,by rw [b _ N.bd.symm];exact E.hd,by show (e.ps++[r]).length=(st.rs++[row]).length;rw [List.length_append,List.length_append,lp];rfl,E.lq,E.ld,fun i hi=>?_,fun i hi=>by rw [b _ (zaV N.bq (E.iq hi))];exact E.rq i hi,fun i hi=>by rw [b _ (zaV N.bs (E.is hi))];exact E.rd i hi,E.vk,E.sk,E.lk,?_,E.wf.ofReader⟩
 ·have hi':i < (st.rs++[row]).length:=hi;rw [List.length_append,List.length_singleton] at hi';show H' ((e.ps++[r]).getD i 0)=some (.lst (((st.rs++[row]).getD i []).map V.int))
  by_cases z:i < st.rs.length
  ·rw [zas (by omega),zas z,b _ (zaV N.bp (E.ip z))];exact E.rp i z
  ·have z':i=st.rs.length:=by omega
   subst z';rw [zao,← lp,zao,b _ nrb];exact er
 ·refine nd_iff.mpr ⟨N.xa,N.xb,N.xc,N.xd,?_,N.xq,N.xs,N.ab,N.ac,N.ad,?_,N.aq,N.as,N.bc,N.bd,?_,N.bq,N.bs,N.cd,?_,N.cq,N.cs,?_,N.dq,N.ds,?_,N.nq,N.nds,?_,?_,N.qds⟩
  ·exact fun h=>(List.mem_append.mp h).elim N.xp fun h=>hr (List.mem_singleton.mp h▸own_x)
  ·exact fun h=>(List.mem_append.mp h).elim N.ap fun h=>hr (List.mem_singleton.mp h▸own_a)
  ·exact fun h=>(List.mem_append.mp h).elim N.bp fun h=>hr (List.mem_singleton.mp h▸own_b)
  ·exact fun h=>(List.mem_append.mp h).elim N.cp fun h=>hr (List.mem_singleton.mp h▸own_c)
  ·exact fun h=>(List.mem_append.mp h).elim N.dp fun h=>hr (List.mem_singleton.mp h▸own_d)
  ·exact List.nodup_append.mpr ⟨N.np,by simp,fun c hc d hd z=>hr (by rw [← List.mem_singleton.mp hd,← z];exact zit hc)⟩
  ·exact fun c hc=>(List.mem_append.mp hc).elim (N.pq c) fun h z=>hr (by rw [← List.mem_singleton.mp h];exact ziu z)
  ·exact fun c hc=>(List.mem_append.mp hc).elim (N.pds c) fun h z=>hr (by rw [← List.mem_singleton.mp h];exact zgL z)
theorem zeX {r b:Addr} (h:b∈({ e with ps:=e.ps++[r] }:ExAd).own):b∈e.own∨b=r:=by
 unfold ExAd.own at h ⊢;simp only [List.mem_cons,List.mem_append,List.not_mem_nil,or_false] at h ⊢;rcases h with h | h | h | h | h | (h | h) | h | h <;> simp [h]
end
theorem Wf.n10 {st:ExS} (w:Wf st) (B:InB st.hs st.rs):st.nm.length≤10:=by
 cases h:st.dl with
 | none=>rw [zfR h];exact Nat.zero_le _
 | some d=>rw [w.ln (by rw [h];rfl)];exact B.lp
def za4 (nm en:List (List Int)) (k:Nat):List Int:=(nm.getD k []).filter fun r=>(zbx en k r).isNone
def dueB (nm en:List (List Int)):List (List Int):=(List.range nm.length).flatMap fun k=>(za4 nm en k).map fun r=>[(k:Int)+1,r]
def dueS (st:ExS):List (List Int):=dueB st.nm st.en
def ptsOf (nm en:List (List Int)) (k:Nat):List Int:=(nm.getD k []).map fun r=>(zbx en k r).getD 0
def zdK (st:ExS):List Int:=zeM st.rs st.nm
theorem zc3 {st:ExS} (h:st.dl=none):zdK st=(List.range st.rs.length).map fun i=>(st.rs.getD i []).getD 1 0:=by
 unfold zdK zeM ExS.nm;rw [h];refine List.map_congr_left fun k _=>?_;show _-((0:Nat):Int)=_;simp
def MarkB (xs:List Int) (s:Int):List Int:=if xs.length=2 then zgq (xs.getD 0 0) (xs.getD 1 0) s else [mid3 (xs.getD 0 0) (xs.getD 1 0) (xs.getD 2 0),1]
def zbO (nm en:List (List Int)) (step:Int) (k:Nat):Option (Int×Int×List (List Int)):=if za4 nm en k=[] then some ((MarkB (ptsOf nm en k) step).getD 0 0,(MarkB (ptsOf nm en k) step).getD 1 0,((nm.getD k []).zip (ptsOf nm en k)).map fun p=>[p.1,p.2]) else none
def zbH (st:ExS):List (Option (Int×Int×List (List Int))):=match st.dl with
 | none=>(List.range st.hs.length).map fun _=>none
 | some (nm,en)=>(List.range st.hs.length).map (zbO nm en st.step)
abbrev Mk3:=Option (Int×Int×List (List Int))
def zcE (B:Hp) (v:V) (m:Mk3) (H:Hp):Prop:=match m with
 | none=>v=.non
 | some (t,b,rows)=>∃ (q r:Addr) (ps:List Addr),v=.ref q∧B q=none∧B r=none∧H q=some (.lst [.int t,.int b,.ref r])∧H r=some (.lst (ps.map V.ref))∧ps.length=rows.length∧∀ j,j < rows.length→B (ps.getD j 0)=none∧H (ps.getD j 0)=some (.lst ((rows.getD j []).map V.int))
structure zdg (B:Hp) (p:Addr) (ms:List Mk3) (H:Hp):Prop where
 same:Same B H
 new:B p=none
 vals:∃ vs:List V,H p=some (.lst vs)∧vs.length=ms.length∧∀ i,i < ms.length→zcE B (vs.getD i .non) (ms.getD i none) H
theorem zdL (nm en:List (List Int)) (i:Nat) (h:i < nm.length):((List.range (i+1)).flatMap fun k=>(za4 nm en k).map fun r=>[(k:Int)+1,r])=((List.range i).flatMap fun k=>(za4 nm en k).map fun r=>[(k:Int)+1,r])++(za4 nm en i).map fun r=>[(i:Int)+1,r]:=by
 rw [List.range_succ,List.flatMap_append,List.flatMap_singleton]
theorem zhw (nm en:List (List Int)) (k:Nat):(za4 nm en k).length≤(nm.getD k []).length:=List.length_filter_le _ _
theorem zhx (nm en:List (List Int)) (k:Nat):(ptsOf nm en k).length=(nm.getD k []).length:=by unfold ptsOf;rw [List.length_map]
theorem zgy {nm en:List (List Int)} {k:Nat} (h:za4 nm en k=[]) {r:Int} (hr:r∈nm.getD k []):∃ p,zbx en k r=some p:=by
 cases e:zbx en k r with
 | some p=>exact ⟨p,rfl⟩
 | none =>
   have:r∈za4 nm en k:=List.mem_filter.mpr ⟨hr,by rw [e];rfl⟩;rw [h] at this
   cases this
theorem Wf.ptsOf {st:ExS} (w:Wf st) {k:Nat} {p:Int} (h:p∈ptsOf st.nm st.en k):0≤p∧p≤100:=by
 unfold Prf.ptsOf at h;obtain ⟨r,hr,rfl⟩:=List.mem_map.mp h
 cases e:zbx st.en k r with
 | none=>exact ⟨by decide,by decide⟩
 | some p=>exact w.pts k r p e
def zbU (B:Hp) (p:Addr) (v:V) (m:Mk3) (H:Hp):Prop:=match m with
 | none=>v=.non
 | some (t,b,rows)=>∃ (q r:Addr) (ps:List Addr),v=.ref q∧(B q=none∧q≠p)∧(B r=none∧r≠p)∧H q=some (.lst [.int t,.int b,.ref r])∧H r=some (.lst (ps.map V.ref))∧ps.length=rows.length∧∀ j,j < rows.length→(B (ps.getD j 0)=none∧ps.getD j 0≠p)∧H (ps.getD j 0)=some (.lst ((rows.getD j []).map V.int))
theorem zbU.keep {B H1 H2:Hp} {p:Addr} {v:V} {m:Mk3} (h:zbU B p v m H1) (k:∀ b o,H1 b=some o→b≠p→H2 b=some o):zbU B p v m H2:=by
 match m,h with
 | none,h=>exact h
 | some (t,b,rows),⟨q,r,ps,h1,h2,h3,h4,h5,h6,h7⟩=>exact ⟨q,r,ps,h1,h2,h3,k _ _ h4 h2.2,k _ _ h5 h3.2,h6,fun j hj=>⟨(h7 j hj).1,k _ _ (h7 j hj).2 (h7 j hj).1.2⟩⟩
theorem zbU.is {B H1:Hp} {p:Addr} {v:V} {m:Mk3} (h:zbU B p v m H1):zcE B v m H1:=by
 match m,h with
 | none,h=>exact h
 | some (t,b,rows),⟨q,r,ps,h1,h2,h3,h4,h5,h6,h7⟩=>exact ⟨q,r,ps,h1,h2.1,h3.1,h4,h5,h6,fun j hj=>⟨(h7 j hj).1.1,(h7 j hj).2⟩⟩
theorem zcE.new {B H0 H1:Hp} {p:Addr} {v:V} {m:Mk3} {ys:List V} (h:zcE H0 v m H1) (s:Same B H0) (hp:H0 p=some (.lst ys)):zbU B p v m H1:=by
 match m,h with
 | none,h=>exact h
 | some (t,b,rows),⟨q,r,ps,h1,h2,h3,h4,h5,h6,h7⟩=>exact ⟨q,r,ps,h1,⟨s.free h2,(zaf hp h2).symm⟩,⟨s.free h3,(zaf hp h3).symm⟩,h4,h5,h6,fun j hj=>⟨⟨s.free (h7 j hj).1,(zaf hp (h7 j hj).1).symm⟩,(h7 j hj).2⟩⟩
end Prf
namespace L2
open PySem PySem.Spec PyProof.Rows
section
variable {X:Cx} {K:PySem.W.Frag}
variable {H:Hp} {Q:VK} {a:Addr} {ns:List Int}
end
end L2
namespace Prf
open PySem PySem.Spec PyProof.Rows L2
section
variable {H H':Hp} {l:LdA} {hs:List Int} {rs nm en:List (List Int)} {K:PySem.W.Frag}
end
end Prf
namespace L2
open PySem PySem.Spec PyProof.Rows
section
variable {X:Cx} {K:PySem.W.Frag}
def rEqE (K:PySem.W.Frag):R2:=fun x y H Q=>∃ a b xs,x=.ref a∧y=.ref b∧SqL K H a xs∧SqL K H b []∧Q (.bl (decide (xs=[]))) H
def rNeE (K:PySem.W.Frag):R2:=fun x y H Q=>∃ a b xs,x=.ref a∧y=.ref b∧SqL K H a xs∧SqL K H b []∧Q (.bl (!decide (xs=[]))) H
theorem ziv (hu:X.A.units < cLine):OpR X (compareOp .Eq) (rEqE X.K):=by
 intro pins s σ H x y v u Q I rx ry h;obtain ⟨a,b,xs,rfl,rfl,h1,h2,q⟩:=h
 cases rx
 cases ry
 obtain ⟨its1,r1,p1,z1⟩:=I.list h1;obtain ⟨its2,r2,p2,z2⟩:=I.list h2;have l1:=r1.length;have l2:its2.length=0:=r2.length.symm
 by_cases hl:xs=[]
 ·subst hl;have l1':its1.length=0:=l1.symm;refine SeqAt.eq_listAt (e:=fun _=>true) p1.isList p2.isList (by simp;omega) hu (fun j h1 h2=>by simp at h1;omega) ⟨.bl _,H,I,rfl,?_⟩;rw [List.size_toArray,l1'];rw [decide_eq_true rfl] at q;exact q
 ·have:xs.length≠0:=fun z=>hl (List.eq_nil_of_length_eq_zero z);refine SeqAt.eq_list_lengthsAt p1.isList p2.isList (by simp;omega) hu ⟨.bl false,H,I,rfl,?_⟩;rw [decide_eq_false hl] at q;exact q
theorem ziw (hu:X.A.units < cLine):OpR X (compareOp .NotEq) (rNeE X.K):=by
 intro pins s σ H x y v u Q I rx ry h;obtain ⟨a,b,xs,rfl,rfl,h1,h2,q⟩:=h
 cases rx
 cases ry
 obtain ⟨its1,r1,p1,z1⟩:=I.list h1;obtain ⟨its2,r2,p2,z2⟩:=I.list h2;have l1:=r1.length;have l2:its2.length=0:=r2.length.symm
 by_cases hl:xs=[]
 ·subst hl;have l1':its1.length=0:=l1.symm;refine SeqAt.RcNeAt.lists (e:=fun _=>true) p1.isList p2.isList (by simp;omega) hu (fun j h1 h2=>by simp at h1;omega) _ _ _ _ ⟨.bl _,H,I,rfl,?_⟩;rw [List.size_toArray,l1'];rw [decide_eq_true rfl] at q;exact q
 ·have:xs.length≠0:=fun z=>hl (List.eq_nil_of_length_eq_zero z);refine SeqAt.RcNeAt.lists_lengths p1.isList p2.isList (by simp;omega) hu _ _ _ _ ⟨.bl true,H,I,rfl,?_⟩;rw [decide_eq_false hl] at q;exact q
def rEq2 (K:PySem.W.Frag):R2:=fun x y H Q=>zgo K x y H Q∨rEqE K x y H Q
def rNe2 (K:PySem.W.Frag):R2:=fun x y H Q=>rNeG K x y H Q∨rNeE K x y H Q
theorem zb6 (h:X.K=K) (hu:X.A.units < cLine):OpR X (compareOp .Eq) (rEq2 K):=(zhk h hu).or (h▸ziv hu)
theorem zex (h:X.K=K) (hu:X.A.units < cLine):OpR X (compareOp .NotEq) (rNe2 K):=(zh1 h).or (h▸ziw hu)
section
variable {H:Hp} {Q:VK} {i j:Int}
theorem zix (q:Q (.bl (decide (i=j))) H):rEq2 K (.int i) (.int j) H Q:=.inl (zhl q)
theorem ziy {a b:Bool} (q:Q (.bl (decide (a=b))) H):rEq2 K (.bl a) (.bl b) H Q:=.inl (zhm q)
theorem ziz (q:Q (.bl (!decide (i=j))) H):rNe2 K (.int i) (.int j) H Q:=.inl (zgK q)
end
end
end L2
namespace Prf
open PySem PySem.Spec PyProof.Rows L2
end Prf
namespace L2
open PySem PySem.Spec PyProof.Rows
section
variable {X:Cx} {K:PySem.W.Frag}
def rInN (K:PySem.W.Frag) (neg:Bool):R2:=fun x y H Q=>x=.non∧∃ p vs,y=.ref p∧SqL K H p vs∧(∀ v∈vs,∃ q ys,v=.ref q∧SqL K H q ys)∧Q (.bl neg) H
def rInR (K:PySem.W.Frag) (neg:Bool):R2:=fun x y H Q=>∃ (a p:Addr) (xs:List Int) (rows:List (List Int)),x=.ref a∧y=.ref p∧H a=some (.lst (xs.map V.int))∧LL K H p rows∧Q (.bl (if neg then !decide (xs∈rows) else decide (xs∈rows))) H
theorem ziA {pins:List (Addr×Obj)} {σ:St} {H:Hp} {s:Shared} {vs:List V} {its:List Value} (hu:X.A.units+1 < cLine) (I:Inv X pins σ H s) (r:Vals vs its) (h:∀ v∈vs,∃ q ys,v=.ref q∧SqL X.K H q ys):∀ y∈its.toArray,SeqAt.EqAt X.A.in1 s y .none false:=fun y hy=>by
 have hy':y∈its:=by simpa using hy
 obtain ⟨i,hi,e⟩:=List.getElem_of_mem hy';have hl:=r.length;obtain ⟨u,hu1,hu2⟩:=r.get (i:=i) (x:=vs[i]'(by omega)) (List.getElem?_eq_getElem (by omega));rw [List.getElem?_eq_getElem hi] at hu1;have e2:u=y:=by rw [← e];exact (Option.some.inj hu1).symm
 subst e2;obtain ⟨q,ys,hq,hs⟩:=h _ (List.getElem_mem (show i < vs.length by omega));rw [hq] at hu2
 cases hu2
 obtain ⟨_,_,pl,_⟩:=I.list hs;exact SeqAt.EqAt.list_none pl.isList hu
theorem ziB (hu:X.A.units+1 < cLine):OpR X (compareOp .In) (rInN X.K false):=by
 intro pins s σ H x y v u Q I rx ry h;obtain ⟨rfl,p,vs,rfl,hq,hv,q⟩:=h
 cases rx
 cases ry
 obtain ⟨its,r,pl,hz⟩:=I.list hq;refine SeqAt.in_listAt (fun _=>false) pl.isList (ziA hu I r hv) ⟨.bl _,H,I,rfl,?_⟩;rw [show its.toArray.any (fun _=>false)=false by simp];exact q
def rowE (H:Hp) (xs:List Int):Value→Bool
 | .ref q=>match H q with
   | some (.lst vs)=>decide (vs=xs.map V.int)
   | _=>false
 | _=>false
theorem map_int_inj:∀ {xs ys:List Int},xs.map V.int=ys.map V.int→xs=ys
 | [],[],_=>rfl
 | [],_::_,h=>by simp at h
 | _::_,[],h=>by simp at h
 | x::xs,y::ys,h=>by
   rw [List.map_cons,List.map_cons] at h;injection h with h1 h2;injection h1 with h1;rw [h1,map_int_inj h2]
theorem zi3 {pins:List (Addr×Obj)} {σ:St} {H:Hp} {s:Shared} {a q:Addr} {xs ys:List Int} {A:Around} (hu:A.units < cLine) (I:Inv X pins σ H s) (ha:H a=some (.lst (xs.map V.int))) (hq:H q=some (.lst (ys.map V.int))):SeqAt.EqAt A s (.ref q) (.ref a) (decide (ys=xs)):=by
 by_cases e:q=a
 ·subst e;rw [ha] at hq;have:=map_int_inj (HO.lst.inj (Option.some.inj hq));rw [decide_eq_true this.symm];exact SeqAt.EqAt.same _
 ·obtain ⟨its1,r1,p1,z1⟩:=I.list (SqL.of (K:=X.K) hq);obtain ⟨its2,r2,p2,z2⟩:=I.list (SqL.of (K:=X.K) ha);have l1:=r1.length;have l2:=r2.length;rw [List.length_map] at l1 l2;refine SeqAt.EqAt.of_refs e ?_
  by_cases hl:ys.length=xs.length
  ·have key:=SeqAt.RcAt.lists (A:=A) (e:=fun j=>eqV ((ys.map V.int).getD j .non) ((xs.map V.int).getD j .non)) p1.isList p2.isList (by simp;omega) hu (fun j h1 h2=>?_)
   ·have e1:its1.toArray.size=(ys.map V.int).length:=by simp;omega
    rw [e1,eqVs_all (by simp;omega),eqVs_ints] at key;exact key
   ·simp only [List.size_toArray] at h1 h2;have e1:(ys.map V.int)[j]? = some ((ys.map V.int).getD j .non):=by rw [List.getD_eq_getElem?_getD,List.getElem?_eq_getElem (by simp;omega)];rfl
    have e2:(xs.map V.int)[j]? = some ((xs.map V.int).getD j .non):=by rw [List.getD_eq_getElem?_getD,List.getElem?_eq_getElem (by simp;omega)];rfl
    obtain ⟨u1,a1,b1⟩:=r1.get e1;obtain ⟨u2,a2,b2⟩:=r2.get e2;have c1:its1.toArray[j]=u1:=by simpa [List.getElem?_eq_getElem h1] using a1
    have c2:its2.toArray[j]=u2:=by simpa [List.getElem?_eq_getElem h2] using a2
    rw [c1,c2];have fl:∀ zs:List Int,(zs.map V.int).all flatV=true:=fun zs=>by simp [flatV]
    exact zfo b1 b2 (List.all_eq_true.mp (fl _) _ (List.mem_of_getElem? e1)) (List.all_eq_true.mp (fl _) _ (List.mem_of_getElem? e2))
  ·rw [decide_eq_false (fun z=>hl (by rw [z]))];exact SeqAt.RcAt.lists_lengths p1.isList p2.isList (by simp;omega) hu
theorem zeY {pins:List (Addr×Obj)} {σ:St} {H:Hp} {s:Shared} {a:Addr} {xs:List Int} {rows:List (List Int)} {ps:List Addr} {its:List Value} (hu:X.A.units+1 < cLine) (I:Inv X pins σ H s) (ha:H a=some (.lst (xs.map V.int))) (r:Vals (ps.map V.ref) its) (hl:ps.length=rows.length)
  (hr:∀ i,i < rows.length→H (ps.getD i 0)=some (.lst ((rows.getD i []).map V.int))):(∀ y∈its.toArray,SeqAt.EqAt X.A.in1 s y (.ref a) (rowE H xs y))∧its.toArray.any (rowE H xs)=decide (xs∈rows):=by
 have hlen:=r.length;rw [List.length_map] at hlen;have at_:∀ i (hi:i < its.length),its[i]=.ref (ps.getD i 0):=fun i hi=>by
  obtain ⟨u,hu1,hu2⟩:=r.get (i:=i) (x:=.ref (ps.getD i 0)) (by rw [List.getElem?_map,List.getElem?_eq_getElem (by omega),List.getD_eq_getElem?_getD,List.getElem?_eq_getElem (by omega)];rfl);rw [List.getElem?_eq_getElem hi] at hu1
  cases hu2
  exact Option.some.inj hu1
 have ev:∀ i,i < rows.length→rowE H xs (.ref (ps.getD i 0))=decide (rows.getD i []=xs):=fun i hi=>by
  unfold rowE;simp only [hr i hi];rw [decide_eq_decide];exact ⟨map_int_inj,fun z=>by rw [z]⟩
 refine ⟨fun y hy=>?_,?_⟩
 ·obtain ⟨i,hi,e⟩:=List.getElem_of_mem (show y∈its by simpa using hy);rw [← e,at_ i hi,ev i (by omega)];exact zi3 (A:=X.A.in1) hu I ha (hr i (by omega))
 ·rw [show its.toArray.any (rowE H xs)=its.any (rowE H xs) by simp,Bool.eq_iff_iff,List.any_eq_true,decide_eq_true_eq];constructor
  ·rintro ⟨y,hy,e⟩;obtain ⟨i,hi,e'⟩:=List.getElem_of_mem hy;rw [← e',at_ i hi,ev i (by omega)] at e;rw [← of_decide_eq_true e];rw [List.getD_eq_getElem?_getD,List.getElem?_eq_getElem (show i < rows.length by omega)];exact List.getElem_mem _
  ·intro h;obtain ⟨i,hi,e⟩:=L2.mem_getD (d:=[]) h;refine ⟨its[i]'(by omega),List.getElem_mem _,?_⟩;rw [at_ i (by omega),ev i hi,decide_eq_true e]
theorem ziC (hu:X.A.units+1 < cLine):OpR X (compareOp .In) (rInR X.K false):=by
 intro pins s σ H x y v u Q I rx ry h;obtain ⟨a,p,xs,rows,rfl,rfl,ha,⟨ps,hp,hl,hr⟩,q⟩:=h
 cases rx
 cases ry
 obtain ⟨its,r,pl,hz⟩:=I.list hp;obtain ⟨h1,h2⟩:=zeY hu I ha r hl hr;refine SeqAt.in_listAt (rowE H xs) pl.isList h1 ⟨.bl _,H,I,rfl,?_⟩;rw [h2];exact q
def rIn2 (K:PySem.W.Frag) (neg:Bool):R2:=fun x y H Q=>rIn K neg x y H Q∨(rInN K neg x y H Q∨rInR K neg x y H Q)
theorem ziD (h:X.K=K) (hu:X.A.units+1 < cLine):OpR X (compareOp .In) (rIn2 K false):=(zh0 h).or ((h▸ziB hu).or (h▸ziC hu))
end
section
variable {H:Hp} {K:PySem.W.Frag} {Q:VK} {i:Int} {a p:Addr}
theorem ziE {xs:List Int} (h:SqL K H a (xs.map V.int)) (q:Q (.bl (decide (i∈xs))) H):rIn2 K false (.int i) (.ref a) H Q:=.inl (zi0 h q)
end
end L2
namespace Prf
open PySem PySem.Spec PyProof.Rows L2
end Prf
namespace L2
open PySem PySem.Spec PyProof.Rows
section
variable {X:Cx} {K:PySem.W.Frag} {H:Hp} {Q:VK} {i:Int} {b:Bool}
end
end L2
namespace Prf
open PySem PySem.Spec PyProof.Rows L2
end Prf
namespace Prf
open PySem PySem.Spec PyProof.Rows L2
end Prf
namespace L2
open PySem PySem.Spec PyProof.Rows
def cutH (h:Heap) (l:List Addr):Heap:=⟨h.objs.mapIdx fun i o=>if i∈l then ⟨o.cls,o.dict,.freed,o.slots⟩ else o,h.life⟩
theorem zdh {h:Heap} {l:List Addr} {b:Addr}:(cutH h l).get? b=if b∈l then none else h.get? b:=by
 unfold cutH Heap.get?;simp only [Array.getElem?_mapIdx]
 cases e:h.objs[b]? with
 | none=>simp
 | some o =>
   by_cases hb:b∈l
   ·simp [hb]
   ·simp [hb]
theorem zgM {P:Program} {w:World} {H:Hp} {h:Heap} {a:Addr}:∀ {o:HO},za5 P w H h a o→∃ u,h.get? a=some u
 | .lst _,⟨_,_,_,_,e⟩=>⟨_,e⟩
 | .tup _,⟨_,_,_,_,e,_⟩=>⟨_,e⟩
 | .dK _,⟨_,_,_,_,_,_,_,e,_⟩=>⟨_,e⟩
 | .dT _,⟨_,_,_,_,_,_,_,e,_⟩=>⟨_,e⟩
 | .set _ _,⟨_,_,_,_,e,_⟩=>⟨_,e⟩
 | .ins _ _ _,⟨_,_,_,e,_⟩=>⟨_,e⟩
 | .own _,x=>x
 | .xd _,⟨_,⟨_,_,_,e,_⟩,_⟩=>⟨_,e⟩
 | .rng _ _,⟨_,_,_,e⟩=>⟨_,e⟩
 | .frz _ _,⟨e,_⟩=>⟨_,e⟩
 | .tbl _,e=>⟨_,e⟩
 | .met _ _,e=>⟨_,e⟩
 | .ext _,⟨_,⟨_,e⟩,_⟩=>⟨_,e⟩
structure Cov (P:Program) (w:World) (l:List Env) (H:Hp) (h0:Heap) (H':Hp) (B h:Heap):Prop where
 un:Un (frs l) [] H H' h0 h
 hok:HOk P w H' h
 frf:∀ b∈frs l,H' b=none
 cov:∀ b o,h.get? b=some o→(H' b≠none∨∃ o',h0.get? b=some o')→b∉frs l→B.get? b=some o
section
variable {P:Program} {w:World} {l:List Env} {H H':Hp} {h0 B h h':Heap}
theorem Cov.step (C:Cov P w l H h0 H' B h) (fr:h.FunFrames B l) (st:B.StaysIn h') (up:h.UpToSlots h'):Cov P w l H h0 H' B h':=by
 have kp:∀ b o,h.get? b=some o→(H' b≠none∨∃ o',h0.get? b=some o')→b∉frs l→h'.get? b=some o:=fun b o e c n=>st b o (C.cov b o e c n);have slots:∀ b o,h.get? b=some o→b∈frs l→∃ sl,h'.get? b=some { o with slots:=sl }:=fun b o e m=>by
  obtain ⟨_,o2,e2,d2⟩:=fr.mem m;rw [e] at e2;cases e2
  exact up b o e d2
 refine ⟨⟨fun b o e n m _=>?_,fun b o e n m x=>?_,C.un.free,fun b o e x=>?_,C.un.tups,C.un.frzs,C.un.tbls⟩,fun a o e=>?_,C.frf,fun b o e c n=>?_⟩
 ·exact kp b o (C.un.keep b o e n m (by simp)) (.inr ⟨o,e⟩) m
 ·obtain ⟨sl,e1⟩:=C.un.slot b o e n m x;obtain ⟨sl2,e2⟩:=slots b _ e1 m;exact ⟨sl2,e2⟩
 ·obtain ⟨o1,e1⟩:=C.un.there b o e x
  by_cases m:b∈frs l
  ·obtain ⟨sl,e2⟩:=slots b _ e1 m;exact ⟨_,e2⟩
  ·exact ⟨o1,kp b o1 e1 (.inr ⟨o,e⟩) m⟩
 ·refine (C.hok a o e).stay (fun b u hb q=>?_) (fun _ q=>q) fun _ _ q=>q;have hH:H' b≠none:=by
   rcases hb with rfl | z
   ·rw [e];simp
   ·rw [z];simp
  exact kp b u q (.inl hH) fun m=>hH (C.frf b m)
 ·have e1:∃ o1,h.get? b=some o1:=by
   rcases c with c | ⟨o',e'⟩
   ·cases hb:H' b with
    | none=>exact absurd hb c
    | some u =>
      exact zgM (C.hok b u hb)
   ·exact C.un.there b o' e' (by simp)
  obtain ⟨o1,e1⟩:=e1;have e2:=C.cov b o1 e1 c n;have e3:=st b o1 e2;rw [e] at e3;cases e3
  exact e2
end
structure Fly (P:Program) (w:World) (l:List Env) (H:Hp) (s:Shared) (H':Hp) (e:Addr) (cls:Value) (s':Shared):Prop where
 os:s'.os=s.os
 bare:AllBare s'.gens
 fl:∃ (B:Heap) (a0:Value),Heap.FlyingW B l e cls a0 s'.heap∧Cov P w l H s.heap H' B s'.heap
def CX1 (P:Program) (w:World):CXT:=fun l H s E e s'=>∃ a cls H',e=.ref a∧Fly P w l H s H' a cls s'∧E cls none H'
section
variable {P:Program} {w:World} {K:PySem.W.Frag} {mg:Str→Option Value} {base:Heap} {N:List Str} {qual:Str} {scope:Scope} {f:Addr} {cd:Value} {A:Around} {outer:List Env} {s:Shared} {H:Hp} {E:XK}
theorem zfS {pins:List (Addr×Obj)} {σ:St} {H1 H2:Hp} {s1:Shared} {B h2 h':Heap} (I:Inv (cxOf (CX1 P w) P w K mg base N qual scope f cd A outer s H E) pins σ H1 s1)
  (C:Cov P w (envOfC qual scope s.heap.objs.size f cd::outer) H1 s1.heap H2 B h2) (fr:h2.FunFrames B (envOfC qual scope s.heap.objs.size f cd::outer)) (st:B.StaysIn h') (up:h2.UpToSlots h'):Cov P w outer H s.heap H2 B h':=by
 have C':=C.step fr st up;have hfs:∀ b,b∈frs (envOfC qual scope s.heap.objs.size f cd::outer)↔b=s.heap.objs.size∨b∈frs outer:=fun b=>by
  show b∈s.heap.objs.size::frs outer↔_;exact List.mem_cons
 have nL:∀ {b:Addr} {o:Obj},s.heap.get? b=some o→b≠s.heap.objs.size:=fun e=>Nat.ne_of_lt (Heap.lt_size e);have bs:=I.base;have nx:∀ b:Addr,b∉([]:List Addr):=fun b=>by simp
 refine ⟨⟨fun b o e n m x=>?_,fun b o e n m x=>?_,fun b o e n x=>?_,fun b o e x=>?_,fun b xs q=>C'.un.tups b xs (bs.tups b xs q),fun b o u q=>C'.un.frzs b o u (bs.frzs b o u q),fun b ps q=>?_⟩,C'.hok,fun b m=>C'.frf b ((hfs b).mpr (.inr m)),fun b o e c n=>?_⟩
 ·have e1:=bs.keep b o e n m (nx b);exact C'.un.keep b o e1 (bs.free b o e n (nx b)) (fun z=>((hfs b).mp z).elim (nL e) m) (nx b)
 ·obtain ⟨sl,e1⟩:=bs.slot b o e n m (nx b);obtain ⟨sl2,e2⟩:=C'.un.slot b _ e1 (bs.free b o e n (nx b)) ((hfs b).mpr (.inr m)) (nx b);exact ⟨sl2,e2⟩
 ·obtain ⟨o1,e1⟩:=bs.there b o e (nx b);exact C'.un.free b o1 e1 (bs.free b o e n (nx b)) (nx b)
 ·obtain ⟨o1,e1⟩:=bs.there b o e (nx b);exact C'.un.there b o1 e1 (nx b)
 ·obtain ⟨m1,e1⟩:=bs.tbls b ps q;obtain ⟨m2,e2⟩:=C'.un.tbls b _ e1;exact ⟨m1++m2,by rw [e2,Array.append_assoc]⟩
 ·refine C'.cov b o e (c.imp (fun z=>z) fun ⟨o',e'⟩=>bs.there b o' e' (nx b)) fun z=>?_;rcases (hfs b).mp z with z | z
  ·rcases c with c | ⟨o',e'⟩
   ·exact c (C'.frf b ((hfs b).mpr (.inl z)))
   ·exact nL e' z
  ·exact n z
theorem passX:zcl (CX1 P w) (cxOf (CX1 P w) P w K mg base N qual scope f cd A outer s H E) E:=by
 rintro pins σ H1 s1 e s2 I ⟨a,cls,H2,rfl,⟨os,bare,B,a0,F,C⟩,q⟩;have hfr:=I.ok.frames;show wpAny (model P w) (A.deeper (envOfC qual scope s.heap.objs.size f cd)) (leaving (envOfC qual scope s.heap.objs.size f cd) (.ref a)) _ _ s2;refine wpAny_leaves_onW (L:=s.heap.objs.size) hfr rfl F fun h' F' up=>?_;exact ⟨a,cls,H2,rfl,⟨os.trans I.os,bare,B,a0,F',zfS I C F.2.2.1 F'.1 up⟩,q⟩
def ExcC (K:PySem.W.Frag) (C:Addr):Prop:=PySem.W.excIn K C [.type "ValueError",.type "Exception",.type "BaseException",.type "object"] "ValueError.__new__" = true
def zgN (E:XK) (C:Addr):TS:=fun _ _ H=>E (.ref C) none H
theorem ziF {h:Heap} {C:Addr} (X:K.In h) (q:ExcC K C):∃ nm qn N bs bm hd sn sub ab col dd k0 k1 k2 k3 k5 mN,
  h.get? C=some (excClassObj nm qn C N bs bm hd sn sub ab col dd k0 k1 k2 k3 k5 "ValueError.__new__")∧h.Ns N mN∧mN "__init__" = none∧OwnTail h [.type "ValueError",.type "Exception",.type "BaseException",.type "object"] bm:=by
 unfold ExcC PySem.W.excIn at q;split at q
 next dd cd sl ho =>
  split at q
  next C' bm k0 k1 k2 k3 n k5 hm hs =>
   obtain ⟨nm,bs,mro,ns,qn,hd,sn,sub,ab,col,del⟩:=cd;obtain ⟨ls⟩:=sl;simp only [Bool.and_eq_true,beq_iff_eq,Bool.not_eq_true'] at q hm hs;obtain ⟨⟨⟨⟨⟨q1,q2⟩,q3⟩,q4⟩,q5⟩,q6⟩:=q;subst q1 q2 q3 hm hs;exact ⟨nm,qn,ns,bs,bm,hd,sn,sub,ab,col,dd,k0,k1,k2,k3,k5,_,X _ _ ho,.of_isNs (PySem.W.isNs_of_in X q5),PySem.W.nsMap_none_of_in X q5 q6,PySem.W.tail_of_in X q4⟩
  next=>cases q
 next=>cases q
theorem zgz {env:Env} {l:List Env} {b:Addr} (z:b∈frs l):b∈frs (env::l):=by
 obtain ⟨e,m,q⟩:=List.mem_filterMap.mp z;exact List.mem_filterMap.mpr ⟨e,List.mem_cons_of_mem _ m,q⟩
theorem zc4 {h b0 B:Heap}:∀ {l:List Env},h.FunFrames b0 l→(∀ b∈frs l,B.get? b=none)→h.FunFrames B l
 | [],_,_=>trivial
 | env::l,⟨k,⟨L,o,hf,_,ho,hd⟩,r⟩,hb=>⟨k,⟨L,o,hf,hb L (List.mem_filterMap.mpr ⟨env,List.mem_cons_self,hf⟩),ho,hd⟩,zc4 r fun b z=>hb b (zgz z)⟩
theorem zcv {x msg:Str} {np cpos pos kpos:Pos} {j:Nat} {C:Addr} (hg:Gl (cxOf (CX1 P w) P w K mg base N qual scope f cd A outer s H E) x) (hm:mg x=some (.ref C)) (hc:ExcC K C) (hdb:(x == ("__debug__" : Str))=false:=by decide) :
  PS (cxOf (CX1 P w) P w K mg base N qual scope f cd A outer s H E) (.Raise (some (.Call (.Name x np) [.Constant (.str msg) j kpos] [] cpos)) none pos) (zgN E C):=by
 intro pins s1 σ H1 D I h;obtain ⟨nm,qn,Nn,bs,bm,hd,sn,sub,ab,col,dd,k0,k1,k2,k3,k5,mN,hC,hN,hni,T⟩:=ziF I.mod.kin hc;refine wpAny_Raise_call_subT PySem.F.excBase_ValueError (C:=C) (nm:=nm) (q:=qn) (N:=Nn) (bs:=bs) (bm:=bm) (hdct:=hd) (sn:=sn) (sub:=sub) (ab:=ab) (col:=col) (dd:=dd) (k0:=k0) (k1:=k1) (k2:=k2) (k3:=k3) (k5:=k5)
  (mN:=mN) (T.hasType PySem.F.excBase_ValueError.hasBase) (I.ok.hd rfl) rfl hni (zcw I hg hm ⟨rfl,?_⟩ hdb)
 refine Calls.evalArgs_plain (thn ((zaa zck pa_nil:PA (cxOf (CX1 P w) P w K mg base N qual scope f cd A outer s H E) [.Constant (.str msg) j kpos] _) cpos pins s1 σ H1 (fun vs H2=>vs.length=1∧H2=H1) I ⟨rfl,rfl⟩) fun us s2 ⟨vs,H2,I2,r,hl,eH⟩=>?_);subst eH;refine ⟨rfl,by rw [← r.length,hl];decide,I2.bk _ _ hC,hN.keeps I2.bk,T.keeps I2.bk,fun h' e hx=>?_⟩;have hfr:=I2.ok.frames;have hsf:∀ b∈frs (envOfC qual scope s.heap.objs.size f cd::outer),H2 b=none:=I2.stkFree;have hst:s2.heap.FunFrames (cutH s2.heap (frs (envOfC qual scope s.heap.objs.size f cd::outer))) (envOfC qual scope s.heap.objs.size f cd::outer):=zc4 I2.stack fun b hb=>by rw [zdh,if_pos hb]
 show wpAny (model P w) (A.deeper (envOfC qual scope s.heap.objs.size f cd)) (leaving (envOfC qual scope s.heap.objs.size f cd) (.ref e)) _ _ { s2 with heap:=h' };refine wpAny_leaves_madeW (L:=s.heap.objs.size) hfr rfl (fun b o q=>by rw [zdh] at q;split at q;cases q;exact q) hst hx fun h'' tt F' _ _ up=>?_;refine ⟨e,.ref C,H2,rfl,⟨I2.os,I2.bare,_,_,F',zfS I2 (h2:=h') ⟨Un.kept hx.keeps,I2.hok.kept hx.keeps,hsf,fun b o q c n=>?_⟩ (hst.of_keeps fun b o q _=>⟨o,hx.keeps b o q,rfl⟩) F'.1 up⟩,h⟩;have e1:∃ o1,s2.heap.get? b=some o1:=by
  rcases c with c | c
  ·cases hb:H2 b with
   | none=>exact absurd hb c
   | some u=>exact zgM (I2.hok b u hb)
  ·exact c
 obtain ⟨o1,e1⟩:=e1;have e2:=hx.keeps b o1 e1;rw [q] at e2;cases e2
 rw [zdh,if_neg n];exact e1
end
end L2
namespace L2
open PySem PySem.Spec PyProof.Rows
section
variable {P:Program} {w:World} {K:PySem.W.Frag} {mg:Str→Option Value} {base:Heap}
theorem Fun.okX {x qual:Str} {st:Stmt} {f:Addr} {fd:FuncData} {N ps:List Str} {k:Nat} {sp:Sp} (F:Fun K x qual st f fd) (S:zah N ps (zab st)) (len:∀ vs H Q E,sp vs H Q E→vs.length=ps.length)
  (hb:∀ (cdv:Value) (A:Around) (outer:List Env) (s:Shared) (H:Hp) (vs:List V) (Q:VK) (E:XK),Room k (A.deeper (envOfC qual (zab st) s.heap.objs.size f cdv))→sp vs H Q E →
   ∃ t,PSs (cxOf (CX1 P w) P w K mg base N qual (zab st) f cdv A outer s H E) (zag st) t∧t ⟨fun _ H'=>Q .non H',Q,fun _ _=>False,fun _ _=>False⟩ (start N vs) H):FnOk P w K mg base (CX1 P w) (k+1) f fd ps sp:=by
 obtain ⟨oc,od,kV,doc,pm,an,cdv,ct,osl,rfl,lk,hcd⟩:=F.ex;exact zhV lk hcd S len fun A outer s H vs Q E hr hsp=>hb cdv A outer s H vs Q E hr hsp
end
section
variable {X:Cx} {pins:List (Addr×Obj)} {σ:St} {H:Hp} {s:Shared}
def HS (X:Cx) (pins:List (Addr×Obj)) (σ:St) (H:Hp) (a:Addr) (cls:Value) (s:Shared):Prop:=∃ s0 H0,Inv X pins σ H0 s0∧Fly X.prog X.w X.stack H0 s0 H a cls s
theorem HS.inv {a:Addr} {cls:Value} (h:HS X pins σ H a cls s):Inv X pins σ H s:=by
 obtain ⟨s0,H0,I,os,bare,B,a0,F,C⟩:=h;exact I.call' os C.un C.hok bare fun b z=>absurd z (by simp)
theorem HS.step {a:Addr} {cls:Value} (h:HS X pins σ H a cls s) {Q:Unit→Shared→Prop} {A:Around} {E:Value→Shared→Prop} (q:∀ h',HS X pins σ H a cls { s with heap:=h' }→Q () { s with heap:=h' }):wpAny (model X.prog X.w) A (setFlight (.ref a) none) Q E s:=by
 obtain ⟨s0,H0,I,os,bare,B,a0,F,C⟩:=h;exact lands_againW F fun h' F' up=>q h' ⟨s0,H0,I,os,bare,B,a0,F',C.step F.2.2.1 F'.1 up⟩
def WX (X:Cx) (σ:St) (cls:Value) (H:Hp):Prop:=∀ pins a s,HS X pins σ H a cls s→X.xe (.ref a) s
def EX (X:Cx) (σ:St):XK:=fun cls _ H=>WX X σ cls H
variable {k:Nat} {f C:Addr} {fd:FuncData} {ps:List Str} {sp:Sp} {x m:Str} {p pos apos:Pos} {e o:Expr} {es:List Expr} {ta:TE} {t:TA}
theorem zhy {Q:VK} {us:List Value} {vs:List V} (F:FnOk X.prog X.w X.K X.mg X.base (CX1 X.prog X.w) k f fd ps sp) (hr:Room k X.A) (hb:Binds X.K fd ps []) (I:Inv X pins σ H s) (r:Vals vs us) (h:sp (vs++[]) H Q (EX X σ)) :
  wpAny (model X.prog X.w) X.A (call (.ref f) us) (EP X pins σ Q) X.xe s:=by
 have r2:Vals (vs++[]) (us++[]):=r.append .nil;have hl:(us++[]).length=ps.length:=by rw [← r2.length];exact F.len _ _ _ _ h
 refine wpAny_call (codeAny_mono (F.run X.A X.stack s H ⟨us,[]⟩ (us++[]) (vs++[]) Q (EX X σ) hr I.env0 (hb s us I.kIn hl) r2 h) fun r s' hq=>?_)
 match r,hq with
 | .error _,hq =>
   obtain ⟨a,cls,H',rfl,fly,q⟩:=hq;exact q pins a s' ⟨s,H,I,fly⟩
 | .ok (.ret u),hq=>exact I.after hq
 | .ok .next,hq=>exact False.elim hq
 | .ok .brk,hq=>exact False.elim hq
 | .ok .cont,hq=>exact False.elim hq
def zgO (X:Cx) (C:Addr) (m:Str) (sp:Sp) (ta:TE) (t:TA):TE:=fun σ H Q=>zgb C m sp [] (EX X σ) ta t σ H Q
theorem zdi {pl:Sem Bool} (he:PE X o ta) (c:Cls X.K C) (hm:Meth X.K C m f) (F:FnOk X.prog X.w X.K X.mg X.base (CX1 X.prog X.w) k f fd ps sp) (hr:Room k X.A) (hb:Binds X.K fd ps []) (ha:PA X (e::es) t)
  (hst:starEach (e::es) X.env=(false,eval e X.env)::starEach es X.env:=by rfl) (hpl:(backTo pos (starEach es X.env)).any (·.1)=false:=by rfl)
  (ht:eval (.Call (.Attribute o m apos) (e::es) [] pos) X.env=(do
   let ov ← eval o X.env
   standAt apos.atName
   let (f,first) ← holding [ov] (getMethod ov m pl)
   callWith pos f first (backTo pos (starEach (e::es) X.env)) (backToKw pos (keywordEach [] X.env))):=by rfl) :
  PE X (.Call (.Attribute o m apos) (e::es) [] pos) (zgO X C m sp ta t):=by
 intro pins s σ H Q I h;refine PySem.W.methodCall_KW (pl:=pl) (thn (he pins s σ H _ I h) fun u s1 ⟨x,H1,I1,rx,a,dx,fs,ex,ea,l,q⟩=>?_) ht;subst ex;obtain rfl:u=Value.ref a:=rx;refine zcg I1 ea c hm l ?_;refine PySem.W.callWith_K (first:=[.ref a]) (h₀:=X.base) I.ok.mod.kin hm.kp (thn (ha pos pins s1 σ H1 _ I1 q) fun us s2 ⟨vs,H2,I2,r,q2⟩=>⟨I2.kIn,?_⟩) hst hpl;exact zhy (us:=.ref a::us) (vs:=.ref a::vs) F hr hb I2 (.cons rfl r) q2
abbrev Cx.held (X:Cx) (v:Option Value):Cx:={ X with A:=X.A.mark v,calm:=false }
theorem Inv.held (I:Inv X pins σ H s) (v:Option Value):Inv (X.held v) pins σ H s :=
 ⟨⟨I.ok.mod,I.ok.kind,I.ok.glob,I.ok.blt,I.ok.above,I.ok.inj,I.ok.has,I.ok.cab,fun z=>(by cases z),I.ok.frames,I.ok.stk,I.ok.exf,I.ok.bs,I.ok.bsz,I.ok.noex,I.ok.exfs,I.ok.funs,I.ok.frf⟩,I.os,I.bare,I.base,I.loc,I.cell,I.free,I.freeC,I.pin,I.hok,I.len⟩
theorem Inv.unheld {v:Option Value} (ok:X.Ok) (I:Inv (X.held v) pins σ H s):Inv X pins σ H s:=⟨ok,I.os,I.bare,I.base,I.loc,I.cell,I.free,I.freeC,I.pin,I.hok,I.len⟩
theorem SP.unheld {v:Option Value} (ok:X.Ok) {D:Ends} {f:Flow} {s':Shared} (h:SP (X.held v) pins D f s'):SP X pins D f s':=by
 cases f with
 | next=>obtain ⟨σ',H',I,q⟩:=h;exact ⟨σ',H',I.unheld ok,q⟩
 | brk=>obtain ⟨σ',H',I,q⟩:=h;exact ⟨σ',H',I.unheld ok,q⟩
 | cont=>obtain ⟨σ',H',I,q⟩:=h;exact ⟨σ',H',I.unheld ok,q⟩
 | ret u=>obtain ⟨v,σ',H',I,r,q⟩:=h;exact ⟨v,σ',H',I.unheld ok,r,q⟩
def PH (X:Cx) (hs:List ExceptHandler) (th:Value→TS):Prop:=∀ pins s σ H D a cls,HS X pins σ H a cls s→th cls D σ H→wpAny (model X.prog X.w) X.A (handleBy (.ref a) X.env hs) (SP X pins D) X.xe s
def tCl (K:PySem.W.Frag) (C:Addr) (ts:TS) (th:Value→TS):Value→TS:=fun cls D σ H=>∃ b,PySem.W.exmOne K cls (.ref C)=some b∧if b=true then ts D σ H else th cls D σ H
theorem ph_nil:PH X [] (fun _=>tNever):=fun _ _ _ _ _ _ _ _ h=>h.elim
theorem zfT {np:Pos} {b₀:Stmt} {suite:List Stmt} {rest:List ExceptHandler} {ts:TS} {th:Value→TS} (hno:∀ e s,¬X.xe e s) (hg:Gl X x) (hm:X.mg x=some (.ref C)) (hs:∀ v,PSs (X.held v) (b₀::suite) ts) (hr:PH X rest th) (hdb:(x == ("__debug__" : Str))=false:=by decide) :
  PH X (.ExceptHandler (some (.Name x np)) none (b₀::suite) pos::rest) (tCl X.K C ts th):=by
 intro pins s σ H D a cls hh hq;obtain ⟨b,hx,q⟩:=hq;have I:=hh.inv;have LT:PySem.W.Looks (model X.prog X.w) s.heap (typeOf (.ref a)) cls:=by
  obtain ⟨s0,H0,_,_,_,B,a0,F,_⟩:=hh;obtain ⟨ob,hob,hc⟩:=F.there;subst hc;exact (PySem.W.Looks.ld hob).andThen .now
 refine wpAny_handleBy_cons (codeAny_handlers_test (zcw (I.held (some (.ref a))) hg hm ?_ hdb)) (by intro z;cases z);refine (PySem.W.exm_one (K:=X.K) I.kIn LT hx).here ?_
 cases b with
 | true =>
   refine codeAny_handlers_suite (hh.step fun h' hh'=>?_);exact wpAny_mono (hs _ pins _ σ H D (hh'.inv.held _) q) (fun f s2 z=>z.unheld I.ok) fun e s2 z=>(hno e s2 z).elim
 | false=>exact hr pins s σ H D a cls hh q
def tTry (X:Cx) (tb:(Value→Shared→Prop)→List (Addr×Obj)→TS) (th:Value→TS):TS:=fun D σ H=>∀ xe pn,(∀ cls σ' H',th cls D σ' H'→WX { X with xe:=xe,pn:=pn } σ' cls H')→tb xe pn D σ H
theorem ziG {body:List Stmt} {h0:ExceptHandler} {hs:List ExceptHandler} {tb:(Value→Shared→Prop)→List (Addr×Obj)→TS} {th:Value→TS} (hst:X.stack=X.env::X.outer∧X.env.frame=some X.env.locals)
  (hb:∀ xe pn,PSs { X with xe:=xe,pn:=pn } body (tb xe pn)) (hh:PH X (h0::hs) th):PS X (.Try body (h0::hs) [] [] pos) (tTry X tb th):=by
 intro pins s σ H D I hq;have hpin:∀ {xe pins' σ' H' s'},Inv { X with xe:=xe,pn:=X.pn++pins } pins' σ' H' s'→Inv X pins σ' H' s':=fun J =>
  ⟨I.ok,J.os,J.bare,J.base,J.loc,J.cell,J.free,J.freeC,fun p hp=>J.pin p (List.mem_append_left _ hp),J.hok,J.len⟩
 have I':∀ xe,Inv { X with xe:=xe,pn:=X.pn++pins } [] σ H s:=fun xe =>
  ⟨⟨I.ok.mod,I.ok.kind,I.ok.glob,I.ok.blt,I.ok.above,I.ok.inj,I.ok.has,I.ok.cab,I.ok.hd,I.ok.frames,I.ok.stk,I.ok.exf,I.ok.bs,I.ok.bsz,I.ok.noex,I.ok.exfs,I.ok.funs,I.ok.frf⟩,I.os,I.bare,I.base,I.loc,I.cell,I.free,I.freeC,fun p hp=>I.pin p (by simpa using hp),I.hok,I.len⟩
 let xe:Value→Shared→Prop:=fun e s₁=>wpAny (model X.prog X.w) X.A (noteFrame e X.env) (fun _ s₂=>wpAny (model X.prog X.w) X.A (setFlight e none) (fun _ s₃=>wpAny (model X.prog X.w) X.A (handleBy e X.env (h0::hs)) (SP X pins D) X.xe s₃) X.xe s₂) X.xe s₁
 refine wpAny_Try_except (wpAny_mono (hb xe (X.pn++pins) [] s σ H D (I' xe) (hq xe (X.pn++pins) fun cls σ' H' z pins' a s' hs'=>?_)) (fun f s1 z=>?_) fun e s1 z=>z)
 ·obtain ⟨s0,H0,J,os,bare,B,a0,F,C⟩:=hs';have hfr:X.A.frames=some (X.env::X.outer):=by rw [← hst.1];exact I.ok.frames
  have F':Heap.FlyingW B (X.env::X.outer) a cls a0 s'.heap:=by rw [← hst.1];exact F
  show wpAny (model X.prog X.w) X.A (noteFrame (.ref a) X.env) _ X.xe s';refine wpAny_looks_onW hfr hst.2 F' fun h4 F4 up4=>wpAny_landsW F4 fun h5 F5 up5=>?_;exact hh pins _ σ' H' D a cls ⟨s0,H0,hpin J,os,bare,B,a0,by rw [hst.1];exact F5,C.step F.2.2.1 F5.1 (up4.trans up5)⟩ z
 ·have back:SP X pins D f s1:=by
   cases f with
   | next=>obtain ⟨σ',H',J,q⟩:=z;exact ⟨σ',H',hpin J,q⟩
   | brk=>obtain ⟨σ',H',J,q⟩:=z;exact ⟨σ',H',hpin J,q⟩
   | cont=>obtain ⟨σ',H',J,q⟩:=z;exact ⟨σ',H',hpin J,q⟩
   | ret u=>obtain ⟨v,σ',H',J,r,q⟩:=z;exact ⟨v,σ',H',hpin J,r,q⟩
  cases f with
  | next=>exact wpAny_execs_nil back
  | brk=>exact back
  | cont=>exact back
  | ret u=>exact back
end
end L2
namespace L2
open PySem PySem.Spec PyProof.Rows
structure XAd where
 OutOfTime:Addr
 UnknownNumber:Addr
 NotDue:Addr
 OutOfBounds:Addr
 Full:Addr
 ReadError:Addr
section
variable {X:Cx} {K:PySem.W.Frag} {C:Addr} {m:Str} {sp:Sp} {ta:TE} {tl:TA} {σ:St} {H:Hp} {Q:VK} {E:XK} {D:Ends} {tb:(Value→Shared→Prop)→List (Addr×Obj)→TS} {th:Value→TS} {ts:TS} {cls:Value}
theorem zfU (h:ta σ H fun x H1=>zaH C m sp (EX X σ) tl σ x H1 Q):zgO X C m sp ta tl σ H Q:=h
theorem zfV (h:E (.ref C) none H):zgN E C D σ H:=h
theorem zi4 (h:∀ xe pn,(∀ cls σ' H',th cls D σ' H'→EX { X with xe:=xe,pn:=pn } σ' cls none H')→tb xe pn D σ H):tTry X tb th D σ H:=h
theorem zeZ (e:PySem.W.exmOne K cls (.ref C)=some true) (h:ts D σ H):tCl K C ts th cls D σ H:=⟨true,e,by rw [if_pos rfl];exact h⟩
theorem zhz (e:PySem.W.exmOne K cls (.ref C)=some false) (h:th cls D σ H):tCl K C ts th cls D σ H:=⟨false,e,by rw [if_neg (by decide)];exact h⟩
end
end L2
namespace L2
open PySem PySem.Spec PyProof.Rows
inductive Rf where | time | unknown | notdue | bounds | full
def XAd.at (xa:XAd):Rf→Addr
 | .time=>xa.OutOfTime
 | .unknown=>xa.UnknownNumber
 | .notdue=>xa.NotDue
 | .bounds=>xa.OutOfBounds
 | .full=>xa.Full
section
variable {K:PySem.W.Frag} {H:Hp} {Q:VK} {a b:Str}
theorem zgP (q:Q (.bl (decide (a=b))) H):rEq2 K (.str a) (.str b) H Q:=by
 refine .inl (.inl ⟨rfl,?_⟩);simpa using q
end
end L2
namespace Prf
open PySem PySem.Spec PyProof.Rows L2
def whyP (st:ExS) (h:Int):Option Rf:=if st.dl.isSome=true then some .time else if 1≤h∧h≤6 then (if st.hs.length < 10 then none else some .full) else some .unknown
def whyR (st:ExS) (h l:Int):Option Rf:=if st.dl.isSome=true then some .time else if 0≤h∧h≤6 then (if 0≤l∧l≤30 then (if st.rs.length < 8 then none else some .full) else some .bounds) else some .unknown
def whyS (st:ExS) (s:Int):Option Rf:=if st.dl.isSome=true then some .time else if 0≤s∧s≤100 then none else some .bounds
theorem zfW {st:ExS} {h:Int} (hd:st.dl=none) (hp:1≤h∧h≤6∧st.hs.length < 10):whyP st h=none:=by
 unfold whyP;rw [hd,if_neg (by decide),if_pos ⟨hp.1,hp.2.1⟩,if_pos hp.2.2]
theorem zfX {st:ExS} {h l:Int} (hd:st.dl=none) (hp:0≤h∧h≤6∧0≤l∧l≤30∧st.rs.length < 8):whyR st h l=none:=by
 unfold whyR;rw [hd,if_neg (by decide),if_pos ⟨hp.1,hp.2.1⟩,if_pos ⟨hp.2.2.1,hp.2.2.2.1⟩,if_pos hp.2.2.2.2]
theorem zfY {st:ExS} {s:Int} (hd:st.dl=none) (hp:0≤s∧s≤100):whyS st s=none:=by
 unfold whyS;rw [hd,if_neg (by decide),if_pos hp]
inductive Dd where
 | paper (h:Int)
 | reader (h l:Int)
 | step (s:Int)
def Dd.row:Dd→List Int
 | .paper h=>[0,h]
 | .reader h l=>[1,h,l]
 | .step s=>[2,s]
def Dd.why (st:ExS):Dd→Option Rf
 | .paper h=>whyP st h
 | .reader h l=>whyR st h l
 | .step s=>whyS st s
def Dd.done (st:ExS):Dd→ExS
 | .paper h=>{ st with hs:=st.hs++[h] }
 | .reader h l=>{ st with rs:=st.rs++[[h,l]] }
 | .step s=>{ st with step:=s }
def Dd.ans (st:ExS):Dd→Int
 | .paper _=>(st.hs.length:Int)+1
 | .reader _ _=>(st.rs.length:Int)+1
 | .step s=>s
def _root_.L2.Rf.word:Rf→Str
 | .time=>"time"
 | .unknown=>"unknown"
 | .notdue=>"not due"
 | .bounds=>"bounds"
 | .full=>"full"
theorem zhA {st:ExS} (h:¬st.dl.isSome=true):st.dl=none:=by
 cases e:st.dl with
 | none=>rfl
 | some _=>rw [e] at h;exact absurd rfl h
structure Br2 (C:Addr) (H0 H:Hp) (x a b:Addr) (F:Addr→Prop) (st:ExS) (ps:List Addr) (hs:List Int) (rs:List (List Int)):Prop where
 same:Same H0 H
 nf:∀ c o,H0 c=some o→¬F c
 ex:ExAt C H x F st
 inb:InB st.hs st.rs
 ih:zcR H F a hs
 ir:zcD H F b ps rs
 na:H0 a=none
 nb:H0 b=none
 ne:a≠b
 nap:∀ i,i < ps.length→ps.getD i 0≠a
 nbp:∀ i,i < ps.length→ps.getD i 0≠b
section
variable {C:Addr} {H0 H H' H1 H2:Hp} {x a b r:Addr} {F F':Addr→Prop} {st st':ExS} {ps:List Addr} {hs:List Int} {rs:List (List Int)} {h:Int} {row:List Int}
theorem Br2.grow (B:Br2 C H0 H x a b F st ps hs rs) (s:Same H H'):Br2 C H0 H' x a b F st ps hs rs :=
 ⟨B.same.trans s,B.nf,B.ex.same s,B.inb,B.ih.same s,B.ir.same s,B.na,B.nb,B.ne,B.nap,B.nbp⟩
theorem Br2.deed (B:Br2 C H0 H x a b F st ps hs rs) (f:ExFr H H' F F') (E:ExAt C H' x F' st') (i:InB st'.hs st'.rs):Br2 C H0 H' x a b F' st' ps hs rs:=by
 obtain ⟨n,s⟩:=f.nf B.same B.nf;exact ⟨s,n,E,i,B.ih.fr f,B.ir.fr f,B.na,B.nb,B.ne,B.nap,B.nbp⟩
theorem Br2.paper (B:Br2 C H0 H x a b F st ps hs rs) (b1:But a H H1) (e1:H1 a=some (.lst ((hs++[h]).map V.int))):Br2 C H0 H1 x a b F st ps (hs++[h]) rs:=by
 obtain ⟨r1,r2,r3,r4⟩:=B.ir;exact ⟨B.same.but b1 B.na,B.nf,B.ex.keep fun c o hc e=>(by rw [b1 c (fun z=>B.ih.2 (z▸hc))];exact e),B.inb,⟨e1,B.ih.2⟩,
  ⟨by rw [b1 _ B.ne.symm];exact r1,r2,r3,fun i hi=>⟨by rw [b1 _ (B.nap i (by omega))];exact (r4 i hi).1,(r4 i hi).2⟩⟩,B.na,B.nb,B.ne,B.nap,B.nbp⟩
theorem Br2.reader (B:Br2 C H0 H x a b F st ps hs rs) (fr:H r=none) (s1:Same H H1) (e1:H1 r=some (.lst (row.map V.int))) (b2:But b H1 H2) (e2:H2 b=some (.lst (ps.map V.ref++[.ref r]))):Br2 C H0 H2 x a b F st (ps++[r]) hs (rs++[row]):=by
 have B1:=B.grow s1;have nrb:r≠b:=(zaf B.ir.1 fr).symm;have nra:r≠a:=(zaf B.ih.1 fr).symm;obtain ⟨r1,r2,r3,r4⟩:=B1.ir;have lx:∀ i,i < (ps++[r]).length→i < ps.length∨i=ps.length:=fun i hi=>by
  rw [List.length_append,List.length_singleton] at hi;omega
 refine ⟨B1.same.but b2 B.nb,B.nf,B1.ex.keep fun c o hc e=>(by rw [b2 c (fun z=>r2 (z▸hc))];exact e),B.inb,⟨by rw [b2 _ B.ne];exact B1.ih.1,B1.ih.2⟩,
  ⟨by rw [e2,List.map_append];rfl,r2,by rw [List.length_append,List.length_append,r3];rfl,fun i hi=>?_⟩,B.na,B.nb,B.ne,fun i hi=>?_,fun i hi=>?_⟩
 ·rcases lx i (by rw [List.length_append,r3];rw [List.length_append] at hi;exact hi) with e | e
  ·rw [zas e,zas (by omega)];exact ⟨by rw [b2 _ (B.nbp i e)];exact (r4 i (by omega)).1,(r4 i (by omega)).2⟩
  ·subst e;rw [zao,r3,zao];exact ⟨by rw [b2 _ nrb];exact e1,B.ex.new fr⟩
 ·rcases lx i hi with e | e
  ·rw [zas e];exact B.nap i e
  ·subst e;rw [zao];exact nra
 ·rcases lx i hi with e | e
  ·rw [zas e];exact B.nbp i e
  ·subst e;rw [zao];exact nrb
theorem InB.addR {h l:Int} (B:InB hs rs) (hl:rs.length < 8) (h1:0≤h∧h≤6) (l1:0≤l∧l≤30):InB hs (rs++[[h,l]]):=by
 refine ⟨B.lp,by rw [List.length_append,List.length_singleton];omega,B.hh,fun i hi=>?_,fun i hi=>?_,fun i hi=>?_⟩ <;>
 ·rw [List.length_append,List.length_singleton] at hi
  by_cases e:i < rs.length
  ·rw [zas e];first | exact B.r2 i e | exact B.rh i e | exact B.rl i e
  ·have:i=rs.length:=by omega
   subst this;rw [zao];first | rfl | exact h1 | exact l1
theorem Dd.inb {d:Dd} (B:InB st.hs st.rs) (h:d.why st=none):InB (d.done st).hs (d.done st).rs:=by
 cases d with
 | paper h' =>
   have h:whyP st h'=none:=h;unfold whyP at h
   by_cases c1:st.dl.isSome=true
   ·rw [if_pos c1] at h;cases h
   rw [if_neg c1] at h
   by_cases c2:1≤h'∧h'≤6
   ·rw [if_pos c2] at h
    by_cases c3:st.hs.length < 10
    ·exact InB.addP B c3 c2
    ·rw [if_neg c3] at h;cases h
   ·rw [if_neg c2] at h;cases h
 | reader h' l' =>
   have h:whyR st h' l'=none:=h;unfold whyR at h
   by_cases c1:st.dl.isSome=true
   ·rw [if_pos c1] at h;cases h
   rw [if_neg c1] at h
   by_cases c2:0≤h'∧h'≤6
   ·rw [if_pos c2] at h
    by_cases c3:0≤l'∧l'≤30
    ·rw [if_pos c3] at h
     by_cases c4:st.rs.length < 8
     ·exact InB.addR B c4 c2 c3
     ·rw [if_neg c4] at h;cases h
    ·rw [if_neg c3] at h;cases h
   ·rw [if_neg c2] at h;cases h
 | step s=>exact B
end
end Prf
namespace L2
open PySem PySem.Spec PyProof.Rows
section
variable {X:Cx} {K:PySem.W.Frag}
variable {H:Hp} {Q:VK} {σ:St} {p:Addr} {xs:List V} {i:Int} {v:V} {tl:TA}
end
end L2
namespace Prf
open PySem PySem.Spec PyProof.Rows L2
def one (b:Bool) (w:Str):List Str:=if b=true then [w] else []
end Prf
open PySem PySem.Spec PyProof.Rows L2
local macro_rules | `(tactic| walk_at "ne")=>`(tactic| first | assumption | (exact Ne.symm (by assumption)) | (exact zaf (by assumption) (by assumption)) | (exact Ne.symm (zaf (by assumption) (by assumption))))
local macro_rules | `(tactic| walk_at "hp")=>`(tactic| first | assumption | (exact zal) | (exact SqL.of zal) | (exact SqL.of (by assumption)) | (exact Eq.trans (zau (by walk_at "ne")) (by walk_at "hp")) | (exact SqL.of (Eq.trans (zau (by walk_at "ne")) (by walk_at "hp"))))
local macro_rules | `(tactic| walk_at "ty")=>`(tactic| first | (exact TyOf.int _) | (exact TyOf.bl _) | (exact TyOf.non) | (exact TyOf.str _) | (exact TyOf.lst (by walk_at "hp")))
local macro_rules | `(tactic| walk_at "ix")=>`(tactic| first | (exact zer (by omega) (by omega)) | (exact zgj (by omega) (by omega)) | (exact rfl))
local macro_rules | `(tactic| walk_at "rd1")=>`(tactic| first
 | (with_reducible refine zgk ?_) | (with_reducible refine ziT ?_) | (with_reducible refine ziU ?_) | (with_reducible refine ziS ?_) | (with_reducible refine zh8 ?_) | (with_reducible refine zh9 ?_) | (with_reducible refine r_break ?_) | (with_reducible refine r_intI ?_) | (with_reducible refine r_intB ?_) | (with_reducible refine zhc ?_)
 | (with_reducible refine r_op ?_) | ((with_reducible refine' zdD ?rv ?_);(case rv=>exact rfl)) | (with_reducible refine r_c ?_)
 | (with_reducible refine r_I0 ?_) | (with_reducible refine zie ?_) | (with_reducible refine zix ?_) | (with_reducible refine ziy ?_) | (with_reducible refine ziz ?_) | (with_reducible refine r_ne2B ?_) | (with_reducible refine r_eqGI ?_) | (with_reducible refine zgK ?_) | (with_reducible refine r_eqGB ?_) | (with_reducible refine r_neGB ?_)
 | (with_reducible refine r_cb ?_) | (with_reducible refine zdE ?_) | (with_reducible refine zb2 ?_) | (with_reducible refine zh3 ?_) | (with_reducible refine ziP ?_) | (with_reducible refine r_bm ?_)
 | (with_reducible refine zh4 ?_) | (with_reducible refine r_orV ?_) | (with_reducible refine zh5 ?_) | (with_reducible refine zh6 ?_) | (with_reducible refine zh7 ?_) | (with_reducible refine r_tB ?_)
 | (with_reducible refine ziQ ?_) | (with_reducible refine r_or ?_) | (with_reducible refine ziR ?_) | (with_reducible refine r_if ?_) | (with_reducible refine r_tt ?_) | (with_reducible refine zhd ?_) | (with_reducible refine zhe ?_)
 | ((with_reducible refine' ziE ?h1 ?_);(case h1=>walk_at "hp")) | ((with_reducible refine' r_notIn2I ?h1 ?_);(case h1=>walk_at "hp")) | (with_reducible refine r_forZ ?_)
 | (with_reducible refine zi1 ?_) | (with_reducible refine zij ?_)
 | (with_reducible refine r_min2 ?_) | (with_reducible refine r_max2 ?_) | ((with_reducible refine' zih ?h1 ?h2 ?_);(case h1=>omega);(case h2=>omega)) | ((with_reducible refine' r_pow ?h1 ?_);(case h1=>exact ⟨by decide,by decide,by decide⟩))
 | ((with_reducible refine' r_mulB ?h1 ?_);(case h1=>first | (exact .inl (.inr ⟨by decide,by decide⟩)) | (exact .inl (.inl ⟨by omega,by omega⟩)) | (exact .inl (.inr ⟨by omega,by omega⟩)) | (exact .inr ⟨⟨by omega,by omega⟩,by omega,by omega⟩)))
 | (with_reducible refine r_lr ?_) | (with_reducible refine r_sl ?_) | (with_reducible refine zho ?_) | (with_reducible refine zii ?_) | (with_reducible refine zhp ?_) | (with_reducible refine r_setSub ?_) | (with_reducible refine r_gsub ?_)
 | (with_reducible refine r_maxD ?_) | ((with_reducible refine' leaf_max ?h1 ?_);(case h1=>walk_at "hp"))
 | (with_reducible refine r_for3 ?_) | (with_reducible refine ziZ ?_) | (with_reducible refine r_un ?_)
 | (with_reducible refine zia ?_) | (with_reducible refine zib ?_) | (with_reducible refine zif ?_) | (with_reducible refine r_comp1 ?_) | (with_reducible refine zhf ?_) | (with_reducible refine zhg ?_) | (with_reducible refine r_forE ?_) | (with_reducible refine zhs ?_) | (with_reducible refine zht ?_)
 | (with_reducible refine zi2 ?_) | (with_reducible refine zim ?_) | (with_reducible refine zin ?_) | (with_reducible refine zio ?_) | (with_reducible refine r_augS ?_) | (with_reducible refine r_ipI ?_) | (with_reducible refine r_din ?_) | (with_reducible refine ziq ?_) | (with_reducible refine zir ?_) | (with_reducible refine r_dput ?_)
 | ((with_reducible refine' zgv ?h1 ?h2 ?h3 ?h4 ?_);(case h1=>assumption);(case h2=>assumption);(case h3=>assumption);(case h4=>assumption))
 | ((with_reducible refine' ziX ?h1 ?_);(case h1=>omega)) | ((with_reducible refine' r_div ?h1 ?h2 ?_);(case h1=>omega);(case h2=>omega)) | ((with_reducible refine' r_mul ?h1 ?_);(case h1=>first | (exact .inr ⟨by decide,by decide⟩) | (exact .inl ⟨by omega,by omega⟩) | (exact .inr ⟨by omega,by omega⟩))) | ((with_reducible refine' ziY ?h1 ?_);(case h1=>walk_at "hp"))
 | ((with_reducible refine' zh2 ?h1 ?h2 ?_);(case h1=>walk_at "hp");(case h2=>walk_at "ix"))
 | ((with_reducible refine' zic ?h1 ?_);(case h1=>walk_at "hp")) | ((with_reducible refine' zid ?h1 ?_);(case h1=>walk_at "hp")) | ((with_reducible refine' ziV ?h1 ?_);(case h1=>walk_at "hp"))
 | ((with_reducible refine' ziW ?h1 ?h2 ?_);(case h1=>walk_at "ty");(case h2=>rfl)))
local macro_rules | `(tactic| walk_at "rd")=>`(tactic| repeat (walk_at "rd1"))
local macro_rules | `(tactic| walk_at "st")=>`(tactic| repeat ((fail_if_success (with_reducible refine zgk ?_));walk_at "rd1"))
local macro_rules | `(tactic| walk_at "rdk")=>`(tactic| repeat (first | walk_at "rd1" | (with_reducible refine iteF ?_) | (with_reducible refine iteT ?_) | (refine zcB (fun h=>absurd h (by omega)) (fun _=>?_)) | (refine zcB (fun _=>?_) (fun h=>absurd (by omega) h))))
local macro_rules | `(tactic| symm)=>`(tactic| walk_at "rd")
set_option hygiene false
local macro_rules | `(tactic| walk_at "hd")=>`(tactic| (obtain ⟨e,kvs,rfl,hF,I⟩:=E0;have hcl:=T.cl_Exam;have nA:=T.n_Exam_paper_houses;have nB:=T.n_Exam_reader_rows;have nS:=T.n_Exam_widest_step;have nD:=T.n_Exam_is_dealt;have nC:=T.n_Exam_named_readers;have nE:=T.n_Exam_entered_points;have hob:=I.ob;have fA:=@exFs_a (.ref e.a) (.ref e.b) (.int st.step) (.bl st.dl.isSome) (.ref e.c) (.ref e.d);have fB:=@exFs_b (.ref e.a) (.ref e.b) (.int st.step) (.bl st.dl.isSome) (.ref e.c) (.ref e.d);have fS:=@exFs_s (.ref e.a) (.ref e.b) (.int st.step) (.bl st.dl.isSome) (.ref e.c) (.ref e.d);have fD:=@exFs_d (.ref e.a) (.ref e.b) (.int st.step) (.bl st.dl.isSome) (.ref e.c) (.ref e.d);have fC:=@exFs_c (.ref e.a) (.ref e.b) (.int st.step) (.bl st.dl.isSome) (.ref e.c) (.ref e.d);have fE:=@exFs_e (.ref e.a) (.ref e.b) (.int st.step) (.bl st.dl.isSome) (.ref e.c) (.ref e.d);have hha:=I.ha;have hhb:=I.hb;have hhc:=I.hc;have hhd:=I.hd))
set_option hygiene true
namespace Prf
open PySem PySem.Spec PyProof.Rows L2
def top (i:Nat):Stmt:=PySem.Challenge.pw_secondread_k21_bounds.main.body.getD i (.Pass ⟨0,0,0,0⟩)
abbrev s_35:Stmt:=top 30
theorem sc_35:zah ["_law_found"] ["_law_found"] (zab s_35):=⟨rfl,rfl,rfl,by decide +kernel,rfl,by decide +kernel,by decide +kernel⟩
abbrev s_37:Stmt:=top 32
theorem sc_37:zah ["_law_found","_law_due","_law_k"] ["_law_found","_law_due"] (zab s_37):=⟨rfl,rfl,rfl,by decide +kernel,rfl,by decide +kernel,by decide +kernel⟩
abbrev s_34:Stmt:=top 29
theorem sc_34:zah ["_law_script","_law_k"] ["_law_script","_law_k"] (zab s_34):=⟨rfl,rfl,rfl,by decide +kernel,rfl,by decide +kernel,by decide +kernel⟩
abbrev s_11:Stmt:=zaM (top 27) 0
theorem sc_11:zah ["self"] ["self"] (zab s_11):=⟨rfl,rfl,rfl,by decide +kernel,rfl,by decide +kernel,by decide +kernel⟩
abbrev s_26:Stmt:=zaM (top 27) 15
theorem sc_26:zah ["self"] ["self"] (zab s_26):=⟨rfl,rfl,rfl,by decide +kernel,rfl,by decide +kernel,by decide +kernel⟩
abbrev s_8:Stmt:=top 23
theorem sc_8:zah ["number","least","most"] ["number","least","most"] (zab s_8):=⟨rfl,rfl,rfl,by decide +kernel,rfl,by decide +kernel,by decide +kernel⟩
abbrev s_10:Stmt:=top 25
theorem sc_10:zah ["many","most"] ["many","most"] (zab s_10):=⟨rfl,rfl,rfl,by decide +kernel,rfl,by decide +kernel,by decide +kernel⟩
abbrev s_12:Stmt:=zaM (top 27) 1
theorem sc_12:zah ["self","house"] ["self","house"] (zab s_12):=⟨rfl,rfl,rfl,by decide +kernel,rfl,by decide +kernel,by decide +kernel⟩
abbrev s_9:Stmt:=top 24
theorem sc_9:zah ["number","most"] ["number","most"] (zab s_9):=⟨rfl,rfl,rfl,by decide +kernel,rfl,by decide +kernel,by decide +kernel⟩
abbrev s_13:Stmt:=zaM (top 27) 2
theorem sc_13:zah ["self","house","limit"] ["self","house","limit"] (zab s_13):=⟨rfl,rfl,rfl,by decide +kernel,rfl,by decide +kernel,by decide +kernel⟩
abbrev s_14:Stmt:=zaM (top 27) 3
theorem sc_14:zah ["self","step"] ["self","step"] (zab s_14):=⟨rfl,rfl,rfl,by decide +kernel,rfl,by decide +kernel,by decide +kernel⟩
abbrev s_41:Stmt:=top 36
theorem sc_41:zah ["_law_exam","_law_todo","_law_fine","_law_due","_law_why","_law_refused","_law_found"] ["_law_exam","_law_todo","_law_fine","_law_due","_law_why"] (zab s_41):=⟨rfl,rfl,rfl,by decide +kernel,rfl,by decide +kernel,by decide +kernel⟩
abbrev s_38:Stmt:=top 33
theorem sc_38:zah ["_law_found","_law_due","_law_k"] ["_law_found","_law_due"] (zab s_38):=⟨rfl,rfl,rfl,by decide +kernel,rfl,by decide +kernel,by decide +kernel⟩
abbrev s_18:Stmt:=zaM (top 27) 7
theorem sc_18:zah ["self"] ["self"] (zab s_18):=⟨rfl,rfl,rfl,by decide +kernel,rfl,by decide +kernel,by decide +kernel⟩
abbrev s_17:Stmt:=zaM (top 27) 6
theorem sc_17:zah ["self"] ["self"] (zab s_17):=⟨rfl,rfl,rfl,by decide +kernel,rfl,by decide +kernel,by decide +kernel⟩
abbrev s_29:Stmt:=zaM (top 27) 18
theorem sc_29:zah ["self","paper","entered"] ["self","paper"] (zab s_29):=⟨rfl,rfl,rfl,by decide +kernel,rfl,by decide +kernel,by decide +kernel⟩
abbrev s_23:Stmt:=zaM (top 27) 12
theorem sc_23:zah ["self","rows","paper"] ["self"] (zab s_23):=⟨rfl,rfl,rfl,by decide +kernel,rfl,by decide +kernel,by decide +kernel⟩
abbrev s_2:Stmt:=top 9
theorem sc_2:zah ["rows","reader"] ["rows","reader"] (zab s_2):=⟨rfl,rfl,rfl,by decide +kernel,rfl,by decide +kernel,by decide +kernel⟩
abbrev s_1:Stmt:=top 8
theorem sc_1:zah ["readers","rows"] ["readers","rows"] (zab s_1):=⟨rfl,rfl,rfl,by decide +kernel,rfl,by decide +kernel,by decide +kernel⟩
abbrev s_25:Stmt:=zaM (top 27) 14
theorem sc_25:zah ["self"] ["self"] (zab s_25):=⟨rfl,rfl,rfl,by decide +kernel,rfl,by decide +kernel,by decide +kernel⟩
abbrev s_19:Stmt:=zaM (top 27) 8
theorem sc_19:zah ["self"] ["self"] (zab s_19):=⟨rfl,rfl,rfl,by decide +kernel,rfl,by decide +kernel,by decide +kernel⟩
abbrev s_40:Stmt:=top 35
theorem sc_40:zah ["_law_found","_law_many","_law_one"] ["_law_found","_law_many"] (zab s_40):=⟨rfl,rfl,rfl,by decide +kernel,rfl,by decide +kernel,by decide +kernel⟩
abbrev s_30:Stmt:=zaM (top 27) 19
theorem sc_30:zah ["self","paper","entered"] ["self","paper"] (zab s_30):=⟨rfl,rfl,rfl,by decide +kernel,rfl,by decide +kernel,by decide +kernel⟩
abbrev s_4:Stmt:=top 18
theorem sc_4:zah ["one","other","divisor","rest","next_rest"] ["one","other"] (zab s_4):=⟨rfl,rfl,rfl,by decide +kernel,rfl,by decide +kernel,by decide +kernel⟩
abbrev s_3:Stmt:=top 17
theorem sc_3:zah ["top","bottom","divisor"] ["top","bottom"] (zab s_3):=⟨rfl,rfl,rfl,by decide +kernel,rfl,by decide +kernel,by decide +kernel⟩
abbrev s_7:Stmt:=top 21
theorem sc_7:zah ["points"] ["points"] (zab s_7):=⟨rfl,rfl,rfl,by decide +kernel,rfl,by decide +kernel,by decide +kernel⟩
abbrev s_5:Stmt:=top 19
theorem sc_5:zah ["one","other","step"] ["one","other","step"] (zab s_5):=⟨rfl,rfl,rfl,by decide +kernel,rfl,by decide +kernel,by decide +kernel⟩
abbrev s_6:Stmt:=top 20
theorem sc_6:zah ["points","step"] ["points","step"] (zab s_6):=⟨rfl,rfl,rfl,by decide +kernel,rfl,by decide +kernel,by decide +kernel⟩
abbrev s_31:Stmt:=zaM (top 27) 20
theorem sc_31:zah ["self","paper","points","readings"] ["self","paper"] (zab s_31):=⟨rfl,rfl,rfl,by decide +kernel,rfl,by decide +kernel,by decide +kernel⟩
abbrev s_24:Stmt:=zaM (top 27) 13
theorem sc_24:zah ["self"] ["self"] (zab s_24):=⟨rfl,rfl,rfl,by decide +kernel,rfl,by decide +kernel,by decide +kernel⟩
abbrev s_36:Stmt:=top 31
theorem sc_36:zah ["_law_found","_law_due"] ["_law_found","_law_due"] (zab s_36):=⟨rfl,rfl,rfl,by decide +kernel,rfl,by decide +kernel,by decide +kernel⟩
abbrev s_20:Stmt:=zaM (top 27) 9
theorem sc_20:zah ["self"] ["self"] (zab s_20):=⟨rfl,rfl,rfl,by decide +kernel,rfl,by decide +kernel,by decide +kernel⟩
abbrev s_21:Stmt:=zaM (top 27) 10
theorem sc_21:zah ["self"] ["self"] (zab s_21):=⟨rfl,rfl,rfl,by decide +kernel,rfl,by decide +kernel,by decide +kernel⟩
abbrev s_39:Stmt:=top 34
theorem sc_39:zah ["_law_exam","_law_homes","_law_staff","_law_step"] ["_law_exam","_law_homes","_law_staff","_law_step"] (zab s_39):=⟨rfl,rfl,rfl,by decide +kernel,rfl,by decide +kernel,by decide +kernel⟩
abbrev s_42:Stmt:=top 37
theorem sc_42:zah ["_law_script","_law_most","_law_number","_law_exam","_law_homes","_law_staff","_law_step"] ["_law_script"] (zab s_42):=⟨rfl,rfl,rfl,by decide +kernel,rfl,by decide +kernel,by decide +kernel⟩
set_option genInjectivity false in
set_option genSizeOf false in
structure Adr where
 f_35:Addr
 d_35:FuncData
 f_37:Addr
 d_37:FuncData
 f_34:Addr
 d_34:FuncData
 f_11:Addr
 d_11:FuncData
 f_26:Addr
 d_26:FuncData
 f_8:Addr
 d_8:FuncData
 f_10:Addr
 d_10:FuncData
 f_12:Addr
 d_12:FuncData
 f_9:Addr
 d_9:FuncData
 f_13:Addr
 d_13:FuncData
 f_14:Addr
 d_14:FuncData
 f_41:Addr
 d_41:FuncData
 f_38:Addr
 d_38:FuncData
 f_18:Addr
 d_18:FuncData
 f_17:Addr
 d_17:FuncData
 f_29:Addr
 d_29:FuncData
 f_23:Addr
 d_23:FuncData
 f_2:Addr
 d_2:FuncData
 f_1:Addr
 d_1:FuncData
 f_25:Addr
 d_25:FuncData
 f_19:Addr
 d_19:FuncData
 f_40:Addr
 d_40:FuncData
 f_30:Addr
 d_30:FuncData
 f_4:Addr
 d_4:FuncData
 f_3:Addr
 d_3:FuncData
 f_7:Addr
 d_7:FuncData
 f_5:Addr
 d_5:FuncData
 f_6:Addr
 d_6:FuncData
 f_31:Addr
 d_31:FuncData
 f_24:Addr
 d_24:FuncData
 f_36:Addr
 d_36:FuncData
 f_20:Addr
 d_20:FuncData
 f_21:Addr
 d_21:FuncData
 f_39:Addr
 d_39:FuncData
 f_42:Addr
 d_42:FuncData
 C_Exam:Addr
 k_MOST_HOUSES:Value
 k_MOST_PAPERS:Value
 k_MOST_LIMIT:Value
 k_MOST_READERS:Value
 k_MOST_STEP:Value
 k_MOST_POINTS:Value
 xa:XAd
set_option genInjectivity false in
set_option genSizeOf false in
structure Txt (K:PySem.W.Frag) (mg:Str→Option Value) (t:Adr):Prop where
 F_35:Fun K "_law_whole" "_law_whole" s_35 t.f_35 t.d_35
 b_35:Binds K t.d_35 ["_law_found"] []
 m_35:mg "_law_whole" = some (.ref t.f_35)
 F_37:Fun K "_law_row" "_law_row" s_37 t.f_37 t.d_37
 b_37:Binds K t.d_37 ["_law_found","_law_due"] []
 m_37:mg "_law_row" = some (.ref t.f_37)
 F_34:Fun K "_law_at" "_law_at" s_34 t.f_34 t.d_34
 b_34:Binds K t.d_34 ["_law_script","_law_k"] []
 m_34:mg "_law_at" = some (.ref t.f_34)
 F_11:Fun K "__init__" "Exam.__init__" s_11 t.f_11 t.d_11
 b_11:Binds K t.d_11 ["self"] []
 mk_Exam:Mk K t.C_Exam t.f_11
 F_26:Fun K "refuse_behind_dealing" "Exam.refuse_behind_dealing" s_26 t.f_26 t.d_26
 b_26:Binds K t.d_26 ["self"] []
 me_26:Meth K t.C_Exam "refuse_behind_dealing" t.f_26
 F_8:Fun K "refuse_unknown" "refuse_unknown" s_8 t.f_8 t.d_8
 b_8:Binds K t.d_8 ["number","least","most"] []
 m_8:mg "refuse_unknown" = some (.ref t.f_8)
 F_10:Fun K "refuse_full" "refuse_full" s_10 t.f_10 t.d_10
 b_10:Binds K t.d_10 ["many","most"] []
 m_10:mg "refuse_full" = some (.ref t.f_10)
 F_12:Fun K "bring_paper" "Exam.bring_paper" s_12 t.f_12 t.d_12
 b_12:Binds K t.d_12 ["self","house"] []
 me_12:Meth K t.C_Exam "bring_paper" t.f_12
 F_9:Fun K "refuse_out_of_bounds" "refuse_out_of_bounds" s_9 t.f_9 t.d_9
 b_9:Binds K t.d_9 ["number","most"] []
 m_9:mg "refuse_out_of_bounds" = some (.ref t.f_9)
 F_13:Fun K "bring_reader" "Exam.bring_reader" s_13 t.f_13 t.d_13
 b_13:Binds K t.d_13 ["self","house","limit"] []
 me_13:Meth K t.C_Exam "bring_reader" t.f_13
 F_14:Fun K "set_step" "Exam.set_step" s_14 t.f_14 t.d_14
 b_14:Binds K t.d_14 ["self","step"] []
 me_14:Meth K t.C_Exam "set_step" t.f_14
 F_41:Fun K "_law_takes" "_law_takes" s_41 t.f_41 t.d_41
 b_41:Binds K t.d_41 ["_law_exam","_law_todo","_law_fine","_law_due","_law_why"] []
 m_41:mg "_law_takes" = some (.ref t.f_41)
 F_38:Fun K "_law_rows" "_law_rows" s_38 t.f_38 t.d_38
 b_38:Binds K t.d_38 ["_law_found","_law_due"] []
 m_38:mg "_law_rows" = some (.ref t.f_38)
 F_18:Fun K "readers" "Exam.readers" s_18 t.f_18 t.d_18
 b_18:Binds K t.d_18 ["self"] []
 me_18:Meth K t.C_Exam "readers" t.f_18
 F_17:Fun K "papers" "Exam.papers" s_17 t.f_17 t.d_17
 b_17:Binds K t.d_17 ["self"] []
 me_17:Meth K t.C_Exam "papers" t.f_17
 F_29:Fun K "due_readers" "Exam.due_readers" s_29 t.f_29 t.d_29
 b_29:Binds K t.d_29 ["self","paper"] []
 me_29:Meth K t.C_Exam "due_readers" t.f_29
 F_23:Fun K "due" "Exam.due" s_23 t.f_23 t.d_23
 b_23:Binds K t.d_23 ["self"] []
 me_23:Meth K t.C_Exam "due" t.f_23
 F_2:Fun K "times_in" "times_in" s_2 t.f_2 t.d_2
 b_2:Binds K t.d_2 ["rows","reader"] []
 m_2:mg "times_in" = some (.ref t.f_2)
 F_1:Fun K "left_after" "left_after" s_1 t.f_1 t.d_1
 b_1:Binds K t.d_1 ["readers","rows"] []
 m_1:mg "left_after" = some (.ref t.f_1)
 F_25:Fun K "left" "Exam.left" s_25 t.f_25 t.d_25
 b_25:Binds K t.d_25 ["self"] []
 me_25:Meth K t.C_Exam "left" t.f_25
 F_19:Fun K "step" "Exam.step" s_19 t.f_19 t.d_19
 b_19:Binds K t.d_19 ["self"] []
 me_19:Meth K t.C_Exam "step" t.f_19
 F_40:Fun K "_law_none" "_law_none" s_40 t.f_40 t.d_40
 b_40:Binds K t.d_40 ["_law_found","_law_many"] []
 m_40:mg "_law_none" = some (.ref t.f_40)
 F_30:Fun K "points_for" "Exam.points_for" s_30 t.f_30 t.d_30
 b_30:Binds K t.d_30 ["self","paper"] []
 me_30:Meth K t.C_Exam "points_for" t.f_30
 F_4:Fun K "greatest_divisor" "greatest_divisor" s_4 t.f_4 t.d_4
 b_4:Binds K t.d_4 ["one","other"] []
 m_4:mg "greatest_divisor" = some (.ref t.f_4)
 F_3:Fun K "lowest" "lowest" s_3 t.f_3 t.d_3
 b_3:Binds K t.d_3 ["top","bottom"] []
 m_3:mg "lowest" = some (.ref t.f_3)
 F_7:Fun K "middle_of" "middle_of" s_7 t.f_7 t.d_7
 b_7:Binds K t.d_7 ["points"] []
 m_7:mg "middle_of" = some (.ref t.f_7)
 F_5:Fun K "agree" "agree" s_5 t.f_5 t.d_5
 b_5:Binds K t.d_5 ["one","other","step"] []
 m_5:mg "agree" = some (.ref t.f_5)
 F_6:Fun K "mark_of" "mark_of" s_6 t.f_6 t.d_6
 b_6:Binds K t.d_6 ["points","step"] []
 m_6:mg "mark_of" = some (.ref t.f_6)
 F_31:Fun K "mark_for" "Exam.mark_for" s_31 t.f_31 t.d_31
 b_31:Binds K t.d_31 ["self","paper"] []
 me_31:Meth K t.C_Exam "mark_for" t.f_31
 F_24:Fun K "marks" "Exam.marks" s_24 t.f_24 t.d_24
 b_24:Binds K t.d_24 ["self"] []
 me_24:Meth K t.C_Exam "marks" t.f_24
 F_36:Fun K "_law_truth" "_law_truth" s_36 t.f_36 t.d_36
 b_36:Binds K t.d_36 ["_law_found","_law_due"] []
 m_36:mg "_law_truth" = some (.ref t.f_36)
 F_20:Fun K "dealt" "Exam.dealt" s_20 t.f_20 t.d_20
 b_20:Binds K t.d_20 ["self"] []
 me_20:Meth K t.C_Exam "dealt" t.f_20
 F_21:Fun K "dealing" "Exam.dealing" s_21 t.f_21 t.d_21
 b_21:Binds K t.d_21 ["self"] []
 me_21:Meth K t.C_Exam "dealing" t.f_21
 F_39:Fun K "_law_open" "_law_open" s_39 t.f_39 t.d_39
 b_39:Binds K t.d_39 ["_law_exam","_law_homes","_law_staff","_law_step"] []
 m_39:mg "_law_open" = some (.ref t.f_39)
 F_42:Fun K "law" "law" s_42 t.f_42 t.d_42
 b_42:Binds K t.d_42 ["_law_script"] []
 m_42:mg "law" = some (.ref t.f_42)
 cl_Exam:Cls K t.C_Exam
 mg_Exam:mg "Exam" = some (.ref t.C_Exam)
 n_Exam_paper_houses:za8 K t.C_Exam "paper_houses"
 n_Exam_reader_rows:za8 K t.C_Exam "reader_rows"
 n_Exam_widest_step:za8 K t.C_Exam "widest_step"
 n_Exam_is_dealt:za8 K t.C_Exam "is_dealt"
 n_Exam_named_readers:za8 K t.C_Exam "named_readers"
 n_Exam_entered_points:za8 K t.C_Exam "entered_points"
 v_MOST_HOUSES:mg "MOST_HOUSES" = some t.k_MOST_HOUSES
 w_MOST_HOUSES:RelV (.int 6) t.k_MOST_HOUSES
 v_MOST_PAPERS:mg "MOST_PAPERS" = some t.k_MOST_PAPERS
 w_MOST_PAPERS:RelV (.int 10) t.k_MOST_PAPERS
 v_MOST_LIMIT:mg "MOST_LIMIT" = some t.k_MOST_LIMIT
 w_MOST_LIMIT:RelV (.int 30) t.k_MOST_LIMIT
 v_MOST_READERS:mg "MOST_READERS" = some t.k_MOST_READERS
 w_MOST_READERS:RelV (.int 8) t.k_MOST_READERS
 v_MOST_STEP:mg "MOST_STEP" = some t.k_MOST_STEP
 w_MOST_STEP:RelV (.int 100) t.k_MOST_STEP
 v_MOST_POINTS:mg "MOST_POINTS" = some t.k_MOST_POINTS
 w_MOST_POINTS:RelV (.int 100) t.k_MOST_POINTS
 mx_OutOfTime:mg "OutOfTime" = some (.ref t.xa.OutOfTime)
 mx_UnknownNumber:mg "UnknownNumber" = some (.ref t.xa.UnknownNumber)
 mx_OutOfBounds:mg "OutOfBounds" = some (.ref t.xa.OutOfBounds)
 mx_Full:mg "Full" = some (.ref t.xa.Full)
 mx_ReadError:mg "ReadError" = some (.ref t.xa.ReadError)
 xc_OutOfTime:ExcC K t.xa.OutOfTime
 xc_UnknownNumber:ExcC K t.xa.UnknownNumber
 xc_OutOfBounds:ExcC K t.xa.OutOfBounds
 xc_Full:ExcC K t.xa.Full
 x_OutOfTime_UnknownNumber:PySem.W.exmOne K (.ref t.xa.OutOfTime) (.ref t.xa.UnknownNumber)=some false
 x_OutOfTime_OutOfBounds:PySem.W.exmOne K (.ref t.xa.OutOfTime) (.ref t.xa.OutOfBounds)=some false
 x_UnknownNumber_UnknownNumber:PySem.W.exmOne K (.ref t.xa.UnknownNumber) (.ref t.xa.UnknownNumber)=some true
 x_UnknownNumber_OutOfBounds:PySem.W.exmOne K (.ref t.xa.UnknownNumber) (.ref t.xa.OutOfBounds)=some false
 x_OutOfBounds_UnknownNumber:PySem.W.exmOne K (.ref t.xa.OutOfBounds) (.ref t.xa.UnknownNumber)=some false
 x_OutOfBounds_OutOfBounds:PySem.W.exmOne K (.ref t.xa.OutOfBounds) (.ref t.xa.OutOfBounds)=some true
 x_Full_UnknownNumber:PySem.W.exmOne K (.ref t.xa.Full) (.ref t.xa.UnknownNumber)=some false
 x_Full_OutOfBounds:PySem.W.exmOne K (.ref t.xa.Full) (.ref t.xa.OutOfBounds)=some false
 z_abs:mg "abs" = none
 z_bool:mg "bool" = none
 z_enumerate:mg "enumerate" = none
 z_int:mg "int" = none
 z_isinstance:mg "isinstance" = none
 z_len:mg "len" = none
 z_list:mg "list" = none
 z_min:mg "min" = none
 z_range:mg "range" = none
 z_sorted:mg "sorted" = none
 z_sum:mg "sum" = none
 z_zip:mg "zip" = none
end Prf
namespace Prf
open PySem PySem.Spec PyProof.Rows L2
section
variable {P:Program} {w:World} {K:PySem.W.Frag} {mg:Str→Option Value} {base:Heap} {t:Adr}
def zcm (K:PySem.W.Frag):Sp:=fun vs H Q _=>vs.length=1∧∃ x:V,vs=[x]∧((∃ i:Int,x=.int i∧Q (.bl true) H))
theorem zbI (T:Txt K mg t):FnOk P w K mg base CX0 1 t.f_35 t.d_35 ["_law_found"] (zcm K):=by
 refine T.F_35.ok sc_35 (fun _ _ _ _ h=>h.1) fun cdv A outer s H vs Q E hr h=>by
  refine ⟨_,(zad (zak (zbE (zai (zaD (K:=K) rfl) (by rfl) T.z_isinstance (by rfl) (zaa (pv 0) (zaa (zce (v:=.ty "int") (u:=.type "int") (by rfl) T.z_int (by rfl) rfl) pa_nil))) (zb0 (zgD (zai (zaD (K:=K) rfl) (by rfl) T.z_isinstance (by rfl) (zaa (pv 0) (zaa (zce (v:=.ty "bool") (u:=.type "bool") (by rfl) T.z_bool (by rfl) rfl) pa_nil)))))))),?_⟩;obtain ⟨_,x,rfl,i,rfl,q⟩:=h;symm;refine iteT ?_;symm;exact q
theorem zcF {H:Hp} {i:Int} {Q:VK} {E:XK} (q:Q (.bl true) H):zcm K [.int i] H Q E:=⟨rfl,_,rfl,i,rfl,q⟩
local macro_rules | `(tactic| walk_at "rd1")=>`(tactic| (with_reducible refine zcF ?_))
def zc5 (K:PySem.W.Frag):Sp:=fun vs H Q _=>vs.length=2∧∃ (a b:Addr) (xs ys:List Int),vs=[.ref a,.ref b]∧H a=some (.lst (xs.map V.int))∧SqL K H b (ys.map V.int)∧ys.length≤1000000∧Q (.bl (decide (xs=ys))) H
theorem zch (T:Txt K mg t):FnOk P w K mg base CX0 2 t.f_37 t.d_37 ["_law_found","_law_due"] (zc5 K):=by
 have G_35:=zbI (P:=P) (w:=w) (base:=base) T;refine T.F_37.ok sc_37 (fun _ _ _ _ h=>h.1) fun cdv A outer s H vs Q E hr h=>by
  refine ⟨_,(zac (zaQ (zc9 (zaZ (zap (K:=K) rfl (zai (zaD (K:=K) rfl) (by rfl) T.z_isinstance (by rfl) (zaa (pv 0) (zaa (zce (v:=.ty "list") (u:=.type "list") (by rfl) T.z_list (by rfl) rfl) pa_nil))) (fun _=>rfl))) (zbZ (zav (zex (K:=K) rfl hr.units0) (zai (zan (K:=K) rfl) (by rfl) T.z_len (by rfl) (zaa (pv 0) pa_nil)) (zai (zan (K:=K) rfl) (by rfl) T.z_len (by rfl) (zaa (pv 1) pa_nil)) (zaq _)))).pt
   (zad (zak zbt)) pss_nil)
   (zac (zem PassesOwn.never rfl (zds (by rfl) T.z_range (zaa (zai (zan (K:=K) rfl) (by rfl) T.z_len (by rfl) (zaa (pv 1) pa_nil)) pa_nil)) (zaK (i:=2) sc_37.nd rfl (Or.inl rfl))
   (zad (zaQ (zc9 (zaZ (zap (K:=K) rfl (zam G_35 (hr.mono (by decide)) (by rfl) T.m_35 T.F_35.kp T.b_35 .nil zaE (zaa (zbd (zar (K:=K) rfl) (pv 0) (pv 2) (fun _ _=>rfl)) pa_nil)) (fun _=>rfl))) (zbZ (zav (zex (K:=K) rfl hr.units0) (zbd (zar (K:=K) rfl) (pv 0) (pv 2) (fun _ _=>rfl)) (zbd (zar (K:=K) rfl) (pv 1) (pv 2) (fun _ _=>rfl)) (zaq _)))).pt
   (zad (zak zbt)) pss_nil)))
   (zad (zak zbt)))),?_⟩
  obtain ⟨_,a,b,xs,ys,rfl,ha,hb,hy,q⟩:=h;symm;refine iteF ?_;symm;refine zeq (fun h0=>?_) (fun h0=>?_)
  ·rw [decide_eq_false (by rintro rfl;exact h0 rfl)] at q;symm;exact q
  ·have hlen:xs.length=ys.length:=by omega
   symm;refine zgI (by omega) (by omega) ?_;refine zfx (fun i σ H1=>∃ v,σ=[some (.ref a),some (.ref b),v]∧H1=H∧∀ j,j < i→xs.getD j 0=ys.getD j 0) ⟨none,rfl,rfl,fun j hj=>absurd hj (by omega)⟩ ?_ ?_
   ·rintro i σ H1 hi ⟨v,rfl,rfl,hall⟩;symm;refine iteF ?_;symm;refine zeq (fun h1=>?_) (fun h1=>?_)
    ·rw [decide_eq_false (by rintro rfl;exact h1 rfl)] at q;symm;exact q
    ·symm;refine ⟨_,rfl,rfl,fun j hj=>?_⟩
     by_cases e:j=i
     ·subst e;have e2:(0+(j:Int)).toNat=j:=by omega
      rw [e2] at h1;exact h1
     ·exact hall j (by omega)
   ·rintro σ H1 ⟨v,rfl,rfl,hall⟩;rw [decide_eq_true (zgm hlen fun j hj=>hall j (by omega))] at q;symm;exact q
theorem zb7 {H:Hp} {a b:Addr} {xs ys:List Int} {Q:VK} {E:XK} (h:H a=some (.lst (xs.map V.int))) (h':SqL K H b (ys.map V.int)) (hl:ys.length≤1000000) (q:Q (.bl (decide (xs=ys))) H):zc5 K [.ref a,.ref b] H Q E:=⟨rfl,a,b,xs,ys,rfl,h,h',hl,q⟩
def zdM (K:PySem.W.Frag):Sp:=fun vs H Q _=>vs.length=2∧∃ (a:Addr) (ns:List Int) (k:Int),vs=[.ref a,.int k]∧SqL K H a (ns.map V.int)∧ns.length≤63∧Q (.int (zfB ns k)) H
theorem zfZ (T:Txt K mg t):FnOk P w K mg base CX0 1 t.f_34 t.d_34 ["_law_script","_law_k"] (zdM K):=by
 refine T.F_34.ok sc_34 (fun _ _ _ _ h=>h.1) fun cdv A outer s H vs Q E hr h=>by
  refine ⟨_,(zac (zaQ (zav (zb6 (K:=K) rfl hr.units0) (zai (zan (K:=K) rfl) (by rfl) T.z_len (by rfl) (zaa (pv 0) pa_nil)) zae (zaq _))
   (zad (zak zae)) pss_nil)
   (zad (zak (zbq (op_addG) (zbd (zar (K:=K) rfl) (pv 0) (zbq (op_mod) (pv 1) (zai (zan (K:=K) rfl) (by rfl) T.z_len (by rfl) (zaa (pv 0) pa_nil))) (fun _ _=>rfl)) (zbq (op_fdivB) (pv 1) (zai (zan (K:=K) rfl) (by rfl) T.z_len (by rfl) (zaa (pv 0) pa_nil))))))),?_⟩
  obtain ⟨_,a,ns,k,rfl,hS,hl,q⟩:=h;symm;unfold zfB at q;refine zcB (fun h0=>?_) (fun h0=>?_)
  ·rw [if_pos h0] at q;symm;exact q
  ·rw [if_neg h0] at q;have h3:(0:Int) < ns.length:=by omega
   symm;refine zh2 hS (zer (Int.emod_nonneg _ h0) (Int.emod_lt_of_pos _ h3)) ?_;symm;exact q
theorem zey {H:Hp} {a:Addr} {ns:List Int} {k:Int} {Q:VK} {E:XK} (h:SqL K H a (ns.map V.int)) (hl:ns.length≤63) (q:Q (.int (zfB ns k)) H):zdM K [.ref a,.int k] H Q E:=⟨rfl,a,ns,k,rfl,h,hl,q⟩
local macro_rules | `(tactic| walk_at "rd1")=>`(tactic| ((with_reducible refine' zey ?h1 ?h2 ?_);(case h1=>walk_at "hp");(case h2=>omega)))
def zbB (K:PySem.W.Frag) (C:Addr):Sp:=fun vs H Q _=>vs.length=1∧∃ (x dx:Addr),vs=[.ref x]∧H x=some (.ins C dx [])∧∀ H' F,(∀ b o,H b=some o→b≠x→b≠dx→H' b=some o)→(∀ b,F b→b=x∨b=dx∨H b=none)→ExAt C H' x F ⟨[],[],0,none⟩→Q .non H'
theorem zcq (T:Txt K mg t):FnOk P w K mg base CX0 1 t.f_11 t.d_11 ["self"] (zbB K t.C_Exam):=by
 refine T.F_11.ok sc_11 (fun _ _ _ _ h=>h.1) fun cdv A outer s H vs Q E hr h=>by
  refine ⟨_,(zac (zbT (K:=K) rfl (pv 0) (zaL pa_nil))
   (zac (zbT (K:=K) rfl (pv 0) (zaL pa_nil))
   (zac (zbT (K:=K) rfl (pv 0) zae)
   (zac (zbT (K:=K) rfl (pv 0) zbt)
   (zac (zbT (K:=K) rfl (pv 0) (zaL pa_nil))
   (zad (zbT (K:=K) rfl (pv 0) (zaL pa_nil)))))))),?_⟩
  obtain ⟨_,x,dx,rfl,hx,q⟩:=h;have hcl:=T.cl_Exam;have nA:=T.n_Exam_paper_houses;have nB:=T.n_Exam_reader_rows;have nS:=T.n_Exam_widest_step;have nD:=T.n_Exam_is_dealt;have nC:=T.n_Exam_named_readers;have nE:=T.n_Exam_entered_points;symm;refine zat (by decide) fun a H1 f1 s1 e1=>?_;have x1:=s1 _ _ hx;symm;refine zbf x1 hcl nA (Nat.lt_of_lt_of_le (show 0 < 1 by decide) (by decide)) fun H2 b2 x2=>?_;have xa:=zaf hx f1;symm;refine zat (by decide) fun b H3 f3 s3 e3=>?_;have x3:=s3 _ _ x2;symm;have e2:H2 a=some (.lst []):=by rw [b2 _ xa.symm];exact e1
  have ab:=zaf e2 f3;have xb:=zaf x2 f3;refine zbf x3 hcl nB (Nat.lt_of_lt_of_le (za9 (show 0 < 1 by decide)) (by decide)) fun H4 b4 x4=>?_;symm;refine zbf x4 hcl nS (Nat.lt_of_lt_of_le (za9 (za9 (show 0 < 1 by decide))) (by decide)) fun H5 b5 x5=>?_;symm;refine zbf x5 hcl nD (Nat.lt_of_lt_of_le (za9 (za9 (za9 (show 0 < 1 by decide)))) (by decide)) fun H6 b6 x6=>?_;symm;refine zat (by decide) fun c H7 f7 s7 e7=>?_;have x7:=s7 _ _ x6;have a6:H6 a=some (.lst []):=by rw [b6 _ xa.symm,b5 _ xa.symm,b4 _ xa.symm];exact s3 _ _ e2
  have b6':H6 b=some (.lst []):=by rw [b6 _ xb.symm,b5 _ xb.symm,b4 _ xb.symm];exact e3
  have ac:=zaf a6 f7;have bc:=zaf b6' f7;have xc:=zaf x6 f7;symm;refine zbf x7 hcl nC (Nat.lt_of_lt_of_le (za9 (za9 (za9 (za9 (show 0 < 1 by decide))))) (by decide)) fun H8 b8 x8=>?_;have a8:H8 a=some (.lst []):=by rw [b8 _ xa.symm];exact s7 _ _ a6
  have b8':H8 b=some (.lst []):=by rw [b8 _ xb.symm];exact s7 _ _ b6'
  have c8:H8 c=some (.lst []):=by rw [b8 _ xc.symm];exact e7
  symm;refine zat (by decide) fun d H9 f9 s9 e9=>?_;have x9:=s9 _ _ x8;have ad:=zaf a8 f9;have bd:=zaf b8' f9;have cd:=zaf c8 f9;have xd:=zaf x8 f9;symm;refine zbf x9 hcl nE (Nat.lt_of_lt_of_le (za9 (za9 (za9 (za9 (za9 (show 0 < 1 by decide)))))) (by decide)) fun H10 b10 x10=>?_;symm;rw [exFs_mk] at x10;have kp:∀ b o,H b=some o→b≠x→H10 b=some o:=fun z o h n=>by
   rw [b10 _ n];refine s9 _ _ ?_;rw [b8 _ n];refine s7 _ _ ?_;rw [b6 _ n,b5 _ n,b4 _ n];refine s3 _ _ ?_;rw [b2 _ n];exact s1 _ _ h
  have nn:∀ b,H2 b=none→H b=none:=fun z h=>by
   cases hz:H z with
   | none=>rfl
   | some o =>
     by_cases n:z=x
     ·rw [n,x2] at h;cases h
     ·rw [b2 _ n,s1 _ _ hz] at h;cases h
  have nn6:∀ b,H6 b=none→H b=none:=fun z h=>nn z (by
   cases hz:H2 z with
   | none=>rfl
   | some o =>
     by_cases n:z=x
     ·rw [n,x6] at h;cases h
     ·rw [b6 _ n,b5 _ n,b4 _ n,s3 _ _ hz] at h;cases h)
  have nn8:∀ b,H8 b=none→H b=none:=fun z h=>nn6 z (by
   cases hz:H6 z with
   | none=>rfl
   | some o =>
     by_cases n:z=x
     ·rw [n,x8] at h;cases h
     ·rw [b8 _ n,s7 _ _ hz] at h;cases h)
  have J:ExIn t.C_Exam H10 ⟨x,dx,a,b,c,d,[],[],[]⟩ ⟨[],[],0,none⟩ []:=by
   refine ⟨x10,by show H10 a=_;rw [b10 _ xa.symm];exact s9 _ _ a8,by show H10 b=_;rw [b10 _ xb.symm];exact s9 _ _ b8',by show H10 c=_;rw [b10 _ xc.symm];exact s9 _ _ c8,by show H10 d=_;rw [b10 _ xd.symm];exact e9,rfl,rfl,rfl,fun i hi=>absurd hi (by simp),fun i hi=>absurd hi (by simp [ExS.nm]),fun i hi=>absurd hi (by simp [ExS.nm]),fun i hi=>absurd hi (by simp [ExS.nm]),fun i hi=>absurd hi (by simp [ExS.nm]),rfl,?_,⟨fun z=>(by cases z),fun k hk=>absurd hk (by simp [ExS.nm]),fun k r p z=>(by cases z),by decide⟩⟩;unfold ExAd.own;simp only [List.nodup_cons,List.mem_cons,List.append_nil,List.not_mem_nil,not_or,not_false_iff,List.nodup_nil,and_true];exact ⟨⟨xa,xb,xc,xd⟩,⟨ab,ac,ad⟩,⟨bc,bd⟩,cd⟩
  refine q H10 _ (fun z o h n _=>kp z o h n) (fun z h=>?_) J.at;unfold ExAd.own at h;simp only [List.mem_cons,List.append_nil,List.not_mem_nil,or_false] at h;rcases h with h | h | h | h | h
  ·exact .inl h
  ·exact .inr (.inr (h▸f1))
  ·exact .inr (.inr (h▸nn _ f3))
  ·exact .inr (.inr (h▸nn6 _ f7))
  ·exact .inr (.inr (h▸nn8 _ f9))
theorem zd8 {K:PySem.W.Frag} {C x dx:Addr} {H:Hp} {Q:VK} {E:XK} (h:H x=some (.ins C dx [])) (q:∀ H' F,(∀ b o,H b=some o→b≠x→b≠dx→H' b=some o)→(∀ b,F b→b=x∨b=dx∨H b=none)→ExAt C H' x F ⟨[],[],0,none⟩→Q .non H'):zbB K C [.ref x] H Q E:=⟨rfl,x,dx,rfl,h,q⟩
def zaI (K:PySem.W.Frag) (C:Addr) (xa:XAd):Sp:=fun vs H Q E=>vs.length=1∧∃ (x:Addr) (F:Addr→Prop) (st:ExS),vs=[.ref x]∧ExAt C H x F st∧(st.dl=none→Q .non H)∧(st.dl.isSome=true→E (.ref xa.OutOfTime) none H)
theorem zaz (T:Txt K mg t):FnOk P w K mg base (CX1 P w) 1 t.f_26 t.d_26 ["self"] (zaI K t.C_Exam t.xa):=by
 refine T.F_26.okX sc_26 (fun _ _ _ _ h=>h.1) fun cdv A outer s H vs Q E hr h=>by
  refine ⟨_,(zad (zaQ (zap (K:=K) rfl (zay (K:=K) rfl (pv 0)) (fun _=>rfl))
   (zad (zcv (by rfl) T.mx_OutOfTime T.xc_OutOfTime)) pss_nil)),?_⟩
  obtain ⟨_,x,F,st,rfl,E0,q1,q2⟩:=h;walk_at "hd";symm;refine ziO (fun hd=>?_) (fun hd=>?_)
  ·symm;exact q2 hd
  ·symm;exact q1 (zhA (by rw [hd];decide))
theorem zaN {K:PySem.W.Frag} {xa:XAd} {C x:Addr} {H:Hp} {F:Addr→Prop} {st:ExS} {Q:VK} {E:XK} {σ:L2.St} (h:ExAt C H x F st) (q1:st.dl=none→Q .non H) (q2:st.dl.isSome=true→E (.ref xa.OutOfTime) none H):zaH C "refuse_behind_dealing" (zaI K C xa) E tNil σ (.ref x) H Q:=by
 obtain ⟨dx,fs,e,l⟩:=h.ob;exact zaB e (l _ (by decide +kernel)) (zb2 ⟨rfl,x,F,st,rfl,h,q1,q2⟩)
local macro_rules | `(tactic| walk_at "rd1")=>`(tactic| (with_reducible refine zfV ?_))
local macro_rules | `(tactic| walk_at "rd1")=>`(tactic| (with_reducible refine zfU ?_))
local macro_rules | `(tactic| walk_at "rd1")=>`(tactic| (with_reducible refine r_callX ?_))
local macro_rules | `(tactic| walk_at "rd1")=>`(tactic| (with_reducible refine zgP ?_))
def zbr (K:PySem.W.Frag) (xa:XAd):Sp:=fun vs H Q E=>vs.length=3∧∃ n l m:Int,vs=[.int n,.int l,.int m]∧(l≤n→n≤m→Q .non H)∧(¬(l≤n∧n≤m)→E (.ref xa.UnknownNumber) none H)
theorem zbs (T:Txt K mg t):FnOk P w K mg base (CX1 P w) 1 t.f_8 t.d_8 ["number","least","most"] (zbr K t.xa):=by
 refine T.F_8.okX sc_8 (fun _ _ _ _ h=>h.1) fun cdv A outer s H vs Q E hr h=>by
  refine ⟨_,(zad (zaQ (zc9 (zav (op_lt) (pv 0) (pv 1) (zaq _)) (zbZ (zav (op_gt) (pv 0) (pv 2) (zaq _)))).pt
   (zad (zcv (by rfl) T.mx_UnknownNumber T.xc_UnknownNumber)) pss_nil)),?_⟩
  obtain ⟨_,n,l,m,rfl,q1,q2⟩:=h;symm;refine zcB (fun h0=>?_) (fun h0=>?_)
  ·refine iteT ?_;symm;exact q2 (by omega)
  ·symm;refine zcB (fun h1=>?_) (fun h1=>?_)
   ·symm;exact q2 (by omega)
   ·symm;exact q1 (by omega) (by omega)
theorem zbC {xa:XAd} {H:Hp} {n l m:Int} {Q:VK} {E:XK} (q1:l≤n→n≤m→Q .non H) (q2:¬(l≤n∧n≤m)→E (.ref xa.UnknownNumber) none H):zbr K xa [.int n,.int l,.int m] H Q E:=⟨rfl,n,l,m,rfl,q1,q2⟩
def zbP (K:PySem.W.Frag) (xa:XAd):Sp:=fun vs H Q E=>vs.length=2∧∃ n m:Int,vs=[.int n,.int m]∧(n < m→Q .non H)∧(¬n < m→E (.ref xa.Full) none H)
theorem zbQ (T:Txt K mg t):FnOk P w K mg base (CX1 P w) 1 t.f_10 t.d_10 ["many","most"] (zbP K t.xa):=by
 refine T.F_10.okX sc_10 (fun _ _ _ _ h=>h.1) fun cdv A outer s H vs Q E hr h=>by
  refine ⟨_,(zad (zaQ (zav (op_ge) (pv 0) (pv 1) (zaq _))
   (zad (zcv (by rfl) T.mx_Full T.xc_Full)) pss_nil)),?_⟩
  obtain ⟨_,n,m,rfl,q1,q2⟩:=h;symm;refine zcB (fun h0=>?_) (fun h0=>?_)
  ·symm;exact q2 (by omega)
  ·symm;exact q1 (by omega)
theorem zb8 {xa:XAd} {H:Hp} {n m:Int} {Q:VK} {E:XK} (q1:n < m→Q .non H) (q2:¬n < m→E (.ref xa.Full) none H):zbP K xa [.int n,.int m] H Q E:=⟨rfl,n,m,rfl,q1,q2⟩
def zbg (K:PySem.W.Frag) (C:Addr) (xa:XAd):Sp:=fun vs H Q E=>vs.length=2∧∃ (x:Addr) (F:Addr→Prop) (st:ExS) (h:Int),vs=[.ref x,.int h]∧ExAt C H x F st∧InB st.hs st.rs∧(∀ f,whyP st h=some f→E (.ref (xa.at f)) none H)∧(whyP st h=none→∀ H' F',ExFr H H' F F'→ExAt C H' x F' { st with hs:=st.hs++[h] }→Q (.int ((st.hs.length:Int)+1)) H')
theorem zbV (T:Txt K mg t):FnOk P w K mg base (CX1 P w) 2 t.f_12 t.d_12 ["self","house"] (zbg K t.C_Exam t.xa):=by
 have G_26:=zaz (P:=P) (w:=w) (base:=base) T;have G_8:=zbs (P:=P) (w:=w) (base:=base) T;have G_10:=zbQ (P:=P) (w:=w) (base:=base) T;refine T.F_12.okX sc_12 (fun _ _ _ _ h=>h.1) fun cdv A outer s H vs Q E hr h=>by
  refine ⟨_,(zac (zaP (zaO (pv 0) T.cl_Exam T.me_26 G_26 (hr.mono (by decide)) T.b_26 .nil passX))
   (zac (zaP (zam G_8 (hr.mono (by decide)) (by rfl) T.m_8 T.F_8.kp T.b_8 .nil passX (zaa (pv 1) (zaa zae (zaa (za6 (v:=.int 6) (by rfl) T.v_MOST_HOUSES T.w_MOST_HOUSES) pa_nil)))))
   (zac (zaP (zam G_10 (hr.mono (by decide)) (by rfl) T.m_10 T.F_10.kp T.b_10 .nil passX (zaa (zai (zan (K:=K) rfl) (by rfl) T.z_len (by rfl) (zaa (zay (K:=K) rfl (pv 0)) pa_nil)) (zaa (za6 (v:=.int 10) (by rfl) T.v_MOST_PAPERS T.w_MOST_PAPERS) pa_nil))))
   (zac (zaP (zc2 (K:=K) rfl PySem.F.plainAttrs_list PySem.F.slot_list_append PySem.F.type_list_append mt_append (zay (K:=K) rfl (pv 0)) (zaa (pv 1) pa_nil)))
   (zad (zak (zai (zan (K:=K) rfl) (by rfl) T.z_len (by rfl) (zaa (zay (K:=K) rfl (pv 0)) pa_nil)))))))),?_⟩
  obtain ⟨_,x,F,st,h,rfl,E0,BB,qe,q⟩:=h;have E0':=E0;walk_at "hd";symm;refine zaN E0' (fun hd=>?_) (fun hd=>qe .time (by unfold whyP;rw [if_pos hd]));symm;refine zbC (fun h1 h2=>?_) (fun hn=>qe .unknown (by unfold whyP;rw [hd,if_neg (by decide),if_neg hn]));symm;refine zb8 (fun h3=>?_) (fun hn=>qe .full (by unfold whyP;rw [hd,if_neg (by decide),if_pos ⟨h1,h2⟩,if_neg (by omega)]));have q:=q (zfW hd ⟨h1,h2,by omega⟩);symm;refine zbe hha (by rw [List.length_map];omega) fun H1 b1 e1=>?_;have I1:=I.paper hd b1 e1;have hob:=I1.ob;have e1':=I1.ha;symm;have el:((st.hs++[h]).length:Int)=(st.hs.length:Int)+1:=by rw [List.length_append,List.length_singleton];omega
  rw [el];exact q H1 F (ExFr.but b1 ((hF _).mpr own_a) fun b z=>.inl z) ⟨e,kvs,rfl,hF,I1⟩
theorem zb9 {K:PySem.W.Frag} {xa:XAd} {C x:Addr} {H:Hp} {F:Addr→Prop} {st:ExS} {h:Int} {Q:VK} {E:XK} (hE:ExAt C H x F st) (B:InB st.hs st.rs) (qe:∀ f,whyP st h=some f→E (.ref (xa.at f)) none H) (q:whyP st h=none→∀ H' F',ExFr H H' F F'→ExAt C H' x F' { st with hs:=st.hs++[h] }→Q (.int ((st.hs.length:Int)+1)) H'):zbg K C xa [.ref x,.int h] H Q E:=⟨rfl,x,F,st,h,rfl,hE,B,qe,q⟩
def zaW (K:PySem.W.Frag) (xa:XAd):Sp:=fun vs H Q E=>vs.length=2∧∃ n m:Int,vs=[.int n,.int m]∧(0≤n→n≤m→Q .non H)∧(¬(0≤n∧n≤m)→E (.ref xa.OutOfBounds) none H)
theorem zaX (T:Txt K mg t):FnOk P w K mg base (CX1 P w) 1 t.f_9 t.d_9 ["number","most"] (zaW K t.xa):=by
 refine T.F_9.okX sc_9 (fun _ _ _ _ h=>h.1) fun cdv A outer s H vs Q E hr h=>by
  refine ⟨_,(zad (zaQ (zc9 (zav (op_lt) (pv 0) zae (zaq _)) (zbZ (zav (op_gt) (pv 0) (pv 1) (zaq _)))).pt
   (zad (zcv (by rfl) T.mx_OutOfBounds T.xc_OutOfBounds)) pss_nil)),?_⟩
  obtain ⟨_,n,m,rfl,q1,q2⟩:=h;symm;refine zcB (fun h0=>?_) (fun h0=>?_)
  ·refine iteT ?_;symm;exact q2 (by omega)
  ·symm;refine zcB (fun h1=>?_) (fun h1=>?_)
   ·symm;exact q2 (by omega)
   ·symm;exact q1 (by omega) (by omega)
theorem za0 {xa:XAd} {H:Hp} {n m:Int} {Q:VK} {E:XK} (q1:0≤n→n≤m→Q .non H) (q2:¬(0≤n∧n≤m)→E (.ref xa.OutOfBounds) none H):zaW K xa [.int n,.int m] H Q E:=⟨rfl,n,m,rfl,q1,q2⟩
def zba (K:PySem.W.Frag) (C:Addr) (xa:XAd):Sp:=fun vs H Q E=>vs.length=3∧∃ (x:Addr) (F:Addr→Prop) (st:ExS) (h:Int) (l:Int),vs=[.ref x,.int h,.int l]∧ExAt C H x F st∧InB st.hs st.rs∧(∀ f,whyR st h l=some f→E (.ref (xa.at f)) none H)∧(whyR st h l=none→∀ H' F',ExFr H H' F F'→ExAt C H' x F' { st with rs:=st.rs++[[h,l]] }→Q (.int ((st.rs.length:Int)+1)) H')
theorem zbN (T:Txt K mg t):FnOk P w K mg base (CX1 P w) 2 t.f_13 t.d_13 ["self","house","limit"] (zba K t.C_Exam t.xa):=by
 have G_26:=zaz (P:=P) (w:=w) (base:=base) T;have G_8:=zbs (P:=P) (w:=w) (base:=base) T;have G_9:=zaX (P:=P) (w:=w) (base:=base) T;have G_10:=zbQ (P:=P) (w:=w) (base:=base) T;refine T.F_13.okX sc_13 (fun _ _ _ _ h=>h.1) fun cdv A outer s H vs Q E hr h=>by
  refine ⟨_,(zac (zaP (zaO (pv 0) T.cl_Exam T.me_26 G_26 (hr.mono (by decide)) T.b_26 .nil passX))
   (zac (zaP (zam G_8 (hr.mono (by decide)) (by rfl) T.m_8 T.F_8.kp T.b_8 .nil passX (zaa (pv 1) (zaa zae (zaa (za6 (v:=.int 6) (by rfl) T.v_MOST_HOUSES T.w_MOST_HOUSES) pa_nil)))))
   (zac (zaP (zam G_9 (hr.mono (by decide)) (by rfl) T.m_9 T.F_9.kp T.b_9 .nil passX (zaa (pv 2) (zaa (za6 (v:=.int 30) (by rfl) T.v_MOST_LIMIT T.w_MOST_LIMIT) pa_nil))))
   (zac (zaP (zam G_10 (hr.mono (by decide)) (by rfl) T.m_10 T.F_10.kp T.b_10 .nil passX (zaa (zai (zan (K:=K) rfl) (by rfl) T.z_len (by rfl) (zaa (zay (K:=K) rfl (pv 0)) pa_nil)) (zaa (za6 (v:=.int 8) (by rfl) T.v_MOST_READERS T.w_MOST_READERS) pa_nil))))
   (zac (zaP (zc2 (K:=K) rfl PySem.F.plainAttrs_list PySem.F.slot_list_append PySem.F.type_list_append mt_append (zay (K:=K) rfl (pv 0)) (zaa (zaL (zaa (pv 1) (zaa (pv 2) pa_nil))) pa_nil)))
   (zad (zak (zai (zan (K:=K) rfl) (by rfl) T.z_len (by rfl) (zaa (zay (K:=K) rfl (pv 0)) pa_nil))))))))),?_⟩
  obtain ⟨_,x,F,st,h,l,rfl,E0,BB,qe,q⟩:=h;have E0':=E0;walk_at "hd";have lp:=I.lp;symm;refine zaN E0' (fun hd=>?_) (fun hd=>qe .time (by unfold whyR;rw [if_pos hd]));symm;refine zbC (fun h1 h2=>?_) (fun hn=>qe .unknown (by unfold whyR;rw [hd,if_neg (by decide),if_neg hn]));symm;refine za0 (fun h3 h4=>?_) (fun hn=>qe .bounds (by unfold whyR;rw [hd,if_neg (by decide),if_pos ⟨h1,h2⟩,if_neg hn]));symm;refine zb8 (fun h5=>?_) (fun hn=>qe .full (by unfold whyR;rw [hd,if_neg (by decide),if_pos ⟨h1,h2⟩,if_pos ⟨h3,h4⟩,if_neg (by omega)]));have q:=q (zfX hd ⟨h1,h2,h3,h4,by omega⟩);symm;refine zat (by simp) fun r H1 f1 s1 e1=>?_;symm;refine zbe (s1 _ _ hhb) (by rw [List.length_map];omega) fun H2 b2 e2=>?_;have I1:ExIn t.C_Exam H1 e st kvs:=I.keep fun b o _ z=>s1 b o z;have I2:=I1.reader (row:=[h,l]) (I.new f1) e1 b2 e2;have hob:=I2.ob;have e1':=I2.hb;symm;have el:((e.ps++[r]).length:Int)=(st.rs.length:Int)+1:=by rw [List.length_append,List.length_singleton];omega
  rw [el];refine q H2 _ ⟨fun b o eb nb=>?_,fun b z=>?_⟩ I2.at
  ·rw [b2 _ (fun z=>nb ((hF _).mpr (by rw [z];exact own_b)))];exact s1 _ _ eb
  ·rcases zeX z with z | z
   ·exact .inl ((hF b).mpr z)
   ·exact .inr (z▸f1)
theorem zbW {K:PySem.W.Frag} {xa:XAd} {C x:Addr} {H:Hp} {F:Addr→Prop} {st:ExS} {h:Int} {l:Int} {Q:VK} {E:XK} (hE:ExAt C H x F st) (B:InB st.hs st.rs) (qe:∀ f,whyR st h l=some f→E (.ref (xa.at f)) none H) (q:whyR st h l=none→∀ H' F',ExFr H H' F F'→ExAt C H' x F' { st with rs:=st.rs++[[h,l]] }→Q (.int ((st.rs.length:Int)+1)) H'):zba K C xa [.ref x,.int h,.int l] H Q E:=⟨rfl,x,F,st,h,l,rfl,hE,B,qe,q⟩
def zbD (K:PySem.W.Frag) (C:Addr) (xa:XAd):Sp:=fun vs H Q E=>vs.length=2∧∃ (x:Addr) (F:Addr→Prop) (st:ExS) (s:Int),vs=[.ref x,.int s]∧ExAt C H x F st∧InB st.hs st.rs∧(∀ f,whyS st s=some f→E (.ref (xa.at f)) none H)∧(whyS st s=none→∀ H' F',ExFr H H' F F'→ExAt C H' x F' { st with step:=s }→Q (.int s) H')
theorem zcr (T:Txt K mg t):FnOk P w K mg base (CX1 P w) 2 t.f_14 t.d_14 ["self","step"] (zbD K t.C_Exam t.xa):=by
 have G_26:=zaz (P:=P) (w:=w) (base:=base) T;have G_9:=zaX (P:=P) (w:=w) (base:=base) T;refine T.F_14.okX sc_14 (fun _ _ _ _ h=>h.1) fun cdv A outer s H vs Q E hr h=>by
  refine ⟨_,(zac (zaP (zaO (pv 0) T.cl_Exam T.me_26 G_26 (hr.mono (by decide)) T.b_26 .nil passX))
   (zac (zaP (zam G_9 (hr.mono (by decide)) (by rfl) T.m_9 T.F_9.kp T.b_9 .nil passX (zaa (pv 1) (zaa (za6 (v:=.int 100) (by rfl) T.v_MOST_STEP T.w_MOST_STEP) pa_nil))))
   (zac (zbT (K:=K) rfl (pv 0) (pv 1))
   (zad (zak (pv 1)))))),?_⟩
  obtain ⟨_,x,F,st,s,rfl,E0,BB,qe,q⟩:=h;have E0':=E0;walk_at "hd";symm;refine zaN E0' (fun hd=>?_) (fun hd=>qe .time (by unfold whyS;rw [if_pos hd]));symm;refine za0 (fun h3 h4=>?_) (fun hn=>qe .bounds (by unfold whyS;rw [hd,if_neg (by decide),if_neg hn]));have hp:=And.intro h3 h4;have q:=q (zfY hd hp);symm;refine zbf hob hcl nS (show 6 < 1000 by decide) fun H1 b1 e1=>?_;have I1:=I.setStep b1 e1 hp;symm;exact q H1 F (ExFr.but b1 ((hF _).mpr own_x) fun b z=>.inl z) ⟨e,kvs,rfl,hF,I1⟩
theorem zcG {K:PySem.W.Frag} {xa:XAd} {C x:Addr} {H:Hp} {F:Addr→Prop} {st:ExS} {s:Int} {Q:VK} {E:XK} (hE:ExAt C H x F st) (B:InB st.hs st.rs) (qe:∀ f,whyS st s=some f→E (.ref (xa.at f)) none H) (q:whyS st s=none→∀ H' F',ExFr H H' F F'→ExAt C H' x F' { st with step:=s }→Q (.int s) H'):zbD K C xa [.ref x,.int s] H Q E:=⟨rfl,x,F,st,s,rfl,hE,B,qe,q⟩
def zcn (K:PySem.W.Frag) (C:Addr):Sp:=fun vs H Q _=>vs.length=5∧∃ (x a:Addr) (fine:Bool) (due:Int) (why:Str) (F:Addr→Prop) (st:ExS) (d:Dd),vs=[.ref x,.ref a,.bl fine,.int due,.str why]∧H a=some (.lst (d.row.map V.int))∧ExAt C H x F st∧InB st.hs st.rs∧(d.why st=none∨d.why st=some .unknown∨d.why st=some .bounds)∧(d.why st=none→∀ H' F',ExFr H H' F F'→ExAt C H' x F' (d.done st)→Q (.bl (fine && decide (d.ans st=due))) H')∧(∀ f,d.why st=some f→Q (.bl (!fine && decide (f.word=why))) H)
theorem zdN (T:Txt K mg t):FnOk P w K mg base CX0 3 t.f_41 t.d_41 ["_law_exam","_law_todo","_law_fine","_law_due","_law_why"] (zcn K t.C_Exam):=by
 have G_12:=zbV (P:=P) (w:=w) (base:=base) T;have G_13:=zbN (P:=P) (w:=w) (base:=base) T;have G_14:=zcr (P:=P) (w:=w) (base:=base) T;have G_35:=zbI (P:=P) (w:=w) (base:=base) T;refine T.F_41.ok sc_41 (fun _ _ _ _ h=>h.1) fun cdv A outer s H vs Q E hr h=>by
  refine ⟨_,(zac (zaJ (i:=5) sc_41.nd rfl (Or.inl rfl) zck)
   (zac (ziG ⟨rfl,rfl⟩ (fun xe pn=>(zac (zaQ (zav (zb6 (K:=K) rfl hr.units0) (zbd (zar (K:=K) rfl) (pv 1) zae (fun _ _=>rfl)) zae (zaq _))
   (zad (zaJ (i:=6) sc_41.nd rfl (Or.inl rfl) (zdi (pv 0) T.cl_Exam T.me_12 G_12 (hr.mono (by decide)) T.b_12 (zaa (zbd (zar (K:=K) rfl) (pv 1) zae (fun _ _=>rfl)) pa_nil)))) (zad (zaQ (zav (zb6 (K:=K) rfl hr.units0) (zbd (zar (K:=K) rfl) (pv 1) zae (fun _ _=>rfl)) zae (zaq _))
   (zad (zaJ (i:=6) sc_41.nd rfl (Or.inl rfl) (zdi (pv 0) T.cl_Exam T.me_13 G_13 (hr.mono (by decide)) T.b_13 (zaa (zbd (zar (K:=K) rfl) (pv 1) zae (fun _ _=>rfl)) (zaa (zbd (zar (K:=K) rfl) (pv 1) zae (fun _ _=>rfl)) pa_nil))))) (zad (zaJ (i:=6) sc_41.nd rfl (Or.inl rfl) (zdi (pv 0) T.cl_Exam T.me_14 G_14 (hr.mono (by decide)) T.b_14 (zaa (zbd (zar (K:=K) rfl) (pv 1) zae (fun _ _=>rfl)) pa_nil)))))))
   (zad (zak (zbE (pv 2) (zbE (zam G_35 (hr.mono (by decide)) (by rfl) T.m_35 T.F_35.kp T.b_35 .nil zaE (zaa (pv 6) pa_nil)) (zb0 (zaT (zb6 (K:=K) rfl hr.units0) (pv 6) (pv 3) (zaq _)))))))))
   (zfT (fun _ _ z=>z) (by rfl) T.mx_UnknownNumber (fun _=>(zad (zaJ (i:=5) sc_41.nd rfl (Or.inl rfl) zck)))
   (zfT (fun _ _ z=>z) (by rfl) T.mx_OutOfBounds (fun _=>(zad (zaJ (i:=5) sc_41.nd rfl (Or.inl rfl) zck)))
   ph_nil)))
   (zad (zak (zbE (zgD (pv 2)) (zb0 (zaT (zb6 (K:=K) rfl hr.units0) (pv 5) (pv 4) (zaq _)))))))),?_⟩
  obtain ⟨_,x,a,fine,due,why,F,st,d,rfl,ea,E0,BB,hw,qn,qf⟩:=h;obtain ⟨dx,fs,hob,hlk⟩:=E0.ob;symm;refine zi4 fun xe pn hxe=>?_
  cases d with
  | paper h =>
    have ea:H a=some (.lst [.int 0,.int h]):=ea;have qn:whyP st h=none→∀ H' F',ExFr H H' F F'→ExAt t.C_Exam H' x F' { st with hs:=st.hs++[h] }→Q (.bl (fine && decide ((st.hs.length:Int)+1=due))) H':=qn;walk_at "rdk";refine zaB hob (hlk _ (by decide +kernel)) ?_;symm;refine zb9 E0 BB (fun f hf=>hxe _ _ _ ?_) (fun hn H' F' fr E'=>?_)
    ·have hq:=qf f hf;have hf:(Dd.paper h).why st=some f:=hf;rcases hw with z | z | z
     ·rw [z] at hf;cases hf
     ·rw [z] at hf;cases hf
      refine zeZ T.x_UnknownNumber_UnknownNumber ?_;symm
      cases fine with
      | true=>exact iteF hq
      | false=>refine iteT ?_;walk_at "rd";exact hq
     ·rw [z] at hf;cases hf
      refine zhz T.x_OutOfBounds_UnknownNumber (zeZ T.x_OutOfBounds_OutOfBounds ?_);symm
      cases fine with
      | true=>exact iteF hq
      | false=>refine iteT ?_;walk_at "rd";exact hq
    ·have hq:=qn hn H' F' fr E';symm
     cases fine with
     | false=>exact iteF hq
     | true =>
       refine iteT ?_;symm;refine iteT ?_;symm;exact hq
  | reader h l =>
    have ea:H a=some (.lst [.int 1,.int h,.int l]):=ea;have qn:whyR st h l=none→∀ H' F',ExFr H H' F F'→ExAt t.C_Exam H' x F' { st with rs:=st.rs++[[h,l]] }→Q (.bl (fine && decide ((st.rs.length:Int)+1=due))) H':=qn;walk_at "rdk";refine zaB hob (hlk _ (by decide +kernel)) ?_;symm;refine zbW E0 BB (fun f hf=>hxe _ _ _ ?_) (fun hn H' F' fr E'=>?_)
    ·have hq:=qf f hf;have hf:(Dd.reader h l).why st=some f:=hf;rcases hw with z | z | z
     ·rw [z] at hf;cases hf
     ·rw [z] at hf;cases hf
      refine zeZ T.x_UnknownNumber_UnknownNumber ?_;symm
      cases fine with
      | true=>exact iteF hq
      | false=>refine iteT ?_;walk_at "rd";exact hq
     ·rw [z] at hf;cases hf
      refine zhz T.x_OutOfBounds_UnknownNumber (zeZ T.x_OutOfBounds_OutOfBounds ?_);symm
      cases fine with
      | true=>exact iteF hq
      | false=>refine iteT ?_;walk_at "rd";exact hq
    ·have hq:=qn hn H' F' fr E';symm
     cases fine with
     | false=>exact iteF hq
     | true =>
       refine iteT ?_;symm;refine iteT ?_;symm;exact hq
  | step s =>
    have ea:H a=some (.lst [.int 2,.int s]):=ea;have qn:whyS st s=none→∀ H' F',ExFr H H' F F'→ExAt t.C_Exam H' x F' { st with step:=s }→Q (.bl (fine && decide (s=due))) H':=qn;walk_at "rdk";refine zaB hob (hlk _ (by decide +kernel)) ?_;symm;refine zcG E0 BB (fun f hf=>hxe _ _ _ ?_) (fun hn H' F' fr E'=>?_)
    ·have hq:=qf f hf;have hf:(Dd.step s).why st=some f:=hf;rcases hw with z | z | z
     ·rw [z] at hf;cases hf
     ·rw [z] at hf;cases hf
      refine zeZ T.x_UnknownNumber_UnknownNumber ?_;symm
      cases fine with
      | true=>exact iteF hq
      | false=>refine iteT ?_;walk_at "rd";exact hq
     ·rw [z] at hf;cases hf
      refine zhz T.x_OutOfBounds_UnknownNumber (zeZ T.x_OutOfBounds_OutOfBounds ?_);symm
      cases fine with
      | true=>exact iteF hq
      | false=>refine iteT ?_;walk_at "rd";exact hq
    ·have hq:=qn hn H' F' fr E';symm
     cases fine with
     | false=>exact iteF hq
     | true =>
       refine iteT ?_;symm;refine iteT ?_;symm;exact hq
theorem zby {C x a:Addr} {H:Hp} {fine:Bool} {due:Int} {why:Str} {F:Addr→Prop} {st:ExS} (d:Dd) {Q:VK} {E:XK} (ea:H a=some (.lst (d.row.map V.int))) (hE:ExAt C H x F st) (B:InB st.hs st.rs) (hw:d.why st=none∨d.why st=some .unknown∨d.why st=some .bounds) (qn:d.why st=none→∀ H' F',ExFr H H' F F'→ExAt C H' x F' (d.done st)→Q (.bl (fine && decide (d.ans st=due))) H') (qf:∀ f,d.why st=some f→Q (.bl (!fine && decide (f.word=why))) H):zcn K C [.ref x,.ref a,.bl fine,.int due,.str why] H Q E:=⟨rfl,x,a,fine,due,why,F,st,d,rfl,ea,hE,B,hw,qn,qf⟩
def zcH (K:PySem.W.Frag):Sp:=fun vs H Q _=>vs.length=2∧∃ (a b:Addr) (xs ys:List (List Int)),vs=[.ref a,.ref b]∧(∃ zs,H a=some (.lst zs))∧LL K H a xs∧LL K H b ys∧ys.length≤1000000∧(∀ i,i < ys.length→(ys.getD i []).length≤1000000)∧Q (.bl (decide (xs=ys))) H
theorem zd9 (T:Txt K mg t):FnOk P w K mg base CX0 3 t.f_38 t.d_38 ["_law_found","_law_due"] (zcH K):=by
 have G_37:=zch (P:=P) (w:=w) (base:=base) T;refine T.F_38.ok sc_38 (fun _ _ _ _ h=>h.1) fun cdv A outer s H vs Q E hr h=>by
  refine ⟨_,(zac (zaQ (zc9 (zaZ (zap (K:=K) rfl (zai (zaD (K:=K) rfl) (by rfl) T.z_isinstance (by rfl) (zaa (pv 0) (zaa (zce (v:=.ty "list") (u:=.type "list") (by rfl) T.z_list (by rfl) rfl) pa_nil))) (fun _=>rfl))) (zbZ (zav (zex (K:=K) rfl hr.units0) (zai (zan (K:=K) rfl) (by rfl) T.z_len (by rfl) (zaa (pv 0) pa_nil)) (zai (zan (K:=K) rfl) (by rfl) T.z_len (by rfl) (zaa (pv 1) pa_nil)) (zaq _)))).pt
   (zad (zak zbt)) pss_nil)
   (zac (zem PassesOwn.never rfl (zds (by rfl) T.z_range (zaa (zai (zan (K:=K) rfl) (by rfl) T.z_len (by rfl) (zaa (pv 1) pa_nil)) pa_nil)) (zaK (i:=2) sc_38.nd rfl (Or.inl rfl))
   (zad (zaQ (zaZ (zap (K:=K) rfl (zam G_37 (hr.mono (by decide)) (by rfl) T.m_37 T.F_37.kp T.b_37 .nil zaE (zaa (zbd (zar (K:=K) rfl) (pv 0) (pv 2) (fun _ _=>rfl)) (zaa (zbd (zar (K:=K) rfl) (pv 1) (pv 2) (fun _ _=>rfl)) pa_nil))) (fun _=>rfl)))
   (zad (zak zbt)) pss_nil)))
   (zad (zak zbt)))),?_⟩
  obtain ⟨_,a,b,xs,ys,rfl,⟨zs,hz⟩,⟨ps,ha,hla,hpa⟩,⟨qs,hb,hlb,hpb⟩,hy,hyi,q⟩:=h;symm;refine iteF ?_;symm;refine zeq (fun h0=>?_) (fun h0=>?_)
  ·rw [decide_eq_false (by rintro rfl;exact h0 (by omega))] at q;symm;exact q
  ·have hlen:xs.length=ys.length:=by omega
   symm;refine zgI (by omega) (by omega) ?_;refine zfx (fun i σ H1=>∃ v,σ=[some (.ref a),some (.ref b),v]∧H1=H∧∀ j,j < i→xs.getD j []=ys.getD j []) ⟨none,rfl,rfl,fun j hj=>absurd hj (by omega)⟩ ?_ ?_
   ·rintro i σ H1 hi ⟨v,rfl,rfl,hall⟩;symm;have e2:(0+(i:Int)).toNat=i:=by omega
    rw [e2];refine zb7 (hpa i (by omega)) (SqL.of (hpb i (by omega))) (hyi i (by omega)) ?_;symm;refine zeq (fun h1=>?_) (fun h1=>?_)
    ·rw [decide_eq_false (by rintro rfl;exact h1 rfl)] at q;symm;exact q
    ·symm;refine ⟨_,rfl,rfl,fun j hj=>?_⟩
     by_cases e:j=i
     ·subst e;exact h1
     ·exact hall j (by omega)
   ·rintro σ H1 ⟨v,rfl,rfl,hall⟩;rw [decide_eq_true (zfz hlen fun j hj=>hall j (by omega))] at q;symm;exact q
theorem zc6 {H:Hp} {a b:Addr} {xs ys:List (List Int)} {Q:VK} {E:XK} (hz:∃ zs,H a=some (.lst zs)) (h:LL K H a xs) (h':LL K H b ys) (hl:ys.length≤1000000) (hi:∀ i,i < ys.length→(ys.getD i []).length≤1000000) (q:Q (.bl (decide (xs=ys))) H):zcH K [.ref a,.ref b] H Q E:=⟨rfl,a,b,xs,ys,rfl,hz,h,h',hl,hi,q⟩
def zbh (K:PySem.W.Frag) (C:Addr):Sp:=fun vs H Q _=>vs.length=1∧∃ (x:Addr) (F:Addr→Prop) (st:ExS),vs=[.ref x]∧ExAt C H x F st∧InB st.hs st.rs∧(∀ p H',zaC H p st.rs H'→Q (.ref p) H')
theorem zcI (T:Txt K mg t):FnOk P w K mg base CX0 1 t.f_18 t.d_18 ["self"] (zbh K t.C_Exam):=by
 refine T.F_18.ok sc_18 (fun _ _ _ _ h=>h.1) fun cdv A outer s H vs Q E hr h=>by
  refine ⟨_,(zad (zak (zbn (zax (sc:=zab s_18) (XN:=["self"]) (N:=["row"]) (own:=1) (js:=[]) rfl rfl (by decide +kernel)) rfl (zbb (K:=K) rfl (zay (K:=K) rfl (pv 0))) (fun _ _ _ _ _=>(zaK (i:=0) (show List.Nodup [(Str.ofString "row")] by decide +kernel) rfl (Or.inl rfl))) (fun _ _ _ _ _=>zbu) (fun _ _ _ _ _=>(zdz (zc1 (K:=K) rfl) (by rfl) T.z_list (by rfl) (zaa (pv 0) pa_nil)))))),?_⟩;obtain ⟨_,x,F,st,rfl,E0,BB,q⟩:=h;have B1:=BB.lp;have B2:=BB.lr;walk_at "hd";have L:LL K H e.b st.rs:=⟨e.ps,SqL.of hhb,I.lp,I.rp⟩
  symm;refine zbv (SqL.of hhb) ?_;refine zeW L (by omega) fun p H2 R=>?_;exact q p H2 R
theorem zcS {K:PySem.W.Frag} {C x:Addr} {H:Hp} {F:Addr→Prop} {st:ExS} {Q:VK} {E:XK} (h:ExAt C H x F st) (B:InB st.hs st.rs) (q:(∀ p H',zaC H p st.rs H'→Q (.ref p) H')):zbh K C [.ref x] H Q E:=⟨rfl,x,F,st,rfl,h,B,q⟩
theorem zcT {K:PySem.W.Frag} {C x:Addr} {H:Hp} {F:Addr→Prop} {st:ExS} {Q:VK} {E:XK} {σ:L2.St} (h:ExAt C H x F st) (B:InB st.hs st.rs) (q:(∀ p H',zaC H p st.rs H'→Q (.ref p) H')):zaH C "readers" (zbh K C) E tNil σ (.ref x) H Q:=by
 obtain ⟨dx,fs,e,l⟩:=h.ob;exact zaB e (l _ (by decide +kernel)) (zb2 (zcS h B q))
def zbp (K:PySem.W.Frag) (C:Addr):Sp:=fun vs H Q _=>vs.length=1∧∃ (x:Addr) (F:Addr→Prop) (st:ExS),vs=[.ref x]∧ExAt C H x F st∧InB st.hs st.rs∧(∀ p H',H p=none→Same H H'→H' p=some (.lst (st.hs.map V.int))→Q (.ref p) H')
theorem zcU (T:Txt K mg t):FnOk P w K mg base CX0 1 t.f_17 t.d_17 ["self"] (zbp K t.C_Exam):=by
 refine T.F_17.ok sc_17 (fun _ _ _ _ h=>h.1) fun cdv A outer s H vs Q E hr h=>by
  refine ⟨_,(zad (zak (zdz (zc1 (K:=K) rfl) (by rfl) T.z_list (by rfl) (zaa (zay (K:=K) rfl (pv 0)) pa_nil)))),?_⟩;obtain ⟨_,x,F,st,rfl,E0,BB,q⟩:=h;have B1:=BB.lp;have B2:=BB.lr;walk_at "hd";symm;refine zdF (SqL.of hha) fun p H1 f1 s1 e1=>?_;exact q p H1 f1 s1 e1
theorem zdj {K:PySem.W.Frag} {C x:Addr} {H:Hp} {F:Addr→Prop} {st:ExS} {Q:VK} {E:XK} (h:ExAt C H x F st) (B:InB st.hs st.rs) (q:(∀ p H',H p=none→Same H H'→H' p=some (.lst (st.hs.map V.int))→Q (.ref p) H')):zbp K C [.ref x] H Q E:=⟨rfl,x,F,st,rfl,h,B,q⟩
theorem zdk {K:PySem.W.Frag} {C x:Addr} {H:Hp} {F:Addr→Prop} {st:ExS} {Q:VK} {E:XK} {σ:L2.St} (h:ExAt C H x F st) (B:InB st.hs st.rs) (q:(∀ p H',H p=none→Same H H'→H' p=some (.lst (st.hs.map V.int))→Q (.ref p) H')):zaH C "papers" (zbp K C) E tNil σ (.ref x) H Q:=by
 obtain ⟨dx,fs,e,l⟩:=h.ob;exact zaB e (l _ (by decide +kernel)) (zb2 (zdj h B q))
def zaR (K:PySem.W.Frag) (C:Addr):Sp:=fun vs H Q _=>vs.length=2∧∃ (x:Addr) (F:Addr→Prop) (st:ExS) (k:Int),vs=[.ref x,.int k]∧ExAt C H x F st∧InB st.hs st.rs∧1≤k∧k≤st.nm.length∧(∀ p H',H p=none→Same H H'→H' p=some (.lst ((za4 st.nm st.en (k-1).toNat).map V.int))→Q (.ref p) H')
theorem zbi (T:Txt K mg t):FnOk P w K mg base CX0 1 t.f_29 t.d_29 ["self","paper"] (zaR K t.C_Exam):=by
 refine T.F_29.ok sc_29 (fun _ _ _ _ h=>h.1) fun cdv A outer s H vs Q E hr h=>by
  refine ⟨_,(zac (zaJ (i:=2) sc_29.nd rfl (Or.inr rfl) (zbd (zar (K:=K) rfl) (zay (K:=K) rfl (pv 0)) (zbq (op_sub) (pv 1) zae) (fun _ _=>rfl)))
   (zad (zak (zbn (zax (sc:=zab s_29) (XN:=["self","paper","entered"]) (N:=["reader","entered"]) (own:=1) (js:=[2]) rfl rfl (by decide +kernel)) rfl (zbb (K:=K) rfl (zbd (zar (K:=K) rfl) (zay (K:=K) rfl (pv 0)) (zbq (op_sub) (pv 1) zae) (fun _ _=>rfl))) (fun _ _ _ _ _=>(zaK (i:=0) (show List.Nodup [(Str.ofString "reader"),(Str.ofString "entered")] by decide +kernel) rfl (Or.inl rfl))) (fun _ _ _ _ _=>(zfv (zhJ (zfu (zg4 hr) (pv 0) (pv 1))))) (fun _ _ _ _ _=>(pv 0)))))),?_⟩
  obtain ⟨_,x,F,st,k,rfl,E0,BB,k1,k2,q⟩:=h;have B1:=BB.lp;have B2:=BB.lr;have E0':=E0;walk_at "hd";have lq:=I.lq;have ld:=I.ld;have l10:=I.wf.n10 BB;have hk:(k-1).toNat < st.nm.length:=by omega
  have hdic:=I.rd _ hk;have hrow:=I.rq _ hk;have hvk:=I.vk _ hk;have hlr:=(I.wf.row _ hk).len;symm;refine zbv (SqL.of hrow) ?_;refine zfD (SqL.of hrow) (by rw [List.length_map];omega) (fun v=>match v with | .int r=>(zbx st.en (k-1).toNat r).isNone | _=>false) (fun i H' Q' hi s q'=>?_) fun p H2 f s e2=>?_
  ·rw [List.length_map] at hi;have ex:((st.nm.getD (k-1).toNat []).map V.int).getD i .non=.int ((st.nm.getD (k-1).toNat []).getD i 0):=zbG hi;rw [ex] at q' ⊢;symm;refine zfO (s _ _ hdic) ?_;rw [hvk];have eb:(!((zbx st.en (k-1).toNat ((st.nm.getD (k-1).toNat []).getD i 0)).map V.int).isSome)=(zbx st.en (k-1).toNat ((st.nm.getD (k-1).toNat []).getD i 0)).isNone:=by
    cases zbx st.en (k-1).toNat ((st.nm.getD (k-1).toNat []).getD i 0) <;> rfl
   symm;rw [eb];exact q'
  ·have ew:((st.nm.getD (k-1).toNat []).map V.int).filter (fun v=>match v with | .int r=>(zbx st.en (k-1).toNat r).isNone | _=>false)=(za4 st.nm st.en (k-1).toNat).map V.int:=by
    unfold za4;rw [List.filter_map];rfl
   rw [ew] at e2;exact q p H2 f s e2
theorem zca {K:PySem.W.Frag} {C x:Addr} {H:Hp} {F:Addr→Prop} {st:ExS} {k:Int} {Q:VK} {E:XK} (h:ExAt C H x F st) (B:InB st.hs st.rs) (k1:1≤k) (k2:k≤st.nm.length) (q:(∀ p H',H p=none→Same H H'→H' p=some (.lst ((za4 st.nm st.en (k-1).toNat).map V.int))→Q (.ref p) H')):zaR K C [.ref x,.int k] H Q E:=⟨rfl,x,F,st,k,rfl,h,B,k1,k2,q⟩
theorem zbm {K:PySem.W.Frag} {C x:Addr} {H:Hp} {F:Addr→Prop} {st:ExS} {k:Int} {Q:VK} {E:XK} {σ:L2.St} {tk:TE} (h:ExAt C H x F st) (B:InB st.hs st.rs) (k1:1≤k) (k2:k≤st.nm.length) (hk:∀ Q:VK,Q (.int k) H→tk σ H Q) (q:(∀ p H',H p=none→Same H H'→H' p=some (.lst ((za4 st.nm st.en (k-1).toNat).map V.int))→Q (.ref p) H')):zaH C "due_readers" (zaR K C) E (zd0 tk tNil) σ (.ref x) H Q:=by
 obtain ⟨dx,fs,e,l⟩:=h.ob;exact zaB e (l _ (by decide +kernel)) (zdE (hk _ (zb2 (zca h B k1 k2  q))))
def zbX (K:PySem.W.Frag) (C:Addr):Sp:=fun vs H Q _=>vs.length=1∧∃ (x:Addr) (F:Addr→Prop) (st:ExS),vs=[.ref x]∧ExAt C H x F st∧InB st.hs st.rs∧(∀ p H',zaC H p (dueS st) H'→Q (.ref p) H')
theorem zea (T:Txt K mg t):FnOk P w K mg base CX0 2 t.f_23 t.d_23 ["self"] (zbX K t.C_Exam):=by
 have G_29:=zbi (P:=P) (w:=w) (base:=base) T;refine T.F_23.ok sc_23 (fun _ _ _ _ h=>h.1) fun cdv A outer s H vs Q E hr h=>by
  refine ⟨_,(zac (zaJ (i:=1) sc_23.nd rfl (Or.inl rfl) (zaL pa_nil))
   (zac (zem PassesOwn.never rfl (zdt (by rfl) T.z_range (zaa zae (zaa (zbq (op_addG) (zai (zan (K:=K) rfl) (by rfl) T.z_len (by rfl) (zaa (zay (K:=K) rfl (pv 0)) pa_nil)) zae) pa_nil))) (zaK (i:=2) sc_23.nd rfl (Or.inr rfl))
   (zad (zaP (zc2 (K:=K) rfl PySem.F.plainAttrs_list PySem.F.slot_list_extend PySem.F.type_list_extend mt_extend (pv 1) (zaa (zbn (zax (sc:=zab s_23) (XN:=["self","rows","paper"]) (N:=["reader","paper"]) (own:=1) (js:=[2]) rfl rfl (by decide +kernel)) rfl (zbb (K:=K) rfl (zdb (pv 0) T.cl_Exam T.me_29 G_29 (hr.mono (by decide)) T.b_29 .nil zaE (zaa (pv 2) pa_nil))) (fun _ _ _ _ _=>(zaK (i:=0) (show List.Nodup [(Str.ofString "reader"),(Str.ofString "paper")] by decide +kernel) rfl (Or.inl rfl))) (fun _ _ _ _ _=>zbu) (fun _ _ _ _ _=>(zaL (zaa (pv 1) (zaa (pv 0) pa_nil))))) pa_nil)))))
   (zad (zak (pv 1))))),?_⟩
  obtain ⟨_,x,F,st,rfl,E0,BB,q⟩:=h;have B1:=BB.lp;have B2:=BB.lr;have E0':=E0;walk_at "hd";have lq:=I.lq;have l10:=I.wf.n10 BB;symm;refine zat (by decide) fun p1 H1 f1 s1 e1=>?_;have hob1:=s1 _ _ hob;have hhc1:=s1 _ _ hhc;symm;refine zgJ ⟨by omega,by omega,by omega,by omega⟩ ?_;have en:((e.qs.length:Int)+1-1).toNat=st.nm.length:=by omega
  rw [en];refine zfx (fun i σ H'=>(∃ v,σ=[some (.ref e.x),some (.ref p1),v])∧zaC H p1 ((List.range i).flatMap fun k=>(za4 st.nm st.en k).map fun r=>[(k:Int)+1,r]) H'∧((List.range i).flatMap fun k=>(za4 st.nm st.en k).map fun r=>[(k:Int)+1,r]).length≤3 * i) ⟨⟨none,rfl⟩,zaC.start f1 s1 e1,by simp⟩ ?_ ?_
  ·rintro i σ H' hi ⟨⟨v,rfl⟩,R,hlen⟩;have E':=E0'.same R.same;have ek:(1+(i:Int)-1).toNat=i:=by omega
   have hw:=zhw st.nm st.en i;have hlr:=(I.wf.row i hi).len;obtain ⟨zs',z',_⟩:=R.lst;symm;refine zbm E' BB (k:=1+(i:Int)) (by omega) (by omega) (fun Q z=>zdD (i:=2) rfl z) fun p2 H2 f2 s2 e2=>?_;rw [ek] at e2;refine zbv (SqL.of e2) ?_;refine zcu (zb5 (zbS.one (za3 (SqL.of e2))) (by rw [List.length_map];omega) (fun j=>[(i:Int)+1,(za4 st.nm st.en i).getD j 0]) (fun j H3 Q' hj s3 q'=>?_) fun p3 H3 R3=>?_)
   ·rw [List.length_map] at hj;have ex:((za4 st.nm st.en i).map V.int).getD j .non=.int ((za4 st.nm st.en i).getD j 0):=zbG hj;rw [ex];show (_:TE) (some (.int _)::some (.int (1+(i:Int)))::_) _ _;symm;rw [Int.add_comm 1 (i:Int)];refine zat (by simp) fun p4 H4 f4 s4 e4=>?_;exact q' p4 H4 f4 s4 e4
   ·have er:(List.range ((za4 st.nm st.en i).map V.int).length).map (fun j=>[(i:Int)+1,(za4 st.nm st.en i).getD j 0])=(za4 st.nm st.en i).map fun r=>[(i:Int)+1,r]:=by
     rw [List.length_map]
     conv=>rhs;rw [← zbo (za4 st.nm st.en i) 0]
     rw [List.map_map];rfl
    rw [er] at R3;have R':zaC H p1 _ H2:=⟨R.same.trans s2,R.new,by obtain ⟨ps,a1,a2,a3,a4⟩:=R.rows;exact ⟨ps,s2 _ _ a1,a2,a3,fun j hj=>⟨s2 _ _ (a4 j hj).1,(a4 j hj).2⟩⟩⟩
    obtain ⟨zs,zs2,z1,z2,z3,z4,zz⟩:=R'.ext (H3:=H3) R3;rw [List.length_map] at z4;obtain ⟨zs,zs2,z1,z2,z3,z4,_⟩:=R'.ext (H3:=H3) R3;rw [List.length_map] at z4;symm;refine zgx z1 z2 (by omega) fun H4 b4 e4=>?_;obtain ⟨ys,ys2,y1,y2,y3,y4,yy⟩:=R'.ext (H3:=H4) R3;have eq1:ys=zs:=by rw [y1] at z1;exact HO.lst.inj (Option.some.inj z1)
    have eq2:ys2=zs2:=by rw [y2] at z2;exact HO.lst.inj (Option.some.inj z2)
    rw [eq1,eq2] at yy;symm;refine ⟨⟨_,rfl⟩,?_,?_⟩
    ·rw [zdL _ _ _ hi];exact yy b4 e4
    ·rw [zdL _ _ _ hi,List.length_append,List.length_map];omega
  ·rintro σ H' ⟨⟨v,rfl⟩,R,_⟩;symm;exact q p1 H' R
theorem ze0 {K:PySem.W.Frag} {C x:Addr} {H:Hp} {F:Addr→Prop} {st:ExS} {Q:VK} {E:XK} (h:ExAt C H x F st) (B:InB st.hs st.rs) (q:(∀ p H',zaC H p (dueS st) H'→Q (.ref p) H')):zbX K C [.ref x] H Q E:=⟨rfl,x,F,st,rfl,h,B,q⟩
theorem ze1 {K:PySem.W.Frag} {C x:Addr} {H:Hp} {F:Addr→Prop} {st:ExS} {Q:VK} {E:XK} {σ:L2.St} (h:ExAt C H x F st) (B:InB st.hs st.rs) (q:(∀ p H',zaC H p (dueS st) H'→Q (.ref p) H')):zaH C "due" (zbX K C) E tNil σ (.ref x) H Q:=by
 obtain ⟨dx,fs,e,l⟩:=h.ob;exact zaB e (l _ (by decide +kernel)) (zb2 (ze0 h B q))
def zcJ (K:PySem.W.Frag):Sp:=fun vs H Q _=>vs.length=2∧∃ (b:Addr) (rows:List (List Int)) (x:Int),vs=[.ref b,.int x]∧LL K H b rows∧rows.length≤20∧∀ H',Same H H'→Q (.int (cntB rows x:Int)) H'
theorem zeb (T:Txt K mg t):FnOk P w K mg base CX0 1 t.f_2 t.d_2 ["rows","reader"] (zcJ K):=by
 refine T.F_2.ok sc_2 (fun _ _ _ _ h=>h.1) fun cdv A outer s H vs Q E hr h=>by
  refine ⟨_,(zad (zak (zai (zan (K:=K) rfl) (by rfl) T.z_len (by rfl) (zaa (zbn (zax (sc:=zab s_2) (XN:=["rows","reader"]) (N:=["row","reader"]) (own:=1) (js:=[1]) rfl rfl (by decide +kernel)) rfl (zbb (K:=K) rfl (pv 0)) (fun _ _ _ _ _=>(zaK (i:=0) (show List.Nodup [(Str.ofString "row"),(Str.ofString "reader")] by decide +kernel) rfl (Or.inl rfl))) (fun _ _ _ _ _=>(zfv (zav (ziD (K:=K) rfl (zg4 hr)) (pv 1) (pv 0) (by with_unfolding_all rfl)))) (fun _ _ _ _ _=>(pv 0))) pa_nil)))),?_⟩;obtain ⟨_,b,rows,x,rfl,L,hl,q⟩:=h;obtain ⟨ps,hb,hpl,hr⟩:=id L;symm;refine zbv hb ?_;refine zgp hb hpl (by omega) (x:=x) (fun i H' Q' hi s q'=>?_) fun p H2 zs f s e ez=>?_
  ·have hrow:=s _ _ (hr i hi);symm;exact q'
  symm;rw [ez];exact q _ s
theorem ze2 {H:Hp} {b:Addr} {rows:List (List Int)} {x:Int} {Q:VK} {E:XK} (h:LL K H b rows) (hl:rows.length≤20) (q:∀ H',Same H H'→Q (.int (cntB rows x:Int)) H'):zcJ K [.ref b,.int x] H Q E:=⟨rfl,b,rows,x,rfl,h,hl,q⟩
theorem zgA (rs rows:List (List Int)) (n:Nat) (hn:n=rs.length):((List.range n).filter fun _=>true).map (fun i=>V.int ((rs.getD i []).getD 1 0-(cntB rows (1+(i:Int)):Int)))=(zeM rs rows).map V.int:=by
 subst hn;rw [List.filter_eq_self.mpr (fun _ _=>rfl)];unfold zeM;rw [List.map_map];refine List.map_congr_left fun i _=>?_;show V.int _=V.int _;rw [Int.add_comm 1 (i:Int)]
def zcb (K:PySem.W.Frag):Sp:=fun vs H Q _=>vs.length=2∧∃ (a b:Addr) (rs rows:List (List Int)),vs=[.ref a,.ref b]∧LL K H a rs∧LL K H b rows∧rs.length≤8∧rows.length≤20∧(∀ i,i < rs.length→(rs.getD i []).length=2)∧∀ p H',H p=none→Same H H'→H' p=some (.lst ((zeM rs rows).map V.int))→Q (.ref p) H'
theorem zdl (T:Txt K mg t):FnOk P w K mg base CX0 2 t.f_1 t.d_1 ["readers","rows"] (zcb K):=by
 have G_2:=zeb (P:=P) (w:=w) (base:=base) T;refine T.F_1.ok sc_1 (fun _ _ _ _ h=>h.1) fun cdv A outer s H vs Q E hr h=>by
  refine ⟨_,(zad (zak (zbn (zax (sc:=zab s_1) (XN:=["readers","rows"]) (N:=["reader","row","rows"]) (own:=2) (js:=[1]) rfl rfl (by decide +kernel)) rfl (zgt (K:=K) rfl (by rfl) T.z_enumerate (zaa (pv 0) pa_nil)) (fun _ _ _ _ _=>(zfA (K:=K) (n:=2) rfl rfl (zct (zaK (i:=0) (show List.Nodup [(Str.ofString "reader"),(Str.ofString "row"),(Str.ofString "rows")] by decide +kernel) rfl (Or.inl rfl)) (zct (zaK (i:=1) (show List.Nodup [(Str.ofString "reader"),(Str.ofString "row"),(Str.ofString "rows")] by decide +kernel) rfl (Or.inl rfl)) pgs_nil)))) (fun _ _ _ _ _=>zbu) (fun _ _ _ _ _=>(zbq (op_sub) (zbd (zar (K:=K) rfl) (pv 1) zae (fun _ _=>rfl)) (zam G_2 (hr.mono (by decide)) (by rfl) T.m_2 T.F_2.kp T.b_2 .nil zaE (zaa (pv 2) (zaa (pv 0) pa_nil)))))))),?_⟩;obtain ⟨_,a,b,rs,rows,rfl,L1,L2,l1,l2,r2,q⟩:=h;obtain ⟨ps,ha,hpl,hpr⟩:=id L1;have en:(ps.map V.ref).length=rs.length:=by rw [List.length_map];exact hpl
  symm;refine zgu ha ?_;refine zfI (zbS.enum ha) (by omega) (fun _=>true) (fun i=>.int ((rs.getD i []).getD 1 0-(cntB rows (1+(i:Int)):Int))) (fun i H' Q' _ _ q'=>q' _ (Same.refl _)) (fun i H' Q' hi s _ q'=>?_) fun p H2 f s e=>?_
  ·have hi':i < rs.length:=by omega
   have ex:(ps.map V.ref).getD i .non=.ref (ps.getD i 0):=by
    rw [List.getD_eq_getElem?_getD,List.getElem?_map,List.getElem?_eq_getElem (by omega),List.getD_eq_getElem?_getD,List.getElem?_eq_getElem (by omega)];rfl
   rw [ex];have h2:=r2 i hi';have hrow:=s _ _ (hpr i hi');show (_:TE) (some (.int (1+(i:Int)))::some (.ref (ps.getD i 0))::_) _ _;symm;refine ze2 (L2.same s) l2 fun H3 s3=>?_;symm;exact q' _ s3
  rw [zgA rs rows _ en] at e;exact q p H2 f s e
theorem zdm {H:Hp} {a b:Addr} {rs rows:List (List Int)} {Q:VK} {E:XK} (h1:LL K H a rs) (h2:LL K H b rows) (l1:rs.length≤8) (l2:rows.length≤20) (r2:∀ i,i < rs.length→(rs.getD i []).length=2)
  (q:∀ p H',H p=none→Same H H'→H' p=some (.lst ((zeM rs rows).map V.int))→Q (.ref p) H'):zcb K [.ref a,.ref b] H Q E:=⟨rfl,a,b,rs,rows,rfl,h1,h2,l1,l2,r2,q⟩
def zbJ (K:PySem.W.Frag) (C:Addr):Sp:=fun vs H Q _=>vs.length=1∧∃ (x:Addr) (F:Addr→Prop) (st:ExS),vs=[.ref x]∧ExAt C H x F st∧InB st.hs st.rs∧(∀ p H',H p=none→Same H H'→H' p=some (.lst ((zdK st).map V.int))→Q (.ref p) H')
theorem zdO (T:Txt K mg t):FnOk P w K mg base CX0 3 t.f_25 t.d_25 ["self"] (zbJ K t.C_Exam):=by
 have G_1:=zdl (P:=P) (w:=w) (base:=base) T;refine T.F_25.ok sc_25 (fun _ _ _ _ h=>h.1) fun cdv A outer s H vs Q E hr h=>by
  refine ⟨_,(zad (zak (zam G_1 (hr.mono (by decide)) (by rfl) T.m_1 T.F_1.kp T.b_1 .nil zaE (zaa (zay (K:=K) rfl (pv 0)) (zaa (zay (K:=K) rfl (pv 0)) pa_nil))))),?_⟩;obtain ⟨_,x,F,st,rfl,E0,BB,q⟩:=h;have B1:=BB.lp;have B2:=BB.lr;walk_at "hd";have L:LL K H e.b st.rs:=⟨e.ps,SqL.of hhb,I.lp,I.rp⟩
  have M:LL K H e.c st.nm:=⟨e.qs,SqL.of hhc,I.lq,I.rq⟩
  symm;refine zdm L M (by omega) (by have:=I.wf.n10 BB;omega) BB.r2 fun p H2 f s z=>?_;exact q p H2 f s z
theorem zec {K:PySem.W.Frag} {C x:Addr} {H:Hp} {F:Addr→Prop} {st:ExS} {Q:VK} {E:XK} (h:ExAt C H x F st) (B:InB st.hs st.rs) (q:(∀ p H',H p=none→Same H H'→H' p=some (.lst ((zdK st).map V.int))→Q (.ref p) H')):zbJ K C [.ref x] H Q E:=⟨rfl,x,F,st,rfl,h,B,q⟩
theorem zed {K:PySem.W.Frag} {C x:Addr} {H:Hp} {F:Addr→Prop} {st:ExS} {Q:VK} {E:XK} {σ:L2.St} (h:ExAt C H x F st) (B:InB st.hs st.rs) (q:(∀ p H',H p=none→Same H H'→H' p=some (.lst ((zdK st).map V.int))→Q (.ref p) H')):zaH C "left" (zbJ K C) E tNil σ (.ref x) H Q:=by
 obtain ⟨dx,fs,e,l⟩:=h.ob;exact zaB e (l _ (by decide +kernel)) (zb2 (zec h B q))
def zbK (K:PySem.W.Frag) (C:Addr):Sp:=fun vs H Q _=>vs.length=1∧∃ (x:Addr) (F:Addr→Prop) (st:ExS),vs=[.ref x]∧ExAt C H x F st∧InB st.hs st.rs∧(∀ H',Same H H'→Q (.int st.step) H')
theorem zdP (T:Txt K mg t):FnOk P w K mg base CX0 1 t.f_19 t.d_19 ["self"] (zbK K t.C_Exam):=by
 refine T.F_19.ok sc_19 (fun _ _ _ _ h=>h.1) fun cdv A outer s H vs Q E hr h=>by
  refine ⟨_,(zad (zak (zay (K:=K) rfl (pv 0)))),?_⟩;obtain ⟨_,x,F,st,rfl,E0,BB,q⟩:=h;have B1:=BB.lp;have B2:=BB.lr;walk_at "hd";symm;exact q H (Same.refl H)
theorem zee {K:PySem.W.Frag} {C x:Addr} {H:Hp} {F:Addr→Prop} {st:ExS} {Q:VK} {E:XK} (h:ExAt C H x F st) (B:InB st.hs st.rs) (q:(∀ H',Same H H'→Q (.int st.step) H')):zbK K C [.ref x] H Q E:=⟨rfl,x,F,st,rfl,h,B,q⟩
theorem zcK {K:PySem.W.Frag} {C x:Addr} {H:Hp} {F:Addr→Prop} {st:ExS} {Q:VK} {E:XK} {σ:L2.St} (h:ExAt C H x F st) (B:InB st.hs st.rs) (q:(∀ H',Same H H'→Q (.int st.step) H')):zaH C "step" (zbK K C) E tNil σ (.ref x) H Q:=by
 obtain ⟨dx,fs,e,l⟩:=h.ob;exact zaB e (l _ (by decide +kernel)) (zb2 (zee h B q))
def zcL (K:PySem.W.Frag):Sp:=fun vs H Q _=>vs.length=2∧∃ (a:Addr) (n:Nat),vs=[.ref a,.int (n:Int)]∧H a=some (.lst (List.replicate n .non))∧n≤1000∧Q (.bl true) H
theorem zef (T:Txt K mg t):FnOk P w K mg base CX0 1 t.f_40 t.d_40 ["_law_found","_law_many"] (zcL K):=by
 refine T.F_40.ok sc_40 (fun _ _ _ _ h=>h.1) fun cdv A outer s H vs Q E hr h=>by
  refine ⟨_,(zac (zaQ (zc9 (zaZ (zap (K:=K) rfl (zai (zaD (K:=K) rfl) (by rfl) T.z_isinstance (by rfl) (zaa (pv 0) (zaa (zce (v:=.ty "list") (u:=.type "list") (by rfl) T.z_list (by rfl) rfl) pa_nil))) (fun _=>rfl))) (zbZ (zav (zex (K:=K) rfl hr.units0) (zai (zan (K:=K) rfl) (by rfl) T.z_len (by rfl) (zaa (pv 0) pa_nil)) (pv 1) (zaq _)))).pt
   (zad (zak zbt)) pss_nil)
   (zac (zem PassesOwn.never rfl (zbb (K:=K) rfl (pv 0)) (zaK (i:=2) sc_40.nd rfl (Or.inl rfl))
   (zad (zaQ (zav (op_notNN) (pv 2) zdr (zaq _))
   (zad (zak zbt)) pss_nil)))
   (zad (zak zbt)))),?_⟩
  obtain ⟨_,a,n,rfl,ha,hn,q⟩:=h;have el:(List.replicate n V.non).length=n:=List.length_replicate;symm;refine iteF ?_;symm;rw [el,decide_eq_true (rfl:(n:Int)=(n:Int))];refine iteF ?_;symm;refine zbv (SqL.of ha) ?_;refine zhh (xs:=List.replicate n V.non) (fun i σ H'=>(∃ v,σ=[some (.ref a),some (.int (n:Int)),v])∧H'=H) ⟨⟨none,rfl⟩,rfl⟩ ?_ ?_ ?_
  ·rintro i σ H' _ ⟨_,rfl⟩;exact SqL.of ha
  ·rintro i x σ H' hx ⟨⟨v,rfl⟩,rfl⟩;have hxn:x=.non:=by
    have:=List.mem_of_getElem? hx;exact (List.mem_replicate.mp this).2
   subst hxn;symm;rw [decide_eq_true (rfl:V.non=V.non)];refine iteF ?_;symm;exact ⟨⟨_,rfl⟩,rfl⟩
  ·rintro σ H' ⟨⟨v,rfl⟩,rfl⟩;symm;exact q
theorem ze3 {H:Hp} {a:Addr} {n:Nat} {Q:VK} {E:XK} (h:H a=some (.lst (List.replicate n .non))) (hn:n≤1000) (q:Q (.bl true) H):zcL K [.ref a,.int (n:Int)] H Q E:=⟨rfl,a,n,rfl,h,hn,q⟩
theorem ze4 {B H:Hp} {p:Addr} {st:ExS} (M:zdg B p (zbH st) H) (h:st.dl=none):H p=some (.lst (List.replicate st.hs.length .non)):=by
 obtain ⟨_,_,vs,e,hl,hv⟩:=M;have em:zbH st=(List.range st.hs.length).map fun _=>none:=by unfold zbH;rw [h]
 rw [em] at hl hv;rw [List.length_map,List.length_range] at hl hv;have:vs=List.replicate st.hs.length .non:=by
  refine List.ext_getElem (by rw [List.length_replicate];exact hl) fun i h1 h2=>?_;have:=hv i (by omega);rw [za1 (by omega)] at this;have t2:vs.getD i .non=.non:=this;rw [List.getD_eq_getElem?_getD,List.getElem?_eq_getElem h1] at t2;rw [List.getElem_replicate];exact t2
 rw [e,this]
def zaY (K:PySem.W.Frag) (C:Addr):Sp:=fun vs H Q _=>vs.length=2∧∃ (x:Addr) (F:Addr→Prop) (st:ExS) (k:Int),vs=[.ref x,.int k]∧ExAt C H x F st∧InB st.hs st.rs∧1≤k∧k≤st.nm.length∧za4 st.nm st.en (k-1).toNat=[]∧(∀ p H',H p=none→Same H H'→H' p=some (.lst ((ptsOf st.nm st.en (k-1).toNat).map V.int))→Q (.ref p) H')
theorem zcc (T:Txt K mg t):FnOk P w K mg base CX0 1 t.f_30 t.d_30 ["self","paper"] (zaY K t.C_Exam):=by
 refine T.F_30.ok sc_30 (fun _ _ _ _ h=>h.1) fun cdv A outer s H vs Q E hr h=>by
  refine ⟨_,(zac (zaJ (i:=2) sc_30.nd rfl (Or.inr rfl) (zbd (zar (K:=K) rfl) (zay (K:=K) rfl (pv 0)) (zbq (op_sub) (pv 1) zae) (fun _ _=>rfl)))
   (zad (zak (zbn (zax (sc:=zab s_30) (XN:=["self","paper","entered"]) (N:=["reader","entered"]) (own:=1) (js:=[2]) rfl rfl (by decide +kernel)) rfl (zbb (K:=K) rfl (zbd (zar (K:=K) rfl) (zay (K:=K) rfl (pv 0)) (zbq (op_sub) (pv 1) zae) (fun _ _=>rfl))) (fun _ _ _ _ _=>(zaK (i:=0) (show List.Nodup [(Str.ofString "reader"),(Str.ofString "entered")] by decide +kernel) rfl (Or.inl rfl))) (fun _ _ _ _ _=>zbu) (fun _ _ _ _ _=>(zha (zg4 hr) (pv 1) (pv 0) (fun _ _=>rfl))))))),?_⟩
  obtain ⟨_,x,F,st,k,rfl,E0,BB,k1,k2,hw,q⟩:=h;have B1:=BB.lp;have B2:=BB.lr;have E0':=E0;walk_at "hd";have lq:=I.lq;have ld:=I.ld;have l10:=I.wf.n10 BB;have hk:(k-1).toNat < st.nm.length:=by omega
  have hdic:=I.rd _ hk;have hrow:=I.rq _ hk;have hvk:=I.vk _ hk;have hlr:=(I.wf.row _ hk).len;symm;refine zbv (SqL.of hrow) ?_;refine zdH (za3 (SqL.of hrow)) (by rw [List.length_map];omega) (fun i=>(zbx st.en (k-1).toNat ((st.nm.getD (k-1).toNat []).getD i 0)).getD 0) (fun i H' Q' hi s q'=>?_) fun p H2 f s e2=>?_
  ·rw [List.length_map] at hi;have ex:((st.nm.getD (k-1).toNat []).map V.int).getD i .non=.int ((st.nm.getD (k-1).toNat []).getD i 0):=zbG hi;rw [ex];obtain ⟨p,hp⟩:=zgy hw (getD_mem (d:=0) hi);rw [hp] at q';symm;refine zfP (s _ _ hdic) (by rw [hvk,hp];rfl) ?_;exact q'
  ·have ew:(List.range ((st.nm.getD (k-1).toNat []).map V.int).length).map (fun i=>(zbx st.en (k-1).toNat ((st.nm.getD (k-1).toNat []).getD i 0)).getD 0)=ptsOf st.nm st.en (k-1).toNat:=by
    unfold ptsOf;rw [List.length_map]
    conv=>rhs;rw [← zbo (st.nm.getD (k-1).toNat []) 0]
    rw [List.map_map];rfl
   rw [ew] at e2;exact q p H2 f s e2
theorem zci {K:PySem.W.Frag} {C x:Addr} {H:Hp} {F:Addr→Prop} {st:ExS} {k:Int} {Q:VK} {E:XK} (h:ExAt C H x F st) (B:InB st.hs st.rs) (k1:1≤k) (k2:k≤st.nm.length) (hw:za4 st.nm st.en (k-1).toNat=[]) (q:(∀ p H',H p=none→Same H H'→H' p=some (.lst ((ptsOf st.nm st.en (k-1).toNat).map V.int))→Q (.ref p) H')):zaY K C [.ref x,.int k] H Q E:=⟨rfl,x,F,st,k,rfl,h,B,k1,k2,hw,q⟩
theorem zcj {K:PySem.W.Frag} {C x:Addr} {H:Hp} {F:Addr→Prop} {st:ExS} {k:Int} {Q:VK} {E:XK} {σ:L2.St} {tk:TE} (h:ExAt C H x F st) (B:InB st.hs st.rs) (k1:1≤k) (k2:k≤st.nm.length) (hw:za4 st.nm st.en (k-1).toNat=[]) (hk:∀ Q:VK,Q (.int k) H→tk σ H Q) (q:(∀ p H',H p=none→Same H H'→H' p=some (.lst ((ptsOf st.nm st.en (k-1).toNat).map V.int))→Q (.ref p) H')):zaH C "points_for" (zaY K C) E (zd0 tk tNil) σ (.ref x) H Q:=by
 obtain ⟨dx,fs,e,l⟩:=h.ob;exact zaB e (l _ (by decide +kernel)) (zdE (hk _ (zb2 (zci h B k1 k2 hw q))))
def zbj (K:PySem.W.Frag):Sp:=fun vs H Q _=>vs.length=2∧∃ a b:Nat,vs=[.int (a:Int),.int (b:Int)]∧Q (.int ((Nat.gcd a b:Nat):Int)) H
theorem zbY (T:Txt K mg t):FnOk P w K mg base CX0 1 t.f_4 t.d_4 ["one","other"] (zbj K):=by
 refine T.F_4.ok sc_4 (fun _ _ _ _ h=>h.1) fun cdv A outer s H vs Q E hr h=>by
  refine ⟨_,(zac (zaJ (i:=2) sc_4.nd rfl (Or.inl rfl) (pv 0))
   (zac (zaJ (i:=3) sc_4.nd rfl (Or.inl rfl) (pv 1))
   (zac (zf5 PassesOwn.never (zav (op_gt) (pv 3) zae (zaq _))
   (zac (zaJ (i:=4) sc_4.nd rfl (Or.inl rfl) (zbq (op_mod) (pv 2) (pv 3)))
   (zac (zaJ (i:=2) sc_4.nd rfl (Or.inl rfl) (pv 3))
   (zad (zaJ (i:=3) sc_4.nd rfl (Or.inl rfl) (pv 4))))))
   (zad (zak (pv 2)))))),?_⟩
  obtain ⟨_,a,b,rfl,q⟩:=h;symm;refine ⟨fun n σ H'=>∃ (x:Nat) (v:Option V),σ=[some (.int (a:Int)),some (.int (b:Int)),some (.int (x:Int)),some (.int (n:Int)),v]∧H'=H∧Nat.gcd x n=Nat.gcd a b,⟨b,a,none,rfl,rfl,rfl⟩,?_⟩;rintro n σ H' ⟨x,v,rfl,rfl,hg⟩;symm;refine zcB (fun h1=>?_) (fun h1=>?_)
  ·refine ⟨fun σ H''=>∃ (x' y':Nat) (v:Option V),y' < n∧σ=[some (.int (a:Int)),some (.int (b:Int)),some (.int (x':Int)),some (.int (y':Int)),v]∧H''=H'∧Nat.gcd x' y'=Nat.gcd a b,?_,?_⟩
   ·rintro σ' H'' ⟨x',y',v',hlt,rfl,rfl,hg'⟩;exact ⟨y',hlt,x',v',rfl,rfl,hg'⟩
   ·symm;refine ⟨n,x % n,_,Nat.mod_lt _ (by omega),rfl,rfl,?_⟩;rw [← hg,Nat.gcd_comm n,← Nat.gcd_rec,Nat.gcd_comm]
  ·have h0:n=0:=by omega
   subst h0;rw [Nat.gcd_zero_right] at hg;subst hg;symm;exact q
theorem zcd {H:Hp} {a b:Nat} {Q:VK} {E:XK} (q:Q (.int ((Nat.gcd a b:Nat):Int)) H):zbj K [.int (a:Int),.int (b:Int)] H Q E:=⟨rfl,a,b,rfl,q⟩
theorem zhB {a b:Nat} (hb:1≤b):Low (a:Int) (b:Int) ((a:Int) / ((Nat.gcd a b:Nat):Int)) ((b:Int) / ((Nat.gcd a b:Nat):Int)):=by
 have hg:0 < Nat.gcd a b:=Nat.gcd_pos_of_pos_right _ hb;obtain ⟨x,hx⟩:=Nat.gcd_dvd_left a b;obtain ⟨y,hy⟩:=Nat.gcd_dvd_right a b;have hco:Nat.gcd (a / Nat.gcd a b) (b / Nat.gcd a b)=1:=by
  rw [Nat.gcd_div (Nat.gcd_dvd_left a b) (Nat.gcd_dvd_right a b),Nat.div_self hg]
 have e1:a / Nat.gcd a b=x:=by
  conv=>lhs;arg 1;rw [hx]
  exact Nat.mul_div_cancel_left x hg
 have e2:b / Nat.gcd a b=y:=by
  conv=>lhs;arg 1;rw [hy]
  exact Nat.mul_div_cancel_left y hg
 have l1:=Nat.div_le_self a (Nat.gcd a b);have l2:=Nat.div_le_self b (Nat.gcd a b);rw [e1] at l1;rw [e2] at l2;have c1:(a:Int) / ((Nat.gcd a b:Nat):Int)=(x:Int):=by rw [← Int.natCast_ediv,e1]
 have c2:(b:Int) / ((Nat.gcd a b:Nat):Int)=(y:Int):=by rw [← Int.natCast_ediv,e2]
 rw [e1,e2] at hco;rw [c1,c2];have y1:1≤y:=by
  rcases Nat.eq_zero_or_pos y with h | h
  ·rw [h,Nat.mul_zero] at hy;omega
  ·exact h
 refine ⟨by omega,by omega,?_,?_,by omega,by omega⟩
 ·have:x * b=a * y:=by
   generalize Nat.gcd a b=g at *;subst hx hy;rw [Nat.mul_comm g y,← Nat.mul_assoc,Nat.mul_comm g x,Nat.mul_right_comm]
  exact_mod_cast this
 ·show Nat.gcd (Int.natAbs x) (Int.natAbs y)=1;rw [Int.natAbs_natCast,Int.natAbs_natCast];exact hco
def zdQ (K:PySem.W.Frag):Sp:=fun vs H Q _=>vs.length=2∧∃ x y:Int,vs=[.int x,.int y]∧0≤x∧x≤10 ^ 30∧1≤y∧y≤10 ^ 30∧∀ t b,Low x y t b→∀ p H',H p=none→Same H H'→H' p=some (.lst ([t,b].map V.int))→Q (.ref p) H'
theorem zf0 (T:Txt K mg t):FnOk P w K mg base CX0 2 t.f_3 t.d_3 ["top","bottom"] (zdQ K):=by
 have G_4:=zbY (P:=P) (w:=w) (base:=base) T;refine T.F_3.ok sc_3 (fun _ _ _ _ h=>h.1) fun cdv A outer s H vs Q E hr h=>by
  refine ⟨_,(zac (zaJ (i:=2) sc_3.nd rfl (Or.inl rfl) (zam G_4 (hr.mono (by decide)) (by rfl) T.m_4 T.F_4.kp T.b_4 .nil zaE (zaa (pv 0) (zaa (pv 1) pa_nil))))
   (zad (zak (zaL (zaa (zbq (op_fdivB) (pv 0) (pv 2)) (zaa (zbq (op_fdivB) (pv 1) (pv 2)) pa_nil)))))),?_⟩
  obtain ⟨_,x,y,rfl,x0,x1,y0,y1,q⟩:=h;obtain ⟨a,rfl⟩:=Int.eq_ofNat_of_zero_le x0;obtain ⟨b,rfl⟩:=Int.eq_ofNat_of_zero_le (show 0≤y by omega);have hb:1≤b:=by omega
  have hL:=zhB (a:=a) hb;have hg:0 < Nat.gcd a b:=Nat.gcd_pos_of_pos_right _ hb;have hg2:Nat.gcd a b≤b:=Nat.le_of_dvd hb (Nat.gcd_dvd_right a b);symm;refine zcd ?_;symm;refine zat (by simp) fun p H' f s e=>?_;exact q _ _ hL p H' f s e
theorem zdn {H:Hp} {x y:Int} {Q:VK} {E:XK} (x0:0≤x) (x1:x≤10 ^ 30) (y0:1≤y) (y1:y≤10 ^ 30) (q:∀ t b,Low x y t b→∀ p H',H p=none→Same H H'→H' p=some (.lst ([t,b].map V.int))→Q (.ref p) H'):zdQ K [.int x,.int y] H Q E:=⟨rfl,x,y,rfl,x0,x1,y0,y1,q⟩
theorem zgB {a b:List Int} (h:a.Perm b):a.sum=b.sum:=by
 induction h with
 | nil=>rfl
 | cons x _ ih=>rw [List.sum_cons,List.sum_cons,ih]
 | swap x y l=>simp only [List.sum_cons];omega
 | trans _ _ i1 i2=>exact i1.trans i2
theorem ze5 {x y z:Int} {ns:List Int} (hp:ns.Perm [x,y,z]) (hs:ns.Pairwise (·≤·)):ns.getD 1 0=mid3 x y z:=by
 have hl:=hp.length_eq
 match ns,hl with
 | [a,b,c],_ =>
   have h1:a≤b∧b≤c:=by simp at hs;omega
   have hsum:a+b+c=x+y+z:=by
    have:=zgB hp;simp at this;omega
   have ma:a=x∨a=y∨a=z:=by have:=hp.mem_iff.mp (show a∈[a,b,c] by simp);simpa using this
   have mc:c=x∨c=y∨c=z:=by have:=hp.mem_iff.mp (show c∈[a,b,c] by simp);simpa using this
   have mx:x=a∨x=b∨x=c:=by have:=hp.mem_iff.mpr (show x∈[x,y,z] by simp);simpa using this
   have my:y=a∨y=b∨y=c:=by have:=hp.mem_iff.mpr (show y∈[x,y,z] by simp);simpa using this
   have mz:z=a∨z=b∨z=c:=by have:=hp.mem_iff.mpr (show z∈[x,y,z] by simp);simpa using this
   show b=_;unfold mid3 min2 max2
   repeat' split
   all_goals omega
def zco (K:PySem.W.Frag):Sp:=fun vs H Q _=>vs.length=1∧∃ (a:Addr) (x y z:Int),vs=[.ref a]∧SqL K H a ([x,y,z].map V.int)∧∀ H',Same H H'→Q (.int (mid3 x y z)) H'
theorem zdR (T:Txt K mg t):FnOk P w K mg base CX0 1 t.f_7 t.d_7 ["points"] (zco K):=by
 refine T.F_7.ok sc_7 (fun _ _ _ _ h=>h.1) fun cdv A outer s H vs Q E hr h=>by
  refine ⟨_,(zad (zak (zbd (zar (K:=K) rfl) (zai (zdJ (K:=K) rfl) (by rfl) T.z_sorted (by rfl) (zaa (pv 0) pa_nil)) zae (fun _ _=>rfl)))),?_⟩;obtain ⟨_,a,x,y,z,rfl,ha,q⟩:=h;symm;refine zd5 ha (by simp) fun ns hp hs p H' f s e=>?_;have hl:ns.length=3:=hp.length_eq;symm;have e1:ns.getD (Int.toNat 1) 0=mid3 x y z:=ze5 hp hs;rw [e1];exact q _ s
theorem zeg {H:Hp} {a:Addr} {x y z:Int} {Q:VK} {E:XK} (h:SqL K H a ([x,y,z].map V.int)) (q:∀ H',Same H H'→Q (.int (mid3 x y z)) H'):zco K [.ref a] H Q E:=⟨rfl,a,x,y,z,rfl,h,q⟩
def zez (K:PySem.W.Frag):Sp:=fun vs H Q _=>vs.length=3∧∃ x y s:Int,vs=[.int x,.int y,.int s]∧Q (.bl (zcC x y s)) H
theorem zgC (T:Txt K mg t):FnOk P w K mg base CX0 1 t.f_5 t.d_5 ["one","other","step"] (zez K):=by
 refine T.F_5.ok sc_5 (fun _ _ _ _ h=>h.1) fun cdv A outer s H vs Q E hr h=>by
  refine ⟨_,(zad (zak (zaT (op_le) (zai (call_abs) (by rfl) T.z_abs (by rfl) (zaa (zbq (op_sub) (pv 0) (pv 1)) pa_nil)) (pv 2) (zaq _)))),?_⟩;obtain ⟨_,x,y,s,rfl,q⟩:=h;symm;refine ⟨_,rfl,?_⟩;symm;have e:zcC x y s=decide ((if x-y < 0 then -(x-y) else x-y)≤s):=by
   unfold zcC;rw [decide_eq_decide];split <;> constructor <;> intro h <;> first | omega | (constructor <;> omega)
  rw [e] at q;exact q
theorem zhC {H:Hp} {x y s:Int} {Q:VK} {E:XK} (q:Q (.bl (zcC x y s)) H):zez K [.int x,.int y,.int s] H Q E:=⟨rfl,x,y,s,rfl,q⟩
theorem zf1 {x t b:Int} (h:Low x 1 t b):t=x∧b=1:=by
 have h1:=h.bl;have h2:=h.b1;have hb:b=1:=by omega
 have:=h.eq;rw [hb] at this;exact ⟨by omega,hb⟩
theorem zhD {x t b:Int} (h:Low x 2 t b):[t,b]=if x % 2=1 then [x,2] else [x / 2,1]:=by
 have h1:=h.bl;have h2:=h.b1;have h3:=h.eq;have hb:b=1∨b=2:=by omega
 rcases hb with rfl | rfl
 ·rw [if_neg (by omega)];have:t=x / 2:=by omega
  rw [this]
 ·have ht:t=x:=by omega
  subst ht;have hg:=h.co;have hodd:t % 2=1:=by
   rcases Int.emod_two_eq t with e | e
   ·exfalso;have hd:(2:Int) ∣ t:=Int.dvd_of_emod_eq_zero e;have:(2:Nat) ∣ Int.gcd t 2:=Int.dvd_gcd hd (Int.dvd_refl 2);rw [hg] at this;have:=Nat.le_of_dvd (by decide) this;omega
   ·exact e
  rw [if_pos hodd]
def zc7 (K:PySem.W.Frag):Sp:=fun vs H Q _=>vs.length=2∧∃ (a:Addr) (xs:List Int) (s:Int),vs=[.ref a,.int s]∧SqL K H a (xs.map V.int)∧(xs.length=2∨xs.length=3)∧(∀ x∈xs,0≤x∧x≤100)∧∀ p H',H p=none→Same H H'→H' p=some (.lst ((MarkB xs s).map V.int))→Q (.ref p) H'
theorem ze6 (T:Txt K mg t):FnOk P w K mg base CX0 3 t.f_6 t.d_6 ["points","step"] (zc7 K):=by
 have G_3:=zf0 (P:=P) (w:=w) (base:=base) T;have G_7:=zdR (P:=P) (w:=w) (base:=base) T;have G_5:=zgC (P:=P) (w:=w) (base:=base) T;refine T.F_6.ok sc_6 (fun _ _ _ _ h=>h.1) fun cdv A outer s H vs Q E hr h=>by
  refine ⟨_,(zac (zaQ (zav (zb6 (K:=K) rfl hr.units0) (zai (zan (K:=K) rfl) (by rfl) T.z_len (by rfl) (zaa (pv 0) pa_nil)) zae (zaq _))
   (zad (zak (zam G_3 (hr.mono (by decide)) (by rfl) T.m_3 T.F_3.kp T.b_3 .nil zaE (zaa (zam G_7 (hr.mono (by decide)) (by rfl) T.m_7 T.F_7.kp T.b_7 .nil zaE (zaa (pv 0) pa_nil)) (zaa zae pa_nil))))) pss_nil)
   (zac (zaQ (zap (K:=K) rfl (zam G_5 (hr.mono (by decide)) (by rfl) T.m_5 T.F_5.kp T.b_5 .nil zaE (zaa (zbd (zar (K:=K) rfl) (pv 0) zae (fun _ _=>rfl)) (zaa (zbd (zar (K:=K) rfl) (pv 0) zae (fun _ _=>rfl)) (zaa (pv 1) pa_nil)))) (fun _=>rfl))
   (zad (zak (zam G_3 (hr.mono (by decide)) (by rfl) T.m_3 T.F_3.kp T.b_3 .nil zaE (zaa (zai (zfE (K:=K) rfl rfl) (by rfl) T.z_sum (by rfl) (zaa (pv 0) pa_nil)) (zaa zae pa_nil))))) pss_nil)
   (zad (zak (zam G_3 (hr.mono (by decide)) (by rfl) T.m_3 T.F_3.kp T.b_3 .nil zaE (zaa (zai (zfF (K:=K) rfl rfl) (by rfl) T.z_min (by rfl) (zaa (pv 0) pa_nil)) (zaa zae pa_nil))))))),?_⟩
  obtain ⟨_,a,xs,s,rfl,ha,hl,hb,q⟩:=h;symm;rcases hl with hl | hl
  ·match xs,hl with
   | [x,y],_ =>
     have hx:=hb x (by simp);have hy:=hb y (by simp);refine iteF ?_;have l2:([x,y]:List Int).length=2:=rfl;symm;refine zhC ?_;symm;show if zcC x y s=true then _ else _
     have em:MarkB [x,y] s=zgq x y s:=rfl;rw [em] at q;unfold zgq at q
     cases eg:zcC x y s with
     | true =>
       rw [eg] at q;simp only [if_true] at q ⊢;symm;refine zgs ha (fun z hz=>?_) (by simp) ?_
       ·have:=hb z hz;omega
       symm;have es:[x,y].sum=x+y:=by simp
       rw [es];refine zdn (by omega) (by omega) (by omega) (by omega) fun t b hL p H' f s' e=>?_;rw [zhD hL] at e;exact q p H' f s' e
     | false =>
       rw [eg] at q;simp only [Bool.false_eq_true,if_false] at q ⊢;symm;refine zfH ha (by simp) fun m hm hle=>?_;have em:m=min2 x y:=by
        have h1:=hle x (by simp);have h2:=hle y (by simp);have h3:m=x∨m=y:=by simpa using hm
        unfold min2;split <;> omega
       have hmb:=hb m hm;symm;refine zdn (by omega) (by omega) (by omega) (by omega) fun t b hL p H' f s' e=>?_;obtain ⟨rfl,rfl⟩:=zf1 hL;rw [em] at e;exact q p H' f s' e
  ·match xs,hl with
   | [x,y,z],_ =>
     have hx:=hb x (by simp);have hy:=hb y (by simp);have hz:=hb z (by simp);refine iteT ?_;symm;refine zeg ha fun H1 s1=>?_;have hm:0≤mid3 x y z∧mid3 x y z≤100:=by rcases zgr x y z with e | e | e <;> rw [e] <;> assumption
     symm;refine zdn (by omega) (by omega) (by omega) (by omega) fun t b hL p H' f s' e=>?_;obtain ⟨rfl,rfl⟩:=zf1 hL;exact q p H' (s1.free f) (s1.trans s') e
theorem zf2 {H:Hp} {a:Addr} {xs:List Int} {s:Int} {Q:VK} {E:XK} (h1:SqL K H a (xs.map V.int)) (h2:xs.length=2∨xs.length=3) (h3:∀ x∈xs,0≤x∧x≤100) (q:∀ p H',H p=none→Same H H'→H' p=some (.lst ((MarkB xs s).map V.int))→Q (.ref p) H'):zc7 K [.ref a,.int s] H Q E:=⟨rfl,a,xs,s,rfl,h1,h2,h3,q⟩
def za7 (K:PySem.W.Frag) (C:Addr):Sp:=fun vs H Q _=>vs.length=2∧∃ (x:Addr) (F:Addr→Prop) (st:ExS) (k:Int),vs=[.ref x,.int k]∧ExAt C H x F st∧InB st.hs st.rs∧1≤k∧k≤st.nm.length∧(∀ v H',Same H H'→zcE H v (zbO st.nm st.en st.step (k-1).toNat) H'→Q v H')
theorem zcs (T:Txt K mg t):FnOk P w K mg base CX0 4 t.f_31 t.d_31 ["self","paper"] (za7 K t.C_Exam):=by
 have G_29:=zbi (P:=P) (w:=w) (base:=base) T;have G_30:=zcc (P:=P) (w:=w) (base:=base) T;have G_6:=ze6 (P:=P) (w:=w) (base:=base) T;refine T.F_31.ok sc_31 (fun _ _ _ _ h=>h.1) fun cdv A outer s H vs Q E hr h=>by
  refine ⟨_,(zac (zaQ (zav (op_gt) (zai (zan (K:=K) rfl) (by rfl) T.z_len (by rfl) (zaa (zdb (pv 0) T.cl_Exam T.me_29 G_29 (hr.mono (by decide)) T.b_29 .nil zaE (zaa (pv 1) pa_nil)) pa_nil)) zae (zaq _))
   (zad (zak zdr)) pss_nil)
   (zac (zaJ (i:=2) sc_31.nd rfl (Or.inl rfl) (zdb (pv 0) T.cl_Exam T.me_30 G_30 (hr.mono (by decide)) T.b_30 .nil zaE (zaa (pv 1) pa_nil)))
   (zac (zeJ (i:=3) sc_31.nd rfl (Or.inl rfl) (by rfl) (zax (sc:=zab s_31) (XN:=["self","paper","points","readings"]) (N:=["reader","given"]) (own:=2) (js:=[]) rfl rfl (by decide +kernel)) rfl (zhi (K:=K) rfl (by rfl) T.z_zip (zaa (zbd (zar (K:=K) rfl) (zay (K:=K) rfl (pv 0)) (zbq (op_sub) (pv 1) zae) (fun _ _=>rfl)) (zaa (pv 2) pa_nil))) (fun _ _ _ _ _=>(zfA (K:=K) (n:=2) rfl rfl (zct (zaK (i:=0) (show List.Nodup [(Str.ofString "reader"),(Str.ofString "given")] by decide +kernel) rfl (Or.inl rfl)) (zct (zaK (i:=1) (show List.Nodup [(Str.ofString "reader"),(Str.ofString "given")] by decide +kernel) rfl (Or.inl rfl)) pgs_nil)))) (fun _ _ _ _ _=>zbu) (fun _ _ _ _ _=>(zaL (zaa (pv 0) (zaa (pv 1) pa_nil)))))
   (zad (zak (zbq (op_addG) (zam G_6 (hr.mono (by decide)) (by rfl) T.m_6 T.F_6.kp T.b_6 .nil zaE (zaa (pv 2) (zaa (zay (K:=K) rfl (pv 0)) pa_nil))) (zaL (zaa (pv 3) pa_nil)))))))),?_⟩
  obtain ⟨_,x,F,st,k,rfl,E0,BB,k1,k2,q⟩:=h;have B1:=BB.lp;have B2:=BB.lr;have E0':=E0;walk_at "hd";have lq:=I.lq;have ld:=I.ld;have l10:=I.wf.n10 BB;have hk:(k-1).toNat < st.nm.length:=by omega
  have hdic:=I.rd _ hk;have hrow:=I.rq _ hk;have hvk:=I.vk _ hk;have hlr:=(I.wf.row _ hk).len;have hpl:=zhx st.nm st.en (k-1).toNat;symm;refine zbm E0' BB k1 k2 (fun Q z=>zdD (i:=1) rfl z) fun p1 H1 f1 s1 e1=>?_;symm;refine zcB (fun h0=>?_) (fun h0=>?_)
  ·symm;refine q .non H1 s1 ?_;have hm:zbO st.nm st.en st.step (k-1).toNat=none:=by
    unfold zbO;rw [if_neg (fun z=>by rw [z] at h0;exact absurd h0 (by simp))]
   rw [hm];rfl
  ·have hw:za4 st.nm st.en (k-1).toNat=[]:=List.eq_nil_of_length_eq_zero (by omega);have hm:zbO st.nm st.en st.step (k-1).toNat=some ((MarkB (ptsOf st.nm st.en (k-1).toNat) st.step).getD 0 0,(MarkB (ptsOf st.nm st.en (k-1).toNat) st.step).getD 1 0,((st.nm.getD (k-1).toNat []).zip (ptsOf st.nm st.en (k-1).toNat)).map fun p=>[p.1,p.2]):=by
    unfold zbO;rw [if_pos hw]
   rw [hm] at q;have E1:=E0'.same s1;symm;refine zcj E1 BB k1 k2 hw (fun Q z=>zdD (i:=1) rfl z) fun p2 H2 f2 s2 e2=>?_;have s02:=s1.trans s2;have hob:=s02 _ _ hob;have hhc:=s02 _ _ hhc;have hrow:=s02 _ _ hrow;symm;refine zhj (SqL.of hrow) (SqL.of e2) ?_;refine zb5 (zbS.zip (SqL.of hrow) (SqL.of e2) (by rw [List.length_map,List.length_map,hpl])) (by rw [List.length_map];omega) (fun i=>[(st.nm.getD (k-1).toNat []).getD i 0,(ptsOf st.nm st.en (k-1).toNat).getD i 0]) (fun i H' Q' hi s q'=>?_) fun p3 H3 R3=>?_
   ·rw [List.length_map] at hi;have ex:((st.nm.getD (k-1).toNat []).map V.int).getD i .non=.int ((st.nm.getD (k-1).toNat []).getD i 0):=zbG hi;have ey:((ptsOf st.nm st.en (k-1).toNat).map V.int).getD i .non=.int ((ptsOf st.nm st.en (k-1).toNat).getD i 0):=zbG (by omega);rw [ex,ey];show (_:TE) (some (.int _)::some (.int _)::_) _ _;symm;refine zat (by simp) fun p4 H4 f4 s4 e4=>?_;exact q' p4 H4 f4 s4 e4
   ·have er:(List.range ((st.nm.getD (k-1).toNat []).map V.int).length).map (fun i=>[(st.nm.getD (k-1).toNat []).getD i 0,(ptsOf st.nm st.en (k-1).toNat).getD i 0])=((st.nm.getD (k-1).toNat []).zip (ptsOf st.nm st.en (k-1).toNat)).map fun p=>[p.1,p.2]:=by
     rw [List.length_map];exact zfQ hpl
    rw [er] at R3;have s03:=s02.trans R3.same;have hob:=R3.same _ _ hob;symm;refine zf2 (SqL.of (R3.same _ _ e2)) (by rw [hpl];exact hlr) (fun x hx=>I.wf.ptsOf hx) fun p4 H4 f4 s4 e4=>?_;have s04:=s03.trans s4;symm;refine zat (by simp) fun p5 H5 f5 s5 e5=>?_;symm;obtain ⟨sR,nR,psr,r1,r2,_,r3⟩:=R3;have ml:MarkB (ptsOf st.nm st.en (k-1).toNat) st.step=[(MarkB (ptsOf st.nm st.en (k-1).toNat) st.step).getD 0 0,(MarkB (ptsOf st.nm st.en (k-1).toNat) st.step).getD 1 0]:=by
     unfold MarkB zgq;split
     ·split
      ·split <;> rfl
      ·rfl
     ·rfl
    rw [ml] at e4;refine zgl (s5 _ _ e4) e5 (by simp) fun p6 H6 f6 s6 e6=>?_;have s46:=s5.trans s6;have s36:=s4.trans s46;refine q _ H6 (s03.trans s36) ⟨p6,p3,psr,rfl,(s04.trans s5).free f6,s02.free nR,e6,s36 _ _ r1,r2,fun j hj=>⟨s02.free (r3 j hj).2.1,s36 _ _ (r3 j hj).1⟩⟩
theorem zcM {K:PySem.W.Frag} {C x:Addr} {H:Hp} {F:Addr→Prop} {st:ExS} {k:Int} {Q:VK} {E:XK} (h:ExAt C H x F st) (B:InB st.hs st.rs) (k1:1≤k) (k2:k≤st.nm.length) (q:(∀ v H',Same H H'→zcE H v (zbO st.nm st.en st.step (k-1).toNat) H'→Q v H')):za7 K C [.ref x,.int k] H Q E:=⟨rfl,x,F,st,k,rfl,h,B,k1,k2,q⟩
theorem zcN {K:PySem.W.Frag} {C x:Addr} {H:Hp} {F:Addr→Prop} {st:ExS} {k:Int} {Q:VK} {E:XK} {σ:L2.St} {tk:TE} (h:ExAt C H x F st) (B:InB st.hs st.rs) (k1:1≤k) (k2:k≤st.nm.length) (hk:∀ Q:VK,Q (.int k) H→tk σ H Q) (q:(∀ v H',Same H H'→zcE H v (zbO st.nm st.en st.step (k-1).toNat) H'→Q v H')):zaH C "mark_for" (za7 K C) E (zd0 tk tNil) σ (.ref x) H Q:=by
 obtain ⟨dx,fs,e,l⟩:=h.ob;exact zaB e (l _ (by decide +kernel)) (zdE (hk _ (zb2 (zcM h B k1 k2  q))))
def zbz (K:PySem.W.Frag) (C:Addr):Sp:=fun vs H Q _=>vs.length=1∧∃ (x:Addr) (F:Addr→Prop) (st:ExS),vs=[.ref x]∧ExAt C H x F st∧InB st.hs st.rs∧(∀ p H',zdg H p (zbH st) H'→Q (.ref p) H')
theorem zdo (T:Txt K mg t):FnOk P w K mg base CX0 5 t.f_24 t.d_24 ["self"] (zbz K t.C_Exam):=by
 have G_31:=zcs (P:=P) (w:=w) (base:=base) T;refine T.F_24.ok sc_24 (fun _ _ _ _ h=>h.1) fun cdv A outer s H vs Q E hr h=>by
  refine ⟨_,(zac (zaQ (zaZ (zap (K:=K) rfl (zay (K:=K) rfl (pv 0)) (fun _=>rfl)))
   (zad (zak (zbn (zax (sc:=zab s_24) (XN:=["self"]) (N:=["house"]) (own:=1) (js:=[]) rfl rfl (by decide +kernel)) rfl (zbb (K:=K) rfl (zay (K:=K) rfl (pv 0))) (fun _ _ _ _ _=>(zaK (i:=0) (show List.Nodup [(Str.ofString "house")] by decide +kernel) rfl (Or.inl rfl))) (fun _ _ _ _ _=>zbu) (fun _ _ _ _ _=>zdr)))) pss_nil)
   (zad (zak (zbn (zax (sc:=zab s_24) (XN:=["self"]) (N:=["paper","self"]) (own:=1) (js:=[0]) rfl rfl (by decide +kernel)) rfl (zdt (by rfl) T.z_range (zaa zae (zaa (zbq (op_addG) (zai (zan (K:=K) rfl) (by rfl) T.z_len (by rfl) (zaa (zay (K:=K) rfl (pv 0)) pa_nil)) zae) pa_nil))) (fun _ _ _ _ _=>(zaK (i:=0) (show List.Nodup [(Str.ofString "paper"),(Str.ofString "self")] by decide +kernel) rfl (Or.inl rfl))) (fun _ _ _ _ _=>zbu) (fun _ _ _ _ _=>(zdb (pv 1) T.cl_Exam T.me_31 G_31 (hr.mono (by decide)) T.b_31 .nil zaE (zaa (pv 0) pa_nil))))))),?_⟩
  obtain ⟨_,x,F,st,rfl,E0,BB,q⟩:=h;have B1:=BB.lp;have B2:=BB.lr;have E0':=E0;walk_at "hd";have l10:=I.wf.n10 BB;symm
  cases hdl:st.dl with
  | none =>
    refine iteT ?_;rw [hdl] at hob;have fA:=@exFs_a (.ref e.a) (.ref e.b) (.int st.step) (.bl (none:Option (List (List Int)×List (List Int))).isSome) (.ref e.c) (.ref e.d);symm;refine zbv (SqL.of hha) ?_;refine zb4 (za3 (SqL.of hha)) (zaU (by rw [List.length_map];omega)) (fun _=>true) (fun _=>.non) (fun i H' Q' hi s q'=>q') (fun i H' Q' hi s _ q'=>q') fun p hp=>?_;have em:zbH st=(List.range st.hs.length).map fun _=>none:=by unfold zbH;rw [hdl]
    rw [List.filter_eq_self.mpr (fun _ _=>rfl),List.length_map];refine q p _ ⟨zaG hp,hp,_,zal,by rw [em];simp,fun i hi=>?_⟩;rw [em] at hi ⊢;rw [List.length_map,List.length_range] at hi;rw [za1 hi,za1 hi];rfl
  | some d =>
    obtain ⟨nm,en⟩:=d;refine iteF ?_;have hln:=I.wf.ln (by rw [hdl];rfl);rw [hdl] at hob;have fA:=@exFs_a (.ref e.a) (.ref e.b) (.int st.step) (.bl (some (nm,en)).isSome) (.ref e.c) (.ref e.d);have enm:st.nm=nm:=by unfold ExS.nm;rw [hdl];rfl
    have een:st.en=en:=by unfold ExS.en;rw [hdl];rfl
    symm;refine zgJ ⟨by omega,by omega,by omega,by omega⟩ ?_;have en':((st.hs.length:Int)+1-1).toNat=st.hs.length:=by omega
    rw [en'];refine zcu (zgw (zbS.one (zeK 1 st.hs.length H)) (by omega) (fun p i v H2=>zbU H p v (zbO nm en st.step i) H2) (fun _ _=>True) (fun p i v H1 H2 h k=>h.keep k) (fun p ys i H' Q' hi hp s hpp hl hR q'=>?_) fun p vs H2 hp s hpp hl hR _=>?_)
    ·have E':=E0'.same s;show (_:TE) (some (.int (1+(i:Int)))::_) _ _;symm;refine zcN E' BB (k:=1+(i:Int)) (by omega) (by omega) (fun Q z=>zdD (i:=0) rfl z) fun v H2 s2 M=>?_;have ek:(1+(i:Int)-1).toNat=i:=by omega
     rw [ek,enm,een] at M;exact q' v H2 s2 (M.new s hpp) trivial
    ·refine q p H2 ⟨s,hp,vs,hpp,?_,fun i hi=>?_⟩
     ·unfold zbH;rw [hdl];simpa using hl
     ·have em:zbH st=(List.range st.hs.length).map (zbO nm en st.step):=by unfold zbH;rw [hdl]
      rw [em] at hi ⊢;rw [List.length_map,List.length_range] at hi;rw [za1 hi];exact (hR i hi).is
theorem zdS {K:PySem.W.Frag} {C x:Addr} {H:Hp} {F:Addr→Prop} {st:ExS} {Q:VK} {E:XK} (h:ExAt C H x F st) (B:InB st.hs st.rs) (q:(∀ p H',zdg H p (zbH st) H'→Q (.ref p) H')):zbz K C [.ref x] H Q E:=⟨rfl,x,F,st,rfl,h,B,q⟩
theorem zdT {K:PySem.W.Frag} {C x:Addr} {H:Hp} {F:Addr→Prop} {st:ExS} {Q:VK} {E:XK} {σ:L2.St} (h:ExAt C H x F st) (B:InB st.hs st.rs) (q:(∀ p H',zdg H p (zbH st) H'→Q (.ref p) H')):zaH C "marks" (zbz K C) E tNil σ (.ref x) H Q:=by
 obtain ⟨dx,fs,e,l⟩:=h.ob;exact zaB e (l _ (by decide +kernel)) (zb2 (zdS h B q))
def zcp (K:PySem.W.Frag):Sp:=fun vs H Q _=>vs.length=2∧∃ b c:Bool,vs=[.bl b,.bl c]∧Q (.bl (decide (b=c))) H
theorem zdU (T:Txt K mg t):FnOk P w K mg base CX0 1 t.f_36 t.d_36 ["_law_found","_law_due"] (zcp K):=by
 refine T.F_36.ok sc_36 (fun _ _ _ _ h=>h.1) fun cdv A outer s H vs Q E hr h=>by
  refine ⟨_,(zad (zak (zbE (zai (zaD (K:=K) rfl) (by rfl) T.z_isinstance (by rfl) (zaa (pv 0) (zaa (zce (v:=.ty "bool") (u:=.type "bool") (by rfl) T.z_bool (by rfl) rfl) pa_nil))) (zb0 (zaT (zb6 (K:=K) rfl hr.units0) (pv 0) (pv 1) (zaq _)))))),?_⟩;obtain ⟨_,b,c,rfl,q⟩:=h;symm;refine iteT ?_;symm;exact q
theorem zcO {H:Hp} {b c:Bool} {Q:VK} {E:XK} (q:Q (.bl (decide (b=c))) H):zcp K [.bl b,.bl c] H Q E:=⟨rfl,_,_,rfl,q⟩
local macro_rules | `(tactic| walk_at "rd1")=>`(tactic| (with_reducible refine zcO ?_))
def zbA (K:PySem.W.Frag) (C:Addr):Sp:=fun vs H Q _=>vs.length=1∧∃ (x:Addr) (F:Addr→Prop) (st:ExS),vs=[.ref x]∧ExAt C H x F st∧InB st.hs st.rs∧(∀ H',Same H H'→Q (.bl st.dl.isSome) H')
theorem zdp (T:Txt K mg t):FnOk P w K mg base CX0 1 t.f_20 t.d_20 ["self"] (zbA K t.C_Exam):=by
 refine T.F_20.ok sc_20 (fun _ _ _ _ h=>h.1) fun cdv A outer s H vs Q E hr h=>by
  refine ⟨_,(zad (zak (zay (K:=K) rfl (pv 0)))),?_⟩;obtain ⟨_,x,F,st,rfl,E0,BB,q⟩:=h;have B1:=BB.lp;have B2:=BB.lr;walk_at "hd";symm;exact q H (Same.refl H)
theorem zdV {K:PySem.W.Frag} {C x:Addr} {H:Hp} {F:Addr→Prop} {st:ExS} {Q:VK} {E:XK} (h:ExAt C H x F st) (B:InB st.hs st.rs) (q:(∀ H',Same H H'→Q (.bl st.dl.isSome) H')):zbA K C [.ref x] H Q E:=⟨rfl,x,F,st,rfl,h,B,q⟩
theorem zdW {K:PySem.W.Frag} {C x:Addr} {H:Hp} {F:Addr→Prop} {st:ExS} {Q:VK} {E:XK} {σ:L2.St} (h:ExAt C H x F st) (B:InB st.hs st.rs) (q:(∀ H',Same H H'→Q (.bl st.dl.isSome) H')):zaH C "dealt" (zbA K C) E tNil σ (.ref x) H Q:=by
 obtain ⟨dx,fs,e,l⟩:=h.ob;exact zaB e (l _ (by decide +kernel)) (zb2 (zdV h B q))
def zbk (K:PySem.W.Frag) (C:Addr):Sp:=fun vs H Q _=>vs.length=1∧∃ (x:Addr) (F:Addr→Prop) (st:ExS),vs=[.ref x]∧ExAt C H x F st∧InB st.hs st.rs∧((st.dl=none→∀ H',Same H H'→Q .non H')∧∀ nm en,st.dl=some (nm,en)→∀ p H',zaC H p (nm.map (List.take 2)) H'→Q (.ref p) H')
theorem zcP (T:Txt K mg t):FnOk P w K mg base CX0 1 t.f_21 t.d_21 ["self"] (zbk K t.C_Exam):=by
 refine T.F_21.ok sc_21 (fun _ _ _ _ h=>h.1) fun cdv A outer s H vs Q E hr h=>by
  refine ⟨_,(zac (zaQ (zaZ (zap (K:=K) rfl (zay (K:=K) rfl (pv 0)) (fun _=>rfl)))
   (zad (zak zdr)) pss_nil)
   (zad (zak (zbn (zax (sc:=zab s_21) (XN:=["self"]) (N:=["named"]) (own:=1) (js:=[]) rfl rfl (by decide +kernel)) rfl (zbb (K:=K) rfl (zay (K:=K) rfl (pv 0))) (fun _ _ _ _ _=>(zaK (i:=0) (show List.Nodup [(Str.ofString "named")] by decide +kernel) rfl (Or.inl rfl))) (fun _ _ _ _ _=>zbu) (fun _ _ _ _ _=>(zge (zgi (K:=K) rfl) (pv 0) po_none (zgZ zae))))))),?_⟩
  obtain ⟨_,x,F,st,rfl,E0,BB,q⟩:=h;have B1:=BB.lp;have B2:=BB.lr;walk_at "hd";obtain ⟨q0,q1⟩:=q;have lq:=I.lq;have l10:=I.wf.n10 BB;symm
  cases hdl:st.dl with
  | none =>
    refine iteT ?_;symm;exact q0 hdl H (Same.refl H)
  | some d =>
    obtain ⟨nm,en⟩:=d;refine iteF ?_;rw [hdl] at hob;have fC:=@exFs_c (.ref e.a) (.ref e.b) (.int st.step) (.bl (some (nm,en)).isSome) (.ref e.c) (.ref e.d);have enm:st.nm=nm:=by unfold ExS.nm;rw [hdl];rfl
    rw [enm] at lq l10;have rq:=I.rq;rw [enm] at rq;symm;refine zbv (SqL.of hhc) ?_;have hl:=q1;refine zcu (zb5 (zbS.one (za3 (SqL.of hhc))) (by rw [List.length_map];omega) (fun i=>(nm.getD i []).take 2) (fun i H' Q' hi s q'=>?_) fun p H2 R=>?_)
    ·rw [List.length_map,lq] at hi;have ex:(e.qs.map V.ref).getD i .non=.ref (e.qs.getD i 0):=by
      rw [List.getD_eq_getElem?_getD,List.getElem?_map,List.getElem?_eq_getElem (by omega),List.getD_eq_getElem?_getD,List.getElem?_eq_getElem (by omega)];rfl
     rw [ex];have hrow:=s _ _ (rq i hi);show (_:TE) (some (.ref (e.qs.getD i 0))::_) _ _;symm;refine zeL (SqL.of hrow) fun p2 H2 f2 s2 e2=>?_;rw [show cutV ((nm.getD i []).map V.int) none (some 2)=((nm.getD i []).map V.int).take 2 from zhq 2,← List.map_take] at e2;exact q' p2 H2 f2 s2 e2
    ·rw [List.length_map,lq] at R;have em:(List.range nm.length).map (fun i=>(nm.getD i []).take 2)=nm.map (List.take 2):=by
      refine List.ext_getElem (by simp) fun i h1 h2=>?_;simp at h1 ⊢;rw [List.getElem?_eq_getElem h1];rfl
     rw [em] at R;exact q1 nm en hdl p H2 R
theorem zcV {K:PySem.W.Frag} {C x:Addr} {H:Hp} {F:Addr→Prop} {st:ExS} {Q:VK} {E:XK} (h:ExAt C H x F st) (B:InB st.hs st.rs) (q:((st.dl=none→∀ H',Same H H'→Q .non H')∧∀ nm en,st.dl=some (nm,en)→∀ p H',zaC H p (nm.map (List.take 2)) H'→Q (.ref p) H')):zbk K C [.ref x] H Q E:=⟨rfl,x,F,st,rfl,h,B,q⟩
theorem zcW {K:PySem.W.Frag} {C x:Addr} {H:Hp} {F:Addr→Prop} {st:ExS} {Q:VK} {E:XK} {σ:L2.St} (h:ExAt C H x F st) (B:InB st.hs st.rs) (q:((st.dl=none→∀ H',Same H H'→Q .non H')∧∀ nm en,st.dl=some (nm,en)→∀ p H',zaC H p (nm.map (List.take 2)) H'→Q (.ref p) H')):zaH C "dealing" (zbk K C) E tNil σ (.ref x) H Q:=by
 obtain ⟨dx,fs,e,l⟩:=h.ob;exact zaB e (l _ (by decide +kernel)) (zb2 (zcV h B q))
def zcQ (K:PySem.W.Frag) (C:Addr):Sp:=fun vs H Q _=>vs.length=4∧∃ (x a b:Addr) (F:Addr→Prop) (st:ExS) (ps:List Addr),vs=[.ref x,.ref a,.ref b,.int st.step]∧ExAt C H x F st∧InB st.hs st.rs∧st.dl=none∧zcR H F a st.hs∧zcD H F b ps st.rs∧∀ H',Same H H'→Q (.bl true) H'
theorem zeh (T:Txt K mg t):FnOk P w K mg base CX0 6 t.f_39 t.d_39 ["_law_exam","_law_homes","_law_staff","_law_step"] (zcQ K t.C_Exam):=by
 have G_38:=zd9 (P:=P) (w:=w) (base:=base) T;have G_18:=zcI (P:=P) (w:=w) (base:=base) T;have G_37:=zch (P:=P) (w:=w) (base:=base) T;have G_17:=zcU (P:=P) (w:=w) (base:=base) T;have G_23:=zea (P:=P) (w:=w) (base:=base) T;have G_25:=zdO (P:=P) (w:=w) (base:=base) T;have G_35:=zbI (P:=P) (w:=w) (base:=base) T;have G_19:=zdP (P:=P) (w:=w) (base:=base) T;have G_40:=zef (P:=P) (w:=w) (base:=base) T;have G_24:=zdo (P:=P) (w:=w) (base:=base) T;have G_36:=zdU (P:=P) (w:=w) (base:=base) T;have G_20:=zdp (P:=P) (w:=w) (base:=base) T;have G_21:=zcP (P:=P) (w:=w) (base:=base) T;refine T.F_39.ok sc_39 (fun _ _ _ _ h=>h.1) fun cdv A outer s H vs Q E hr h=>by
  refine ⟨_,(zac (zaQ (zc9 (zaZ (zap (K:=K) rfl (zam G_37 (hr.mono (by decide)) (by rfl) T.m_37 T.F_37.kp T.b_37 .nil zaE (zaa (zaO (pv 0) T.cl_Exam T.me_17 G_17 (hr.mono (by decide)) T.b_17 .nil zaE) (zaa (pv 1) pa_nil))) (fun _=>rfl))) (zbZ (zaZ (zap (K:=K) rfl (zam G_38 (hr.mono (by decide)) (by rfl) T.m_38 T.F_38.kp T.b_38 .nil zaE (zaa (zaO (pv 0) T.cl_Exam T.me_18 G_18 (hr.mono (by decide)) T.b_18 .nil zaE) (zaa (pv 2) pa_nil))) (fun _=>rfl))))).pt
   (zad (zak zbt)) pss_nil)
   (zac (zaQ (zc9 (zaZ (zap (K:=K) rfl (zam G_37 (hr.mono (by decide)) (by rfl) T.m_37 T.F_37.kp T.b_37 .nil zaE (zaa (zaO (pv 0) T.cl_Exam T.me_25 G_25 (hr.mono (by decide)) T.b_25 .nil zaE) (zaa (zbn (zax (sc:=zab s_39) (XN:=["_law_exam","_law_homes","_law_staff","_law_step"]) (N:=["_law_one"]) (own:=1) (js:=[]) rfl rfl (by decide +kernel)) rfl (zbb (K:=K) rfl (pv 2)) (fun _ _ _ _ _=>(zaK (i:=0) (show List.Nodup [(Str.ofString "_law_one")] by decide +kernel) rfl (Or.inl rfl))) (fun _ _ _ _ _=>zbu) (fun _ _ _ _ _=>(zbd (zar (K:=K) rfl) (pv 0) zae (fun _ _=>rfl)))) pa_nil))) (fun _=>rfl))) (zbZ (zaZ (zap (K:=K) rfl (zam G_38 (hr.mono (by decide)) (by rfl) T.m_38 T.F_38.kp T.b_38 .nil zaE (zaa (zaO (pv 0) T.cl_Exam T.me_23 G_23 (hr.mono (by decide)) T.b_23 .nil zaE) (zaa (zaL pa_nil) pa_nil))) (fun _=>rfl))))).pt
   (zad (zak zbt)) pss_nil)
   (zac (zaQ (zc9 (zaZ (zap (K:=K) rfl (zam G_40 (hr.mono (by decide)) (by rfl) T.m_40 T.F_40.kp T.b_40 .nil zaE (zaa (zaO (pv 0) T.cl_Exam T.me_24 G_24 (hr.mono (by decide)) T.b_24 .nil zaE) (zaa (zai (zan (K:=K) rfl) (by rfl) T.z_len (by rfl) (zaa (pv 1) pa_nil)) pa_nil))) (fun _=>rfl))) (zbZ (zaZ (zap (K:=K) rfl (zam G_35 (hr.mono (by decide)) (by rfl) T.m_35 T.F_35.kp T.b_35 .nil zaE (zaa (zaO (pv 0) T.cl_Exam T.me_19 G_19 (hr.mono (by decide)) T.b_19 .nil zaE) pa_nil)) (fun _=>rfl))))).pt
   (zad (zak zbt)) pss_nil)
   (zad (zak (zbE (zaT (zb6 (K:=K) rfl hr.units0) (zaO (pv 0) T.cl_Exam T.me_19 G_19 (hr.mono (by decide)) T.b_19 .nil zaE) (pv 3) (zaq _)) (zbE (zaT (op_isNN) (zaO (pv 0) T.cl_Exam T.me_21 G_21 (hr.mono (by decide)) T.b_21 .nil zaE) zdr (zaq _)) (zb0 (zam G_36 (hr.mono (by decide)) (by rfl) T.m_36 T.F_36.kp T.b_36 .nil zaE (zaa (zaO (pv 0) T.cl_Exam T.me_20 G_20 (hr.mono (by decide)) T.b_20 .nil zaE) (zaa zbt pa_nil))))))))))),?_⟩
  obtain ⟨_,x,a,b,F,st,psb,rfl,E0,B,hd,ha,hb,q⟩:=h;have B1:=B.lp;have B2:=B.lr;symm;refine zdk E0 B fun p1 H1 f1 s1 e1=>?_;have E1:=E0.same s1;symm;refine zb7 e1 (SqL.of (s1 _ _ ha.1)) (by omega) ?_;symm;rw [decide_eq_true (rfl:st.hs=st.hs)];refine iteF ?_;symm;refine zcT E1 B fun p2 H2 R2=>?_;have s02:=s1.trans R2.same;have E2:=E1.same R2.same;have hb2:=hb.same s02;obtain ⟨zs2,z2,_⟩:=R2.lst;symm;refine zc6 ⟨_,z2⟩ R2.ll hb2.ll (by omega) (fun i hi=>by rw [B.r2 i hi];decide) ?_;symm;rw [decide_eq_true (rfl:st.rs=st.rs)];refine iteF ?_;symm;refine zed E2 B fun p3 H3 f3 s3 e3=>?_;have s03:=s02.trans s3;have E3:=E2.same s3;have hb3:=hb2.same s3;have hpb:=hb.2.2.1;have er:(psb.map V.ref).length=st.rs.length:=by rw [List.length_map];exact hpb
  symm;refine zbv (SqL.of hb3.1) ?_;refine zdH (za3 (SqL.of hb3.1)) (by omega) (fun i=>(st.rs.getD i []).getD 1 0) (fun i H' Q' hi s q'=>?_) fun p4 H4 f4 s4 e4=>?_
  ·have hi':i < st.rs.length:=by omega
   have ex:(psb.map V.ref).getD i .non=.ref (psb.getD i 0):=by
    rw [List.getD_eq_getElem?_getD,List.getElem?_map,List.getElem?_eq_getElem (by omega),List.getD_eq_getElem?_getD,List.getElem?_eq_getElem (by omega)];rfl
   rw [ex];have h2:=B.r2 i hi';have hrow:=s _ _ (hb3.2.2.2 i hi').1;symm;exact q'
  have s04:=s03.trans s4;have E4:=E3.same s4;rw [er,← zc3 hd] at e4;have hll:(zdK st).length=st.rs.length:=by rw [zc3 hd,List.length_map,List.length_range]
  symm;refine zb7 (s4 _ _ e3) (SqL.of e4) (by omega) ?_;symm;rw [decide_eq_true (rfl:zdK st=zdK st)];refine iteF ?_;symm;refine ze1 E4 B fun p5 H5 R5=>?_;have ed:dueS st=[]:=by unfold dueS;rw [zfR hd];rfl
  rw [ed] at R5;have s05:=s04.trans R5.same;have E5:=E4.same R5.same;obtain ⟨zs5,z5,_⟩:=R5.lst;symm;refine zat (by decide) fun p6 H6 f6 s6 e6=>?_;have s06:=s05.trans s6;have E6:=E5.same s6;symm;refine zc6 (ys:=[]) ⟨_,s6 _ _ z5⟩ (R5.ll.same s6) ⟨[],SqL.of e6,rfl,fun i hi=>absurd hi (by simp)⟩ (by simp) (fun i hi=>absurd hi (by simp)) ?_;symm;refine iteF ?_;symm;refine zdT E6 B fun p7 H7 M7=>?_;have e7:=ze4 M7 hd;have s07:=s06.trans M7.same;have E7:=E6.same M7.same;have ha7:=s07 _ _ ha.1;symm;refine ze3 e7 (by omega) ?_;symm;refine iteF ?_;symm;refine zcK E7 B fun H8 s8=>?_;have E8:=E7.same s8;symm;refine iteF ?_;symm;refine zcK E8 B fun H9 s9=>?_;have E9:=E8.same s9;symm;rw [decide_eq_true (rfl:st.step=st.step)];refine iteT ?_;symm;refine zcW E9 B ⟨fun _ H10 s10=>?_,fun nm en z=>absurd z (by rw [hd];simp)⟩;have E10:=E9.same s10;symm;rw [decide_eq_true (rfl:V.non=V.non)];refine iteT ?_;symm;refine zdW E10 B fun H11 s11=>?_;symm;rw [hd];exact q _ ((((s07.trans s8).trans s9).trans s10).trans s11)
theorem ze7 {C:Addr} {H:Hp} {x a b:Addr} {F:Addr→Prop} {st:ExS} {ps:List Addr} {s:Int} {Q:VK} {E:XK} (h:ExAt C H x F st) (B:InB st.hs st.rs) (hd:st.dl=none) (ha:zcR H F a st.hs) (hb:zcD H F b ps st.rs) (hs:s=st.step) (q:∀ H',Same H H'→Q (.bl true) H'):zcQ K C [.ref x,.ref a,.ref b,.int s] H Q E:=by
 subst hs;exact ⟨rfl,x,a,b,F,st,ps,rfl,h,B,hd,ha,hb,q⟩
end
end Prf
namespace Prf
open PySem PySem.Spec PyProof.Rows L2
section
variable {P:Program} {w:World} {K:PySem.W.Frag} {mg:Str→Option Value} {base:Heap} {t:Adr}
local macro_rules | `(tactic| walk_at "rd1")=>`(tactic| (with_reducible refine zcF ?_))
local macro_rules | `(tactic| walk_at "rd1")=>`(tactic| ((with_reducible refine' zey ?h1 ?h2 ?_);(case h1=>walk_at "hp");(case h2=>omega)))
local macro_rules | `(tactic| walk_at "rd1")=>`(tactic| (with_reducible refine zfV ?_))
local macro_rules | `(tactic| walk_at "rd1")=>`(tactic| (with_reducible refine zfU ?_))
local macro_rules | `(tactic| walk_at "rd1")=>`(tactic| (with_reducible refine r_callX ?_))
local macro_rules | `(tactic| walk_at "rd1")=>`(tactic| (with_reducible refine zgP ?_))
local macro_rules | `(tactic| walk_at "rd1")=>`(tactic| (with_reducible refine zcO ?_))
def zdX (K:PySem.W.Frag):Sp:=fun vs H Q _=>vs.length=1∧∃ (a:Addr) (ns:List Int),vs=[.ref a]∧SqL K H a (ns.map V.int)∧ns.length≤63∧∀ H',Q (.bl true) H'
theorem ziH (T:Txt K mg t):FnOk P w K mg base CX0 7 t.f_42 t.d_42 ["_law_script"] (zdX K):=by
 have G_37:=zch (P:=P) (w:=w) (base:=base) T;have G_34:=zfZ (P:=P) (w:=w) (base:=base) T;have G_11:=zcq (P:=P) (w:=w) (base:=base) T;have G_41:=zdN (P:=P) (w:=w) (base:=base) T;have G_39:=zeh (P:=P) (w:=w) (base:=base) T;refine T.F_42.ok sc_42 (fun _ _ _ _ h=>h.1) fun cdv A outer s H vs Q E hr h=>by
  refine ⟨_,(zac (zaJ (i:=1) sc_42.nd rfl (Or.inl rfl) (zaL (zaa (za6 (v:=.int 10) (by rfl) T.v_MOST_PAPERS T.w_MOST_PAPERS) (zaa (za6 (v:=.int 8) (by rfl) T.v_MOST_READERS T.w_MOST_READERS) (zaa (za6 (v:=.int 6) (by rfl) T.v_MOST_HOUSES T.w_MOST_HOUSES) (zaa (za6 (v:=.int 30) (by rfl) T.v_MOST_LIMIT T.w_MOST_LIMIT) (zaa (za6 (v:=.int 100) (by rfl) T.v_MOST_POINTS T.w_MOST_POINTS) (zaa (za6 (v:=.int 100) (by rfl) T.v_MOST_STEP T.w_MOST_STEP) pa_nil))))))))
   (zac (zaQ (zaZ (zap (K:=K) rfl (zam G_37 (hr.mono (by decide)) (by rfl) T.m_37 T.F_37.kp T.b_37 .nil zaE (zaa (pv 1) (zaa (zaL (zaa zae (zaa zae (zaa zae (zaa zae (zaa zae (zaa zae pa_nil))))))) pa_nil))) (fun _=>rfl)))
   (zad (zak zbt)) pss_nil)
   (zac (zaJ (i:=2) sc_42.nd rfl (Or.inl rfl) (zam G_34 (hr.mono (by decide)) (by rfl) T.m_34 T.F_34.kp T.b_34 .nil zaE (zaa (pv 0) (zaa zae pa_nil))))
   (zac (zaQ (zav (zb6 (K:=K) rfl hr.units0) (zbq (op_mod) (zam G_34 (hr.mono (by decide)) (by rfl) T.m_34 T.F_34.kp T.b_34 .nil zaE (zaa (pv 0) (zaa zae pa_nil))) zae) zae (zaq _))
   (zad (zaJ (i:=2) sc_42.nd rfl (Or.inl rfl) (zbd (zar (K:=K) rfl) (zaL (zaa (ziJ un_neg zae) (zaa zae (zaa zae (zaa zae (zaa zae (zaa zae (zaa zae (zaa zae (zaa zae pa_nil)))))))))) (zbq (op_mod) (zbq (op_fdivB) (zam G_34 (hr.mono (by decide)) (by rfl) T.m_34 T.F_34.kp T.b_34 .nil zaE (zaa (pv 0) (zaa zae pa_nil))) zae) zae) (fun _ _=>rfl)))) pss_nil)
   (zac (zaJ (i:=3) sc_42.nd rfl (Or.inl rfl) (zgd T.mk_Exam G_11 (hr.mono (by decide)) (by rfl) T.mg_Exam T.b_11 .nil zaE))
   (zac (zaJ (i:=4) sc_42.nd rfl (Or.inl rfl) (zaL pa_nil))
   (zac (zaJ (i:=5) sc_42.nd rfl (Or.inl rfl) (zaL pa_nil))
   (zac (zaJ (i:=6) sc_42.nd rfl (Or.inl rfl) zae)
   (zac (zaQ (zaZ (zap (K:=K) rfl (zam G_41 (hr.mono (by decide)) (by rfl) T.m_41 T.F_41.kp T.b_41 .nil zaE (zaa (pv 3) (zaa (zaL (zaa zae (zaa (pv 2) pa_nil))) (zaa (zbE (zaT (op_le) zae (pv 2) (zaq _)) (zb0 (zaT (op_le) (pv 2) zae (zaq _)))) (zaa (pv 2) (zaa zck pa_nil)))))) (fun _=>rfl)))
   (zad (zak zbt)) pss_nil)
   (zac (zaQ (zek (zav (op_le) zae (pv 2) (zaq _)) (zc8 (zav (op_le) (pv 2) zae (zaq _)))).pt
   (zad (zaJ (i:=6) sc_42.nd rfl (Or.inl rfl) (pv 2))) pss_nil)
   (zac (zaQ (zaZ (zap (K:=K) rfl (zam G_41 (hr.mono (by decide)) (by rfl) T.m_41 T.F_41.kp T.b_41 .nil zaE (zaa (pv 3) (zaa (zaL (zaa zae (zaa zae (zaa (pv 2) pa_nil)))) (zaa (zbE (zaT (op_le) zae (pv 2) (zaq _)) (zb0 (zaT (op_le) (pv 2) zae (zaq _)))) (zaa zae (zaa zck pa_nil)))))) (fun _=>rfl)))
   (zad (zak zbt)) pss_nil)
   (zac (zaQ (zek (zav (op_le) zae (pv 2) (zaq _)) (zc8 (zav (op_le) (pv 2) zae (zaq _)))).pt
   (zad (zaP (zc2 (K:=K) rfl PySem.F.plainAttrs_list PySem.F.slot_list_append PySem.F.type_list_append mt_append (pv 5) (zaa (zaL (zaa zae (zaa (pv 2) pa_nil))) pa_nil)))) pss_nil)
   (zac (zaQ (zaZ (zap (K:=K) rfl (zam G_41 (hr.mono (by decide)) (by rfl) T.m_41 T.F_41.kp T.b_41 .nil zaE (zaa (pv 3) (zaa (zaL (zaa zae (zaa (pv 2) (zaa zae pa_nil)))) (zaa (zbE (zaT (op_le) zae (pv 2) (zaq _)) (zb0 (zaT (op_le) (pv 2) zae (zaq _)))) (zaa (zbq (op_addG) (zai (zan (K:=K) rfl) (by rfl) T.z_len (by rfl) (zaa (pv 5) pa_nil)) zae) (zaa zck pa_nil)))))) (fun _=>rfl)))
   (zad (zak zbt)) pss_nil)
   (zac (zaQ (zek (zav (op_le) zae (pv 2) (zaq _)) (zc8 (zav (op_le) (pv 2) zae (zaq _)))).pt
   (zad (zaP (zc2 (K:=K) rfl PySem.F.plainAttrs_list PySem.F.slot_list_append PySem.F.type_list_append mt_append (pv 5) (zaa (zaL (zaa (pv 2) (zaa zae pa_nil))) pa_nil)))) pss_nil)
   (zac (zaQ (zaZ (zap (K:=K) rfl (zam G_41 (hr.mono (by decide)) (by rfl) T.m_41 T.F_41.kp T.b_41 .nil zaE (zaa (pv 3) (zaa (zaL (zaa zae (zaa (pv 2) pa_nil))) (zaa (zbE (zaT (op_le) zae (pv 2) (zaq _)) (zb0 (zaT (op_le) (pv 2) zae (zaq _)))) (zaa zae (zaa zck pa_nil)))))) (fun _=>rfl)))
   (zad (zak zbt)) pss_nil)
   (zac (zaQ (zek (zav (op_le) zae (pv 2) (zaq _)) (zc8 (zav (op_le) (pv 2) zae (zaq _)))).pt
   (zad (zaP (zc2 (K:=K) rfl PySem.F.plainAttrs_list PySem.F.slot_list_append PySem.F.type_list_append mt_append (pv 4) (zaa (pv 2) pa_nil)))) pss_nil)
   (zad (zak (zam G_39 (hr.mono (by decide)) (by rfl) T.m_39 T.F_39.kp T.b_39 .nil zaE (zaa (pv 3) (zaa (pv 4) (zaa (pv 5) (zaa (pv 6) pa_nil))))))))))))))))))))))),?_⟩
  obtain ⟨_,a,ns,rfl,hS,hl,q⟩:=h;symm;refine zat (by decide) fun p1 H1 f1 s1 e1=>?_;symm;refine zat (by decide) fun p2 H2 f2 s2 e2=>?_;have e1':H2 p1=some (.lst (([10,8,6,30,100,100]:List Int).map V.int)):=s2 _ _ e1;have e2':H2 p2=some (.lst (([10,8,6,30,100,100]:List Int).map V.int)):=e2;have S2:=s1.trans s2;have hS2:=S2.seq hS;symm;refine zb7 e1' (SqL.of e2') (by decide) ?_;rw [decide_eq_true rfl];symm;refine iteF ?_;walk_at "st";refine zgk ?_;walk_at "st";refine zbw (fun σ H'=>∃ n:Int,σ=[some (.ref a),some (.ref p1),some (.int n),none,none,none,none]∧Same H2 H') ?_ ?_
  ·intro nx' hnx;symm;refine zcB (fun g=>?_) (fun g=>?_)
   ·symm;refine zat (by decide) fun p3 H3 f3 s3 e3=>?_;have hS3:=s3.seq hS2;have e3':H3 p3=some (.lst (([-1,0,1,6,7,30,31,100,101]:List Int).map V.int)):=e3;have l9:([-1,0,1,6,7,30,31,100,101]:List Int).length=9:=rfl;have hm:0≤zfB ns 1 / 2 % 9∧zfB ns 1 / 2 % 9 < 9:=by omega
    symm;exact hnx _ _ ⟨_,rfl,s3⟩
   ·symm;exact hnx _ _ ⟨_,rfl,fun _ _ z=>z⟩
  rintro σ H3 ⟨n,rfl,s3⟩;symm;refine zfN fun x dx H4 fx fdx ne s4 ex=>?_;refine zd8 ex fun H5 F k5 fF E5=>⟨rfl,?_⟩
  have S5:Same H3 H5:=fun b o e=>k5 b o (s4 b o e) (fun z=>by rw [z,fx] at e;cases e) (fun z=>by rw [z,fdx] at e;cases e);have nF:∀ b o,H3 b=some o→¬F b:=fun b o e z=>by
   rcases fF b z with z | z | z
   ·rw [z,fx] at e;cases e
   ·rw [z,fdx] at e;cases e
   ·rw [s4 b o e] at z;cases z
  symm;refine zat (by decide) fun p6 H6 f6 s6 e6=>?_;symm;refine zat (by decide) fun p7 H7 f7 s7 e7=>?_;have B0:InB ([]:List Int) []:=⟨by decide,by decide,fun i hi=>absurd hi (by simp),fun i hi=>absurd hi (by simp),fun i hi=>absurd hi (by simp),fun i hi=>absurd hi (by simp)⟩
  have E6:=E5.same s6;have T0:Br2 t.C_Exam H3 H7 x p6 p7 F ⟨[],[],0,none⟩ [] [] []:=⟨(S5.trans s6).trans s7,nF,E6.same s7,B0,⟨s7 _ _ e6,E5.new f6⟩,⟨e7,E6.new f7,rfl,fun i hi=>absurd hi (by simp)⟩,S5.free f6,S5.free (s6.free f7),zaf e6 f7,fun i hi=>absurd hi (by simp),fun i hi=>absurd hi (by simp)⟩
  walk_at "st";refine zgk ?_;walk_at "st";obtain ⟨F1,st,ps,T1,hdl,hh,hrr,hss⟩:∃ (F1:Addr→Prop) (st:ExS) (ps:List Addr),Br2 t.C_Exam H3 H7 x p6 p7 F1 st ps ([]:List Int) ([]:List (List Int))∧st.dl=none∧st.hs=[]∧st.rs=[]∧st.step=0:=⟨F,_,[],T0,rfl,rfl,rfl,rfl⟩
  clear T0;refine zbw (fun σ H'=>∃ (F:Addr→Prop) (st:ExS) (ps:List Addr),σ=[some (.ref a),some (.ref p1),some (.int n),some (.ref x),some (.ref p6),some (.ref p7),some (.int 0)]∧Br2 t.C_Exam H3 H' x p6 p7 F st ps ([]:List Int) ([]:List (List Int))∧st.dl=none∧st.hs=([]:List Int)∧st.rs=([]:List (List Int))∧st.step=(if 0≤n∧n≤100 then n else 0)) ?_ ?_
  ·intro nx' hnx;have hno:¬st.dl.isSome=true:=by rw [hdl];decide
   have hwhy:((.step n):Dd).why st=if (0≤n∧n≤100) then none else some .bounds:=by
    show whyS st n=_;unfold whyS;rw [if_neg hno]
   have b1:=T1.ir.1;symm;refine zat (by simp) fun p8 H8 f8 s8 e8=>?_;have T2:=T1.grow s8;have b2:=T2.ir.1;have hps:=T1.ir.2.2.1;symm;refine zbM (d:=decide (n≤100)) (fun _ Q' z=>?_) ?_
   ·walk_at "rd";exact z
   symm;refine zby (.step n) e8 T2.ex T2.inb (by rw [hwhy];exact if c:(0≤n∧n≤100) then .inl (if_pos c) else .inr (.inr (if_neg c))) (fun hn H' F' fr E'=>?_) (fun f hf=>?_)
   ·have c:(0≤n∧n≤100):=Decidable.byContradiction fun c=>by rw [hwhy,if_neg c] at hn;cases hn
    have hi':=Dd.inb T2.inb hn;have hv:((decide (0≤n) && decide (n≤100)) && decide (((.step n):Dd).ans st=n))=true:=by
     rw [decide_eq_true c.1,decide_eq_true c.2,decide_eq_true (show ((.step n):Dd).ans st=n from rfl)];rfl
    rw [hv];symm;refine iteF ?_;symm;exact hnx _ _ ⟨F',_,_,rfl,T2.deed fr E' hi',hdl,hh,hrr,(if_pos c).symm⟩
   ·have c:¬(0≤n∧n≤100):=fun c=>by rw [hwhy,if_pos c] at hf;cases hf
    rw [hwhy,if_neg c] at hf
    cases hf
    have hv:((!(decide (0≤n) && decide (n≤100))) && decide ((Rf.bounds).word=(Str.ofString "bounds")))=true:=by
     rw [decide_eq_true (show (Rf.bounds).word=(Str.ofString "bounds") from rfl),Bool.and_true,Bool.not_eq_true',Bool.and_eq_false_iff]
     by_cases c1:0≤n
     ·exact .inr (decide_eq_false fun z=>c ⟨c1,z⟩)
     ·exact .inl (decide_eq_false c1)
    rw [hv];symm;refine iteF ?_;symm;exact hnx _ _ ⟨F1,st,_,rfl,T2,hdl,hh,hrr,by rw [hss,if_neg c]⟩
  clear T1 hdl hh hrr hss;rintro σ H9 ⟨F1,st,ps,rfl,T1,hdl,hh,hrr,hss⟩;walk_at "st";refine zbw (fun σ H'=>∃ (F:Addr→Prop) (st:ExS) (ps:List Addr),σ=[some (.ref a),some (.ref p1),some (.int n),some (.ref x),some (.ref p6),some (.ref p7),some (.int (if 0≤n∧n≤100 then n else 0))]∧Br2 t.C_Exam H3 H' x p6 p7 F st ps ([]:List Int) ([]:List (List Int))∧st.dl=none∧st.hs=([]:List Int)∧st.rs=([]:List (List Int))∧st.step=(if 0≤n∧n≤100 then n else 0)) ?_ ?_
  ·intro nx' hnx;have b1:=T1.ir.1;have b3:=T1.ih.1;symm;refine zb3 (d:=decide (n≤100)) (fun _ Q' z=>?_) ?_
   ·walk_at "rd";exact z
   by_cases c:(0≤n∧n≤100)
   ·rw [decide_eq_true c.1,decide_eq_true c.2];refine iteT ?_;symm;exact hnx _ _ ⟨F1,st,ps,by rw [if_pos c];rfl,T1,hdl,hh,hrr,hss⟩
   ·rw [show (decide (0≤n) && decide (n≤100))=false from ?_]
    ·refine iteF ?_;symm;exact hnx _ _ ⟨F1,st,ps,by rw [if_neg c],T1,hdl,hh,hrr,hss⟩
    ·rw [Bool.and_eq_false_iff]
     by_cases c1:0≤n
     ·exact .inr (decide_eq_false fun z=>c ⟨c1,z⟩)
     ·exact .inl (decide_eq_false c1)
  clear T1 hdl hh hrr hss;rintro σ H9 ⟨F1,st,ps,rfl,T1,hdl,hh,hrr,hss⟩;walk_at "st";refine zbw (fun σ H'=>∃ (F:Addr→Prop) (st:ExS) (ps:List Addr),σ=[some (.ref a),some (.ref p1),some (.int n),some (.ref x),some (.ref p6),some (.ref p7),some (.int (if 0≤n∧n≤100 then n else 0))]∧Br2 t.C_Exam H3 H' x p6 p7 F st ps ([]:List Int) ([]:List (List Int))∧st.dl=none∧st.hs=([]:List Int)∧st.rs=(if 0≤n∧n≤30 then [[0,n]] else [])∧st.step=(if 0≤n∧n≤100 then n else 0)) ?_ ?_
  ·intro nx' hnx;have hno:¬st.dl.isSome=true:=by rw [hdl];decide
   have hwhy:((.reader 0 n):Dd).why st=if (0≤n∧n≤30) then none else some .bounds:=by
    show whyR st 0 n=_;unfold whyR;rw [if_neg hno,if_pos (by decide),if_pos (show st.rs.length < 8 by rw [hrr];decide)]
   have b1:=T1.ir.1;symm;refine zat (by simp) fun p8 H8 f8 s8 e8=>?_;have T2:=T1.grow s8;have b2:=T2.ir.1;have hps:=T1.ir.2.2.1;symm;refine zbM (d:=decide (n≤30)) (fun _ Q' z=>?_) ?_
   ·walk_at "rd";exact z
   symm;refine zby (.reader 0 n) e8 T2.ex T2.inb (by rw [hwhy];exact if c:(0≤n∧n≤30) then .inl (if_pos c) else .inr (.inr (if_neg c))) (fun hn H' F' fr E'=>?_) (fun f hf=>?_)
   ·have c:(0≤n∧n≤30):=Decidable.byContradiction fun c=>by rw [hwhy,if_neg c] at hn;cases hn
    have hi':=Dd.inb T2.inb hn;have hv:((decide (0≤n) && decide (n≤30)) && decide (((.reader 0 n):Dd).ans st=1))=true:=by
     rw [decide_eq_true c.1,decide_eq_true c.2,decide_eq_true (show ((.reader 0 n):Dd).ans st=1 from (by show ((st.rs.length:Int)+1)=1;rw [hrr];rfl))];rfl
    rw [hv];symm;refine iteF ?_;symm;exact hnx _ _ ⟨F',_,_,rfl,T2.deed fr E' hi',hdl,hh,(by show st.rs++[[0,n]]=_;rw [hrr,if_pos c];rfl),hss⟩
   ·have c:¬(0≤n∧n≤30):=fun c=>by rw [hwhy,if_pos c] at hf;cases hf
    rw [hwhy,if_neg c] at hf
    cases hf
    have hv:((!(decide (0≤n) && decide (n≤30))) && decide ((Rf.bounds).word=(Str.ofString "bounds")))=true:=by
     rw [decide_eq_true (show (Rf.bounds).word=(Str.ofString "bounds") from rfl),Bool.and_true,Bool.not_eq_true',Bool.and_eq_false_iff]
     by_cases c1:0≤n
     ·exact .inr (decide_eq_false fun z=>c ⟨c1,z⟩)
     ·exact .inl (decide_eq_false c1)
    rw [hv];symm;refine iteF ?_;symm;exact hnx _ _ ⟨F1,st,_,rfl,T2,hdl,hh,by rw [hrr,if_neg c],hss⟩
  clear T1 hdl hh hrr hss;rintro σ H9 ⟨F1,st,ps,rfl,T1,hdl,hh,hrr,hss⟩;walk_at "st";refine zbw (fun σ H'=>∃ (F:Addr→Prop) (st:ExS) (ps:List Addr),σ=[some (.ref a),some (.ref p1),some (.int n),some (.ref x),some (.ref p6),some (.ref p7),some (.int (if 0≤n∧n≤100 then n else 0))]∧Br2 t.C_Exam H3 H' x p6 p7 F st ps ([]:List Int) (if 0≤n∧n≤30 then [[0,n]] else [])∧st.dl=none∧st.hs=([]:List Int)∧st.rs=(if 0≤n∧n≤30 then [[0,n]] else [])∧st.step=(if 0≤n∧n≤100 then n else 0)) ?_ ?_
  ·intro nx' hnx;have b1:=T1.ir.1;have b3:=T1.ih.1;symm;refine zb3 (d:=decide (n≤30)) (fun _ Q' z=>?_) ?_
   ·walk_at "rd";exact z
   by_cases c:(0≤n∧n≤30)
   ·rw [decide_eq_true c.1,decide_eq_true c.2];refine iteT ?_;symm;refine zat (by simp) fun p8 H8 f8 s8 e8=>?_;have hpl:=T1.ir.2.2.1;have z8:ps.length=0:=hpl;symm;refine zbe (s8 _ _ b1) (by rw [List.length_map];omega) fun H9 b9 e9=>?_;symm;have T3:=T1.reader (row:=[0,n]) f8 s8 e8 b9 e9;exact hnx _ _ ⟨F1,st,_,rfl,by rw [if_pos c];exact T3,hdl,hh,hrr,hss⟩
   ·rw [show (decide (0≤n) && decide (n≤30))=false from ?_]
    ·refine iteF ?_;symm;exact hnx _ _ ⟨F1,st,ps,rfl,by rw [if_neg c];exact T1,hdl,hh,hrr,hss⟩
    ·rw [Bool.and_eq_false_iff]
     by_cases c1:0≤n
     ·exact .inr (decide_eq_false fun z=>c ⟨c1,z⟩)
     ·exact .inl (decide_eq_false c1)
  clear T1 hdl hh hrr hss;rintro σ H9 ⟨F1,st,ps,rfl,T1,hdl,hh,hrr,hss⟩;walk_at "st";refine zbw (fun σ H'=>∃ (F:Addr→Prop) (st:ExS) (ps:List Addr),σ=[some (.ref a),some (.ref p1),some (.int n),some (.ref x),some (.ref p6),some (.ref p7),some (.int (if 0≤n∧n≤100 then n else 0))]∧Br2 t.C_Exam H3 H' x p6 p7 F st ps ([]:List Int) (if 0≤n∧n≤30 then [[0,n]] else [])∧st.dl=none∧st.hs=([]:List Int)∧st.rs=((if 0≤n∧n≤30 then [[0,n]] else [])++if 0≤n∧n≤6 then [[n,5]] else [])∧st.step=(if 0≤n∧n≤100 then n else 0)) ?_ ?_
  ·intro nx' hnx;have hno:¬st.dl.isSome=true:=by rw [hdl];decide
   have hwhy:((.reader n 5):Dd).why st=if (0≤n∧n≤6) then none else some .unknown:=by
    show whyR st n 5=_;unfold whyR;rw [if_neg hno,if_pos (show (0:Int)≤5∧(5:Int)≤30 by decide),if_pos (show st.rs.length < 8 by rw [hrr];split <;> simp)]
   have b1:=T1.ir.1;symm;refine zat (by simp) fun p8 H8 f8 s8 e8=>?_;have T2:=T1.grow s8;have b2:=T2.ir.1;have hps:=T1.ir.2.2.1;symm;refine zbM (d:=decide (n≤6)) (fun _ Q' z=>?_) ?_
   ·walk_at "rd";exact z
   symm;refine zby (.reader n 5) e8 T2.ex T2.inb (by rw [hwhy];exact if c:(0≤n∧n≤6) then .inl (if_pos c) else .inr (.inl (if_neg c))) (fun hn H' F' fr E'=>?_) (fun f hf=>?_)
   ·have c:(0≤n∧n≤6):=Decidable.byContradiction fun c=>by rw [hwhy,if_neg c] at hn;cases hn
    have hi':=Dd.inb T2.inb hn;have hv:((decide (0≤n) && decide (n≤6)) && decide (((.reader n 5):Dd).ans st=((ps.length:Int)+1)))=true:=by
     rw [decide_eq_true c.1,decide_eq_true c.2,decide_eq_true (show ((.reader n 5):Dd).ans st=((ps.length:Int)+1) from (by show ((st.rs.length:Int)+1)=_;rw [hrr,hps]))];rfl
    rw [hv];symm;refine iteF ?_;symm;exact hnx _ _ ⟨F',_,_,rfl,T2.deed fr E' hi',hdl,hh,(by show st.rs++[[n,5]]=_;rw [hrr,if_pos c]),hss⟩
   ·have c:¬(0≤n∧n≤6):=fun c=>by rw [hwhy,if_pos c] at hf;cases hf
    rw [hwhy,if_neg c] at hf
    cases hf
    have hv:((!(decide (0≤n) && decide (n≤6))) && decide ((Rf.unknown).word=(Str.ofString "unknown")))=true:=by
     rw [decide_eq_true (show (Rf.unknown).word=(Str.ofString "unknown") from rfl),Bool.and_true,Bool.not_eq_true',Bool.and_eq_false_iff]
     by_cases c1:0≤n
     ·exact .inr (decide_eq_false fun z=>c ⟨c1,z⟩)
     ·exact .inl (decide_eq_false c1)
    rw [hv];symm;refine iteF ?_;symm;exact hnx _ _ ⟨F1,st,_,rfl,T2,hdl,hh,by rw [hrr,if_neg c,List.append_nil],hss⟩
  clear T1 hdl hh hrr hss;rintro σ H9 ⟨F1,st,ps,rfl,T1,hdl,hh,hrr,hss⟩;walk_at "st";refine zbw (fun σ H'=>∃ (F:Addr→Prop) (st:ExS) (ps:List Addr),σ=[some (.ref a),some (.ref p1),some (.int n),some (.ref x),some (.ref p6),some (.ref p7),some (.int (if 0≤n∧n≤100 then n else 0))]∧Br2 t.C_Exam H3 H' x p6 p7 F st ps ([]:List Int) ((if 0≤n∧n≤30 then [[0,n]] else [])++if 0≤n∧n≤6 then [[n,5]] else [])∧st.dl=none∧st.hs=([]:List Int)∧st.rs=((if 0≤n∧n≤30 then [[0,n]] else [])++if 0≤n∧n≤6 then [[n,5]] else [])∧st.step=(if 0≤n∧n≤100 then n else 0)) ?_ ?_
  ·intro nx' hnx;have b1:=T1.ir.1;have b3:=T1.ih.1;symm;refine zb3 (d:=decide (n≤6)) (fun _ Q' z=>?_) ?_
   ·walk_at "rd";exact z
   by_cases c:(0≤n∧n≤6)
   ·rw [decide_eq_true c.1,decide_eq_true c.2];refine iteT ?_;symm;refine zat (by simp) fun p8 H8 f8 s8 e8=>?_;have hpl:=T1.ir.2.2.1;have z8:ps.length≤1:=by rw [hpl];split <;> simp
    symm;refine zbe (s8 _ _ b1) (by rw [List.length_map];omega) fun H9 b9 e9=>?_;symm;have T3:=T1.reader (row:=[n,5]) f8 s8 e8 b9 e9;exact hnx _ _ ⟨F1,st,_,rfl,by rw [if_pos c];exact T3,hdl,hh,hrr,hss⟩
   ·rw [show (decide (0≤n) && decide (n≤6))=false from ?_]
    ·refine iteF ?_;symm;exact hnx _ _ ⟨F1,st,ps,rfl,by rw [if_neg c,List.append_nil];exact T1,hdl,hh,hrr,hss⟩
    ·rw [Bool.and_eq_false_iff]
     by_cases c1:0≤n
     ·exact .inr (decide_eq_false fun z=>c ⟨c1,z⟩)
     ·exact .inl (decide_eq_false c1)
  clear T1 hdl hh hrr hss;rintro σ H9 ⟨F1,st,ps,rfl,T1,hdl,hh,hrr,hss⟩;walk_at "st";refine zbw (fun σ H'=>∃ (F:Addr→Prop) (st:ExS) (ps:List Addr),σ=[some (.ref a),some (.ref p1),some (.int n),some (.ref x),some (.ref p6),some (.ref p7),some (.int (if 0≤n∧n≤100 then n else 0))]∧Br2 t.C_Exam H3 H' x p6 p7 F st ps ([]:List Int) ((if 0≤n∧n≤30 then [[0,n]] else [])++if 0≤n∧n≤6 then [[n,5]] else [])∧st.dl=none∧st.hs=(if 1≤n∧n≤6 then [n] else [])∧st.rs=((if 0≤n∧n≤30 then [[0,n]] else [])++if 0≤n∧n≤6 then [[n,5]] else [])∧st.step=(if 0≤n∧n≤100 then n else 0)) ?_ ?_
  ·intro nx' hnx;have hno:¬st.dl.isSome=true:=by rw [hdl];decide
   have hwhy:((.paper n):Dd).why st=if (1≤n∧n≤6) then none else some .unknown:=by
    show whyP st n=_;unfold whyP;rw [if_neg hno,if_pos (show st.hs.length < 10 by rw [hh];decide)]
   have b1:=T1.ir.1;symm;refine zat (by simp) fun p8 H8 f8 s8 e8=>?_;have T2:=T1.grow s8;have b2:=T2.ir.1;have hps:=T1.ir.2.2.1;symm;refine zbM (d:=decide (n≤6)) (fun _ Q' z=>?_) ?_
   ·walk_at "rd";exact z
   symm;refine zby (.paper n) e8 T2.ex T2.inb (by rw [hwhy];exact if c:(1≤n∧n≤6) then .inl (if_pos c) else .inr (.inl (if_neg c))) (fun hn H' F' fr E'=>?_) (fun f hf=>?_)
   ·have c:(1≤n∧n≤6):=Decidable.byContradiction fun c=>by rw [hwhy,if_neg c] at hn;cases hn
    have hi':=Dd.inb T2.inb hn;have hv:((decide (1≤n) && decide (n≤6)) && decide (((.paper n):Dd).ans st=1))=true:=by
     rw [decide_eq_true c.1,decide_eq_true c.2,decide_eq_true (show ((.paper n):Dd).ans st=1 from (by show ((st.hs.length:Int)+1)=1;rw [hh];rfl))];rfl
    rw [hv];symm;refine iteF ?_;symm;exact hnx _ _ ⟨F',_,_,rfl,T2.deed fr E' hi',hdl,(by show st.hs++[n]=_;rw [hh,if_pos c];rfl),hrr,hss⟩
   ·have c:¬(1≤n∧n≤6):=fun c=>by rw [hwhy,if_pos c] at hf;cases hf
    rw [hwhy,if_neg c] at hf
    cases hf
    have hv:((!(decide (1≤n) && decide (n≤6))) && decide ((Rf.unknown).word=(Str.ofString "unknown")))=true:=by
     rw [decide_eq_true (show (Rf.unknown).word=(Str.ofString "unknown") from rfl),Bool.and_true,Bool.not_eq_true',Bool.and_eq_false_iff]
     by_cases c1:1≤n
     ·exact .inr (decide_eq_false fun z=>c ⟨c1,z⟩)
     ·exact .inl (decide_eq_false c1)
    rw [hv];symm;refine iteF ?_;symm;exact hnx _ _ ⟨F1,st,_,rfl,T2,hdl,by rw [hh,if_neg c],hrr,hss⟩
  clear T1 hdl hh hrr hss;rintro σ H9 ⟨F1,st,ps,rfl,T1,hdl,hh,hrr,hss⟩;walk_at "st";refine zbw (fun σ H'=>∃ (F:Addr→Prop) (st:ExS) (ps:List Addr),σ=[some (.ref a),some (.ref p1),some (.int n),some (.ref x),some (.ref p6),some (.ref p7),some (.int (if 0≤n∧n≤100 then n else 0))]∧Br2 t.C_Exam H3 H' x p6 p7 F st ps (if 1≤n∧n≤6 then [n] else []) ((if 0≤n∧n≤30 then [[0,n]] else [])++if 0≤n∧n≤6 then [[n,5]] else [])∧st.dl=none∧st.hs=(if 1≤n∧n≤6 then [n] else [])∧st.rs=((if 0≤n∧n≤30 then [[0,n]] else [])++if 0≤n∧n≤6 then [[n,5]] else [])∧st.step=(if 0≤n∧n≤100 then n else 0)) ?_ ?_
  ·intro nx' hnx;have b1:=T1.ir.1;have b3:=T1.ih.1;symm;refine zb3 (d:=decide (n≤6)) (fun _ Q' z=>?_) ?_
   ·walk_at "rd";exact z
   by_cases c:(1≤n∧n≤6)
   ·rw [decide_eq_true c.1,decide_eq_true c.2];refine iteT ?_;symm;refine zbe b3 (by decide) fun H9 b9 e9=>?_;symm;have T3:=T1.paper (h:=n) b9 e9;exact hnx _ _ ⟨F1,st,_,rfl,by rw [if_pos c];exact T3,hdl,hh,hrr,hss⟩
   ·rw [show (decide (1≤n) && decide (n≤6))=false from ?_]
    ·refine iteF ?_;symm;exact hnx _ _ ⟨F1,st,ps,rfl,by rw [if_neg c];exact T1,hdl,hh,hrr,hss⟩
    ·rw [Bool.and_eq_false_iff]
     by_cases c1:1≤n
     ·exact .inr (decide_eq_false fun z=>c ⟨c1,z⟩)
     ·exact .inl (decide_eq_false c1)
  clear T1 hdl hh hrr hss;rintro σ H9 ⟨F1,st,ps,rfl,T1,hdl,hh,hrr,hss⟩;walk_at "st";symm;refine ze7 T1.ex T1.inb hdl (by rw [hh];exact T1.ih) (by rw [hrr];exact T1.ir) hss.symm fun H10 s10=>?_;exact q _
theorem law_start {a:Addr} {ns:List Int} {H:Hp} (hl:ns.length≤63) (hS:SqL K H a (ns.map V.int)):zdX K [.ref a] H (fun v _=>v=.bl true) fun _ _ _=>False:=⟨rfl,a,ns,rfl,hS,hl,fun _=>rfl⟩
end
theorem ziI {l:PySem.W.OpenLaw} {w:World} {K:PySem.W.Frag} {h:Heap} {mg:Str→Option Value} {fa:Addr} (X:K.In h) (G:h.Ns mainGlobals mg) (hfa:mg "law" = some (.ref fa))
  {C_Exam:Addr} (aC_Exam:PySem.W.nsIn K mainGlobals "Exam" = some (some (.ref C_Exam)))
  {tk_MOST_HOUSES:Tok}
  {tk_MOST_PAPERS:Tok}
  {tk_MOST_LIMIT:Tok}
  {tk_MOST_READERS:Tok}
  {tk_MOST_STEP:Tok}
  {tk_MOST_POINTS:Tok}
  {X_OutOfTime X_UnknownNumber X_OutOfBounds X_Full X_ReadError:Addr}
  (a0:PySem.W.nsIn K mainGlobals "_law_whole" = some (some (.ref f0))) (l0:K.lookup f0=some ⟨oc0,od0,.func (PySem.W.fnOf "_law_whole" "_law_whole" (zaj s_35) (zag s_35) (zab s_35) .none kV0 dc0 pm0 an0 cd0 ct0),sl0⟩) (c0:PySem.W.codeIn K cd0 "_law_whole" = true) (k0:PySem.W.keepIn K (.ref f0)=true)
  (a1:PySem.W.nsIn K mainGlobals "_law_row" = some (some (.ref f1))) (l1:K.lookup f1=some ⟨oc1,od1,.func (PySem.W.fnOf "_law_row" "_law_row" (zaj s_37) (zag s_37) (zab s_37) .none kV1 dc1 pm1 an1 cd1 ct1),sl1⟩) (c1:PySem.W.codeIn K cd1 "_law_row" = true) (k1:PySem.W.keepIn K (.ref f1)=true)
  (a2:PySem.W.nsIn K mainGlobals "_law_at" = some (some (.ref f2))) (l2:K.lookup f2=some ⟨oc2,od2,.func (PySem.W.fnOf "_law_at" "_law_at" (zaj s_34) (zag s_34) (zab s_34) .none kV2 dc2 pm2 an2 cd2 ct2),sl2⟩) (c2:PySem.W.codeIn K cd2 "_law_at" = true) (k2:PySem.W.keepIn K (.ref f2)=true)
  (a3:PySem.W.findIn K (.ref C_Exam) "__init__" = some (some (.ref f3))) (i3:PySem.W.isFn K (.ref f3)=true) (l3:K.lookup f3=some ⟨oc3,od3,.func (PySem.W.fnOf "__init__" "Exam.__init__" (zaj s_11) (zag s_11) (zab s_11) .none kV3 dc3 pm3 an3 cd3 ct3),sl3⟩) (c3:PySem.W.codeIn K cd3 "Exam.__init__" = true) (k3:PySem.W.keepIn K (.ref f3)=true)
  (a4:PySem.W.findIn K (.ref C_Exam) "refuse_behind_dealing" = some (some (.ref f4))) (i4:PySem.W.isFn K (.ref f4)=true) (l4:K.lookup f4=some ⟨oc4,od4,.func (PySem.W.fnOf "refuse_behind_dealing" "Exam.refuse_behind_dealing" (zaj s_26) (zag s_26) (zab s_26) .none kV4 dc4 pm4 an4 cd4 ct4),sl4⟩) (c4:PySem.W.codeIn K cd4 "Exam.refuse_behind_dealing" = true) (k4:PySem.W.keepIn K (.ref f4)=true)
  (a5:PySem.W.nsIn K mainGlobals "refuse_unknown" = some (some (.ref f5))) (l5:K.lookup f5=some ⟨oc5,od5,.func (PySem.W.fnOf "refuse_unknown" "refuse_unknown" (zaj s_8) (zag s_8) (zab s_8) .none kV5 dc5 pm5 an5 cd5 ct5),sl5⟩) (c5:PySem.W.codeIn K cd5 "refuse_unknown" = true) (k5:PySem.W.keepIn K (.ref f5)=true)
  (a6:PySem.W.nsIn K mainGlobals "refuse_full" = some (some (.ref f6))) (l6:K.lookup f6=some ⟨oc6,od6,.func (PySem.W.fnOf "refuse_full" "refuse_full" (zaj s_10) (zag s_10) (zab s_10) .none kV6 dc6 pm6 an6 cd6 ct6),sl6⟩) (c6:PySem.W.codeIn K cd6 "refuse_full" = true) (k6:PySem.W.keepIn K (.ref f6)=true)
  (a7:PySem.W.findIn K (.ref C_Exam) "bring_paper" = some (some (.ref f7))) (i7:PySem.W.isFn K (.ref f7)=true) (l7:K.lookup f7=some ⟨oc7,od7,.func (PySem.W.fnOf "bring_paper" "Exam.bring_paper" (zaj s_12) (zag s_12) (zab s_12) .none kV7 dc7 pm7 an7 cd7 ct7),sl7⟩) (c7:PySem.W.codeIn K cd7 "Exam.bring_paper" = true) (k7:PySem.W.keepIn K (.ref f7)=true)
  (a8:PySem.W.nsIn K mainGlobals "refuse_out_of_bounds" = some (some (.ref f8))) (l8:K.lookup f8=some ⟨oc8,od8,.func (PySem.W.fnOf "refuse_out_of_bounds" "refuse_out_of_bounds" (zaj s_9) (zag s_9) (zab s_9) .none kV8 dc8 pm8 an8 cd8 ct8),sl8⟩) (c8:PySem.W.codeIn K cd8 "refuse_out_of_bounds" = true) (k8:PySem.W.keepIn K (.ref f8)=true)
  (a9:PySem.W.findIn K (.ref C_Exam) "bring_reader" = some (some (.ref f9))) (i9:PySem.W.isFn K (.ref f9)=true) (l9:K.lookup f9=some ⟨oc9,od9,.func (PySem.W.fnOf "bring_reader" "Exam.bring_reader" (zaj s_13) (zag s_13) (zab s_13) .none kV9 dc9 pm9 an9 cd9 ct9),sl9⟩) (c9:PySem.W.codeIn K cd9 "Exam.bring_reader" = true) (k9:PySem.W.keepIn K (.ref f9)=true)
  (a10:PySem.W.findIn K (.ref C_Exam) "set_step" = some (some (.ref f10))) (i10:PySem.W.isFn K (.ref f10)=true) (l10:K.lookup f10=some ⟨oc10,od10,.func (PySem.W.fnOf "set_step" "Exam.set_step" (zaj s_14) (zag s_14) (zab s_14) .none kV10 dc10 pm10 an10 cd10 ct10),sl10⟩) (c10:PySem.W.codeIn K cd10 "Exam.set_step" = true) (k10:PySem.W.keepIn K (.ref f10)=true)
  (a11:PySem.W.nsIn K mainGlobals "_law_takes" = some (some (.ref f11))) (l11:K.lookup f11=some ⟨oc11,od11,.func (PySem.W.fnOf "_law_takes" "_law_takes" (zaj s_41) (zag s_41) (zab s_41) .none kV11 dc11 pm11 an11 cd11 ct11),sl11⟩) (c11:PySem.W.codeIn K cd11 "_law_takes" = true) (k11:PySem.W.keepIn K (.ref f11)=true)
  (a12:PySem.W.nsIn K mainGlobals "_law_rows" = some (some (.ref f12))) (l12:K.lookup f12=some ⟨oc12,od12,.func (PySem.W.fnOf "_law_rows" "_law_rows" (zaj s_38) (zag s_38) (zab s_38) .none kV12 dc12 pm12 an12 cd12 ct12),sl12⟩) (c12:PySem.W.codeIn K cd12 "_law_rows" = true) (k12:PySem.W.keepIn K (.ref f12)=true)
  (a13:PySem.W.findIn K (.ref C_Exam) "readers" = some (some (.ref f13))) (i13:PySem.W.isFn K (.ref f13)=true) (l13:K.lookup f13=some ⟨oc13,od13,.func (PySem.W.fnOf "readers" "Exam.readers" (zaj s_18) (zag s_18) (zab s_18) .none kV13 dc13 pm13 an13 cd13 ct13),sl13⟩) (c13:PySem.W.codeIn K cd13 "Exam.readers" = true) (k13:PySem.W.keepIn K (.ref f13)=true)
  (a14:PySem.W.findIn K (.ref C_Exam) "papers" = some (some (.ref f14))) (i14:PySem.W.isFn K (.ref f14)=true) (l14:K.lookup f14=some ⟨oc14,od14,.func (PySem.W.fnOf "papers" "Exam.papers" (zaj s_17) (zag s_17) (zab s_17) .none kV14 dc14 pm14 an14 cd14 ct14),sl14⟩) (c14:PySem.W.codeIn K cd14 "Exam.papers" = true) (k14:PySem.W.keepIn K (.ref f14)=true)
  (a15:PySem.W.findIn K (.ref C_Exam) "due_readers" = some (some (.ref f15))) (i15:PySem.W.isFn K (.ref f15)=true) (l15:K.lookup f15=some ⟨oc15,od15,.func (PySem.W.fnOf "due_readers" "Exam.due_readers" (zaj s_29) (zag s_29) (zab s_29) .none kV15 dc15 pm15 an15 cd15 ct15),sl15⟩) (c15:PySem.W.codeIn K cd15 "Exam.due_readers" = true) (k15:PySem.W.keepIn K (.ref f15)=true)
  (a16:PySem.W.findIn K (.ref C_Exam) "due" = some (some (.ref f16))) (i16:PySem.W.isFn K (.ref f16)=true) (l16:K.lookup f16=some ⟨oc16,od16,.func (PySem.W.fnOf "due" "Exam.due" (zaj s_23) (zag s_23) (zab s_23) .none kV16 dc16 pm16 an16 cd16 ct16),sl16⟩) (c16:PySem.W.codeIn K cd16 "Exam.due" = true) (k16:PySem.W.keepIn K (.ref f16)=true)
  (a17:PySem.W.nsIn K mainGlobals "times_in" = some (some (.ref f17))) (l17:K.lookup f17=some ⟨oc17,od17,.func (PySem.W.fnOf "times_in" "times_in" (zaj s_2) (zag s_2) (zab s_2) .none kV17 dc17 pm17 an17 cd17 ct17),sl17⟩) (c17:PySem.W.codeIn K cd17 "times_in" = true) (k17:PySem.W.keepIn K (.ref f17)=true)
  (a18:PySem.W.nsIn K mainGlobals "left_after" = some (some (.ref f18))) (l18:K.lookup f18=some ⟨oc18,od18,.func (PySem.W.fnOf "left_after" "left_after" (zaj s_1) (zag s_1) (zab s_1) .none kV18 dc18 pm18 an18 cd18 ct18),sl18⟩) (c18:PySem.W.codeIn K cd18 "left_after" = true) (k18:PySem.W.keepIn K (.ref f18)=true)
  (a19:PySem.W.findIn K (.ref C_Exam) "left" = some (some (.ref f19))) (i19:PySem.W.isFn K (.ref f19)=true) (l19:K.lookup f19=some ⟨oc19,od19,.func (PySem.W.fnOf "left" "Exam.left" (zaj s_25) (zag s_25) (zab s_25) .none kV19 dc19 pm19 an19 cd19 ct19),sl19⟩) (c19:PySem.W.codeIn K cd19 "Exam.left" = true) (k19:PySem.W.keepIn K (.ref f19)=true)
  (a20:PySem.W.findIn K (.ref C_Exam) "step" = some (some (.ref f20))) (i20:PySem.W.isFn K (.ref f20)=true) (l20:K.lookup f20=some ⟨oc20,od20,.func (PySem.W.fnOf "step" "Exam.step" (zaj s_19) (zag s_19) (zab s_19) .none kV20 dc20 pm20 an20 cd20 ct20),sl20⟩) (c20:PySem.W.codeIn K cd20 "Exam.step" = true) (k20:PySem.W.keepIn K (.ref f20)=true)
  (a21:PySem.W.nsIn K mainGlobals "_law_none" = some (some (.ref f21))) (l21:K.lookup f21=some ⟨oc21,od21,.func (PySem.W.fnOf "_law_none" "_law_none" (zaj s_40) (zag s_40) (zab s_40) .none kV21 dc21 pm21 an21 cd21 ct21),sl21⟩) (c21:PySem.W.codeIn K cd21 "_law_none" = true) (k21:PySem.W.keepIn K (.ref f21)=true)
  (a22:PySem.W.findIn K (.ref C_Exam) "points_for" = some (some (.ref f22))) (i22:PySem.W.isFn K (.ref f22)=true) (l22:K.lookup f22=some ⟨oc22,od22,.func (PySem.W.fnOf "points_for" "Exam.points_for" (zaj s_30) (zag s_30) (zab s_30) .none kV22 dc22 pm22 an22 cd22 ct22),sl22⟩) (c22:PySem.W.codeIn K cd22 "Exam.points_for" = true) (k22:PySem.W.keepIn K (.ref f22)=true)
  (a23:PySem.W.nsIn K mainGlobals "greatest_divisor" = some (some (.ref f23))) (l23:K.lookup f23=some ⟨oc23,od23,.func (PySem.W.fnOf "greatest_divisor" "greatest_divisor" (zaj s_4) (zag s_4) (zab s_4) .none kV23 dc23 pm23 an23 cd23 ct23),sl23⟩) (c23:PySem.W.codeIn K cd23 "greatest_divisor" = true) (k23:PySem.W.keepIn K (.ref f23)=true)
  (a24:PySem.W.nsIn K mainGlobals "lowest" = some (some (.ref f24))) (l24:K.lookup f24=some ⟨oc24,od24,.func (PySem.W.fnOf "lowest" "lowest" (zaj s_3) (zag s_3) (zab s_3) .none kV24 dc24 pm24 an24 cd24 ct24),sl24⟩) (c24:PySem.W.codeIn K cd24 "lowest" = true) (k24:PySem.W.keepIn K (.ref f24)=true)
  (a25:PySem.W.nsIn K mainGlobals "middle_of" = some (some (.ref f25))) (l25:K.lookup f25=some ⟨oc25,od25,.func (PySem.W.fnOf "middle_of" "middle_of" (zaj s_7) (zag s_7) (zab s_7) .none kV25 dc25 pm25 an25 cd25 ct25),sl25⟩) (c25:PySem.W.codeIn K cd25 "middle_of" = true) (k25:PySem.W.keepIn K (.ref f25)=true)
  (a26:PySem.W.nsIn K mainGlobals "agree" = some (some (.ref f26))) (l26:K.lookup f26=some ⟨oc26,od26,.func (PySem.W.fnOf "agree" "agree" (zaj s_5) (zag s_5) (zab s_5) .none kV26 dc26 pm26 an26 cd26 ct26),sl26⟩) (c26:PySem.W.codeIn K cd26 "agree" = true) (k26:PySem.W.keepIn K (.ref f26)=true)
  (a27:PySem.W.nsIn K mainGlobals "mark_of" = some (some (.ref f27))) (l27:K.lookup f27=some ⟨oc27,od27,.func (PySem.W.fnOf "mark_of" "mark_of" (zaj s_6) (zag s_6) (zab s_6) .none kV27 dc27 pm27 an27 cd27 ct27),sl27⟩) (c27:PySem.W.codeIn K cd27 "mark_of" = true) (k27:PySem.W.keepIn K (.ref f27)=true)
  (a28:PySem.W.findIn K (.ref C_Exam) "mark_for" = some (some (.ref f28))) (i28:PySem.W.isFn K (.ref f28)=true) (l28:K.lookup f28=some ⟨oc28,od28,.func (PySem.W.fnOf "mark_for" "Exam.mark_for" (zaj s_31) (zag s_31) (zab s_31) .none kV28 dc28 pm28 an28 cd28 ct28),sl28⟩) (c28:PySem.W.codeIn K cd28 "Exam.mark_for" = true) (k28:PySem.W.keepIn K (.ref f28)=true)
  (a29:PySem.W.findIn K (.ref C_Exam) "marks" = some (some (.ref f29))) (i29:PySem.W.isFn K (.ref f29)=true) (l29:K.lookup f29=some ⟨oc29,od29,.func (PySem.W.fnOf "marks" "Exam.marks" (zaj s_24) (zag s_24) (zab s_24) .none kV29 dc29 pm29 an29 cd29 ct29),sl29⟩) (c29:PySem.W.codeIn K cd29 "Exam.marks" = true) (k29:PySem.W.keepIn K (.ref f29)=true)
  (a30:PySem.W.nsIn K mainGlobals "_law_truth" = some (some (.ref f30))) (l30:K.lookup f30=some ⟨oc30,od30,.func (PySem.W.fnOf "_law_truth" "_law_truth" (zaj s_36) (zag s_36) (zab s_36) .none kV30 dc30 pm30 an30 cd30 ct30),sl30⟩) (c30:PySem.W.codeIn K cd30 "_law_truth" = true) (k30:PySem.W.keepIn K (.ref f30)=true)
  (a31:PySem.W.findIn K (.ref C_Exam) "dealt" = some (some (.ref f31))) (i31:PySem.W.isFn K (.ref f31)=true) (l31:K.lookup f31=some ⟨oc31,od31,.func (PySem.W.fnOf "dealt" "Exam.dealt" (zaj s_20) (zag s_20) (zab s_20) .none kV31 dc31 pm31 an31 cd31 ct31),sl31⟩) (c31:PySem.W.codeIn K cd31 "Exam.dealt" = true) (k31:PySem.W.keepIn K (.ref f31)=true)
  (a32:PySem.W.findIn K (.ref C_Exam) "dealing" = some (some (.ref f32))) (i32:PySem.W.isFn K (.ref f32)=true) (l32:K.lookup f32=some ⟨oc32,od32,.func (PySem.W.fnOf "dealing" "Exam.dealing" (zaj s_21) (zag s_21) (zab s_21) .none kV32 dc32 pm32 an32 cd32 ct32),sl32⟩) (c32:PySem.W.codeIn K cd32 "Exam.dealing" = true) (k32:PySem.W.keepIn K (.ref f32)=true)
  (a33:PySem.W.nsIn K mainGlobals "_law_open" = some (some (.ref f33))) (l33:K.lookup f33=some ⟨oc33,od33,.func (PySem.W.fnOf "_law_open" "_law_open" (zaj s_39) (zag s_39) (zab s_39) .none kV33 dc33 pm33 an33 cd33 ct33),sl33⟩) (c33:PySem.W.codeIn K cd33 "_law_open" = true) (k33:PySem.W.keepIn K (.ref f33)=true)
  (a34:PySem.W.nsIn K mainGlobals "law" = some (some (.ref f34))) (l34:K.lookup f34=some ⟨oc34,od34,.func (PySem.W.fnOf "law" "law" (zaj s_42) (zag s_42) (zab s_42) .none kV34 dc34 pm34 an34 cd34 ct34),sl34⟩) (c34:PySem.W.codeIn K cd34 "law" = true) (k34:PySem.W.keepIn K (.ref f34)=true)
  (z_abs:PySem.W.nsIn K mainGlobals "abs" = some none)
  (z_bool:PySem.W.nsIn K mainGlobals "bool" = some none)
  (z_enumerate:PySem.W.nsIn K mainGlobals "enumerate" = some none)
  (z_int:PySem.W.nsIn K mainGlobals "int" = some none)
  (z_isinstance:PySem.W.nsIn K mainGlobals "isinstance" = some none)
  (z_len:PySem.W.nsIn K mainGlobals "len" = some none)
  (z_list:PySem.W.nsIn K mainGlobals "list" = some none)
  (z_min:PySem.W.nsIn K mainGlobals "min" = some none)
  (z_range:PySem.W.nsIn K mainGlobals "range" = some none)
  (z_sorted:PySem.W.nsIn K mainGlobals "sorted" = some none)
  (z_sum:PySem.W.nsIn K mainGlobals "sum" = some none)
  (z_zip:PySem.W.nsIn K mainGlobals "zip" = some none)
  (pg_Exam:PySem.W.plainGet K C_Exam Str.empty=true) (hd_Exam:PySem.W.hasDictIn K C_Exam=true) (po_Exam:PySem.W.plainOver K C_Exam=true) (sa_Exam:PySem.W.findIn K (.ref C_Exam) "__setattr__" = some (some (.builtin "object.__setattr__"))) (mk_Exam:PySem.W.makesIn K C_Exam=true) (kc_Exam:PySem.W.keepIn K (.ref C_Exam)=true)
  (n_Exam_paper_houses:PySem.W.findIn K (.ref C_Exam) "paper_houses" = some none)
  (n_Exam_reader_rows:PySem.W.findIn K (.ref C_Exam) "reader_rows" = some none)
  (n_Exam_widest_step:PySem.W.findIn K (.ref C_Exam) "widest_step" = some none)
  (n_Exam_is_dealt:PySem.W.findIn K (.ref C_Exam) "is_dealt" = some none)
  (n_Exam_named_readers:PySem.W.findIn K (.ref C_Exam) "named_readers" = some none)
  (n_Exam_entered_points:PySem.W.findIn K (.ref C_Exam) "entered_points" = some none)
  (v_MOST_HOUSES:PySem.W.nsIn K mainGlobals "MOST_HOUSES" = some (some (.int 6 tk_MOST_HOUSES)))
  (v_MOST_PAPERS:PySem.W.nsIn K mainGlobals "MOST_PAPERS" = some (some (.int 10 tk_MOST_PAPERS)))
  (v_MOST_LIMIT:PySem.W.nsIn K mainGlobals "MOST_LIMIT" = some (some (.int 30 tk_MOST_LIMIT)))
  (v_MOST_READERS:PySem.W.nsIn K mainGlobals "MOST_READERS" = some (some (.int 8 tk_MOST_READERS)))
  (v_MOST_STEP:PySem.W.nsIn K mainGlobals "MOST_STEP" = some (some (.int 100 tk_MOST_STEP)))
  (v_MOST_POINTS:PySem.W.nsIn K mainGlobals "MOST_POINTS" = some (some (.int 100 tk_MOST_POINTS)))
  (mx_OutOfTime:PySem.W.nsIn K mainGlobals "OutOfTime" = some (some (.ref X_OutOfTime)))
  (mx_UnknownNumber:PySem.W.nsIn K mainGlobals "UnknownNumber" = some (some (.ref X_UnknownNumber)))
  (mx_OutOfBounds:PySem.W.nsIn K mainGlobals "OutOfBounds" = some (some (.ref X_OutOfBounds)))
  (mx_Full:PySem.W.nsIn K mainGlobals "Full" = some (some (.ref X_Full)))
  (mx_ReadError:PySem.W.nsIn K mainGlobals "ReadError" = some (some (.ref X_ReadError)))
  (xc_OutOfTime:PySem.W.excIn K X_OutOfTime [.type "ValueError",.type "Exception",.type "BaseException",.type "object"] "ValueError.__new__" = true)
  (xc_UnknownNumber:PySem.W.excIn K X_UnknownNumber [.type "ValueError",.type "Exception",.type "BaseException",.type "object"] "ValueError.__new__" = true)
  (xc_OutOfBounds:PySem.W.excIn K X_OutOfBounds [.type "ValueError",.type "Exception",.type "BaseException",.type "object"] "ValueError.__new__" = true)
  (xc_Full:PySem.W.excIn K X_Full [.type "ValueError",.type "Exception",.type "BaseException",.type "object"] "ValueError.__new__" = true)
  (x_OutOfTime_UnknownNumber:PySem.W.exmOne K (.ref X_OutOfTime) (.ref X_UnknownNumber)=some false)
  (x_OutOfTime_OutOfBounds:PySem.W.exmOne K (.ref X_OutOfTime) (.ref X_OutOfBounds)=some false)
  (x_UnknownNumber_UnknownNumber:PySem.W.exmOne K (.ref X_UnknownNumber) (.ref X_UnknownNumber)=some true)
  (x_UnknownNumber_OutOfBounds:PySem.W.exmOne K (.ref X_UnknownNumber) (.ref X_OutOfBounds)=some false)
  (x_OutOfBounds_UnknownNumber:PySem.W.exmOne K (.ref X_OutOfBounds) (.ref X_UnknownNumber)=some false)
  (x_OutOfBounds_OutOfBounds:PySem.W.exmOne K (.ref X_OutOfBounds) (.ref X_OutOfBounds)=some true)
  (x_Full_UnknownNumber:PySem.W.exmOne K (.ref X_Full) (.ref X_UnknownNumber)=some false)
  (x_Full_OutOfBounds:PySem.W.exmOne K (.ref X_Full) (.ref X_OutOfBounds)=some false)
  : ∃ fd:FuncData,(∀ (s:Shared) (v:Value),BindsTo s fd ⟨[v],[]⟩ [("_law_script",v)])∧∀ base:Heap,K.In base→base.Ns mainGlobals mg→FnOk l.prog w K mg base CX0 7 fa fd ["_law_script"] (zdX K):=by
 have e:=hfa.symm.trans (PySem.W.mg_of X G a34)
 cases e
 have F0:=zaw (st:=s_35) l0 c0 k0;have F1:=zaw (st:=s_37) l1 c1 k1;have F2:=zaw (st:=s_34) l2 c2 k2;have F3:=zaw (st:=s_11) l3 c3 k3;have F4:=zaw (st:=s_26) l4 c4 k4;have F5:=zaw (st:=s_8) l5 c5 k5;have F6:=zaw (st:=s_10) l6 c6 k6;have F7:=zaw (st:=s_12) l7 c7 k7;have F8:=zaw (st:=s_9) l8 c8 k8;have F9:=zaw (st:=s_13) l9 c9 k9;have F10:=zaw (st:=s_14) l10 c10 k10;have F11:=zaw (st:=s_41) l11 c11 k11;have F12:=zaw (st:=s_38) l12 c12 k12;have F13:=zaw (st:=s_18) l13 c13 k13;have F14:=zaw (st:=s_17) l14 c14 k14;have F15:=zaw (st:=s_29) l15 c15 k15;have F16:=zaw (st:=s_23) l16 c16 k16;have F17:=zaw (st:=s_2) l17 c17 k17;have F18:=zaw (st:=s_1) l18 c18 k18;have F19:=zaw (st:=s_25) l19 c19 k19;have F20:=zaw (st:=s_19) l20 c20 k20;have F21:=zaw (st:=s_40) l21 c21 k21;have F22:=zaw (st:=s_30) l22 c22 k22;have F23:=zaw (st:=s_4) l23 c23 k23;have F24:=zaw (st:=s_3) l24 c24 k24;have F25:=zaw (st:=s_7) l25 c25 k25;have F26:=zaw (st:=s_5) l26 c26 k26;have F27:=zaw (st:=s_6) l27 c27 k27;have F28:=zaw (st:=s_31) l28 c28 k28;have F29:=zaw (st:=s_24) l29 c29 k29;have F30:=zaw (st:=s_36) l30 c30 k30;have F31:=zaw (st:=s_20) l31 c31 k31;have F32:=zaw (st:=s_21) l32 c32 k32;have F33:=zaw (st:=s_39) l33 c33 k33;have F34:=zaw (st:=s_42) l34 c34 k34;have T:Txt K mg ⟨_,_,_,_,_,_,_,_,_,_,_,_,_,_,_,_,_,_,_,_,_,_,_,_,_,_,_,_,_,_,_,_,_,_,_,_,_,_,_,_,_,_,_,_,_,_,_,_,_,_,_,_,_,_,_,_,_,_,_,_,_,_,_,_,_,_,_,_,_,_,_,_,_,_,_,_,_,⟨X_OutOfTime,X_UnknownNumber,0,X_OutOfBounds,X_Full,X_ReadError⟩⟩:=⟨F0,F0.binds (ps:=["_law_found"]) (fun _ _ _ _ _ _ us hl=>match us,hl with | [_],_=>rfl),PySem.W.mg_of X G a0,F1,F1.binds (ps:=["_law_found","_law_due"]) (fun _ _ _ _ _ _ us hl=>match us,hl with | [_,_],_=>rfl),PySem.W.mg_of X G a1,F2,F2.binds (ps:=["_law_script","_law_k"]) (fun _ _ _ _ _ _ us hl=>match us,hl with | [_,_],_=>rfl),PySem.W.mg_of X G a2,F3,F3.binds (ps:=["self"]) (fun _ _ _ _ _ _ us hl=>match us,hl with | [_],_=>rfl),⟨mk_Exam,a3,i3,kc_Exam⟩,F4,F4.binds (ps:=["self"]) (fun _ _ _ _ _ _ us hl=>match us,hl with | [_],_=>rfl),⟨a4,i4,k4⟩,F5,F5.binds (ps:=["number","least","most"]) (fun _ _ _ _ _ _ us hl=>match us,hl with | [_,_,_],_=>rfl),PySem.W.mg_of X G a5,F6,F6.binds (ps:=["many","most"]) (fun _ _ _ _ _ _ us hl=>match us,hl with | [_,_],_=>rfl),PySem.W.mg_of X G a6,F7,F7.binds (ps:=["self","house"]) (fun _ _ _ _ _ _ us hl=>match us,hl with | [_,_],_=>rfl),⟨a7,i7,k7⟩,F8,F8.binds (ps:=["number","most"]) (fun _ _ _ _ _ _ us hl=>match us,hl with | [_,_],_=>rfl),PySem.W.mg_of X G a8,F9,F9.binds (ps:=["self","house","limit"]) (fun _ _ _ _ _ _ us hl=>match us,hl with | [_,_,_],_=>rfl),⟨a9,i9,k9⟩,F10,F10.binds (ps:=["self","step"]) (fun _ _ _ _ _ _ us hl=>match us,hl with | [_,_],_=>rfl),⟨a10,i10,k10⟩,F11,F11.binds (ps:=["_law_exam","_law_todo","_law_fine","_law_due","_law_why"]) (fun _ _ _ _ _ _ us hl=>match us,hl with | [_,_,_,_,_],_=>rfl),PySem.W.mg_of X G a11,F12,F12.binds (ps:=["_law_found","_law_due"]) (fun _ _ _ _ _ _ us hl=>match us,hl with | [_,_],_=>rfl),PySem.W.mg_of X G a12,F13,F13.binds (ps:=["self"]) (fun _ _ _ _ _ _ us hl=>match us,hl with | [_],_=>rfl),⟨a13,i13,k13⟩,F14,F14.binds (ps:=["self"]) (fun _ _ _ _ _ _ us hl=>match us,hl with | [_],_=>rfl),⟨a14,i14,k14⟩,F15,F15.binds (ps:=["self","paper"]) (fun _ _ _ _ _ _ us hl=>match us,hl with | [_,_],_=>rfl),⟨a15,i15,k15⟩,F16,F16.binds (ps:=["self"]) (fun _ _ _ _ _ _ us hl=>match us,hl with | [_],_=>rfl),⟨a16,i16,k16⟩,F17,F17.binds (ps:=["rows","reader"]) (fun _ _ _ _ _ _ us hl=>match us,hl with | [_,_],_=>rfl),PySem.W.mg_of X G a17,F18,F18.binds (ps:=["readers","rows"]) (fun _ _ _ _ _ _ us hl=>match us,hl with | [_,_],_=>rfl),PySem.W.mg_of X G a18,F19,F19.binds (ps:=["self"]) (fun _ _ _ _ _ _ us hl=>match us,hl with | [_],_=>rfl),⟨a19,i19,k19⟩,F20,F20.binds (ps:=["self"]) (fun _ _ _ _ _ _ us hl=>match us,hl with | [_],_=>rfl),⟨a20,i20,k20⟩,F21,F21.binds (ps:=["_law_found","_law_many"]) (fun _ _ _ _ _ _ us hl=>match us,hl with | [_,_],_=>rfl),PySem.W.mg_of X G a21,F22,F22.binds (ps:=["self","paper"]) (fun _ _ _ _ _ _ us hl=>match us,hl with | [_,_],_=>rfl),⟨a22,i22,k22⟩,F23,F23.binds (ps:=["one","other"]) (fun _ _ _ _ _ _ us hl=>match us,hl with | [_,_],_=>rfl),PySem.W.mg_of X G a23,F24,F24.binds (ps:=["top","bottom"]) (fun _ _ _ _ _ _ us hl=>match us,hl with | [_,_],_=>rfl),PySem.W.mg_of X G a24,F25,F25.binds (ps:=["points"]) (fun _ _ _ _ _ _ us hl=>match us,hl with | [_],_=>rfl),PySem.W.mg_of X G a25,F26,F26.binds (ps:=["one","other","step"]) (fun _ _ _ _ _ _ us hl=>match us,hl with | [_,_,_],_=>rfl),PySem.W.mg_of X G a26,F27,F27.binds (ps:=["points","step"]) (fun _ _ _ _ _ _ us hl=>match us,hl with | [_,_],_=>rfl),PySem.W.mg_of X G a27,F28,F28.binds (ps:=["self","paper"]) (fun _ _ _ _ _ _ us hl=>match us,hl with | [_,_],_=>rfl),⟨a28,i28,k28⟩,F29,F29.binds (ps:=["self"]) (fun _ _ _ _ _ _ us hl=>match us,hl with | [_],_=>rfl),⟨a29,i29,k29⟩,F30,F30.binds (ps:=["_law_found","_law_due"]) (fun _ _ _ _ _ _ us hl=>match us,hl with | [_,_],_=>rfl),PySem.W.mg_of X G a30,F31,F31.binds (ps:=["self"]) (fun _ _ _ _ _ _ us hl=>match us,hl with | [_],_=>rfl),⟨a31,i31,k31⟩,F32,F32.binds (ps:=["self"]) (fun _ _ _ _ _ _ us hl=>match us,hl with | [_],_=>rfl),⟨a32,i32,k32⟩,F33,F33.binds (ps:=["_law_exam","_law_homes","_law_staff","_law_step"]) (fun _ _ _ _ _ _ us hl=>match us,hl with | [_,_,_,_],_=>rfl),PySem.W.mg_of X G a33,F34,F34.binds (ps:=["_law_script"]) (fun _ _ _ _ _ _ us hl=>match us,hl with | [_],_=>rfl),PySem.W.mg_of X G a34,⟨pg_Exam,hd_Exam,po_Exam,sa_Exam⟩,PySem.W.mg_of X G aC_Exam,n_Exam_paper_houses,n_Exam_reader_rows,n_Exam_widest_step,n_Exam_is_dealt,n_Exam_named_readers,n_Exam_entered_points,PySem.W.mg_of X G v_MOST_HOUSES,⟨_,rfl⟩,PySem.W.mg_of X G v_MOST_PAPERS,⟨_,rfl⟩,PySem.W.mg_of X G v_MOST_LIMIT,⟨_,rfl⟩,PySem.W.mg_of X G v_MOST_READERS,⟨_,rfl⟩,PySem.W.mg_of X G v_MOST_STEP,⟨_,rfl⟩,PySem.W.mg_of X G v_MOST_POINTS,⟨_,rfl⟩,PySem.W.mg_of X G mx_OutOfTime,PySem.W.mg_of X G mx_UnknownNumber,PySem.W.mg_of X G mx_OutOfBounds,PySem.W.mg_of X G mx_Full,PySem.W.mg_of X G mx_ReadError,xc_OutOfTime,xc_UnknownNumber,xc_OutOfBounds,xc_Full,x_OutOfTime_UnknownNumber,x_OutOfTime_OutOfBounds,x_UnknownNumber_UnknownNumber,x_UnknownNumber_OutOfBounds,x_OutOfBounds_UnknownNumber,x_OutOfBounds_OutOfBounds,x_Full_UnknownNumber,x_Full_OutOfBounds,PySem.W.mg_none_of X G z_abs,PySem.W.mg_none_of X G z_bool,PySem.W.mg_none_of X G z_enumerate,PySem.W.mg_none_of X G z_int,PySem.W.mg_none_of X G z_isinstance,PySem.W.mg_none_of X G z_len,PySem.W.mg_none_of X G z_list,PySem.W.mg_none_of X G z_min,PySem.W.mg_none_of X G z_range,PySem.W.mg_none_of X G z_sorted,PySem.W.mg_none_of X G z_sum,PySem.W.mg_none_of X G z_zip⟩;exact ⟨_,fun s v=>.of_eq rfl,fun base _ _=>ziH T⟩
theorem walk {l:PySem.W.OpenLaw} {q:Program} {loose:List Str} {XP:(Str→Option Value)→Heap→Prop} {YP:World→Heap→Prop} {d:DefRec} {K:Params→PySem.W.Frag} (hn:l.most=some 63) (hdf:d.params.defaults=[])
  (hY:∀ (w:World) (h:Heap),YP w h→(K w.params).In h)
  (F:∀ (w:World) (mg:Str→Option Value) (fa:Addr) (h:Heap),(K w.params).In h→h.Ns mainGlobals mg→mg d.name=some (.ref fa) →
   ∃ fd:FuncData,(∀ (s:Shared) (u:Value),BindsTo s fd ⟨[u],[]⟩ [("_law_script",u)])∧∀ base:Heap,(K w.params).In base→base.Ns mainGlobals mg→FnOk l.prog w (K w.params) mg base CX0 7 fa fd ["_law_script"] (zdX (K w.params))) :
  PySem.W.WalkO q loose XP YP l.row.toRowW d [] (fun f vs=>PySem.call f vs) :=
 L2.zg3 (n:=63) (k:=7) (x:="_law_script") (CX:=fun _=>CX0) (sp:=fun w=>zdX (K w.params)) hn (by decide) hdf ⟨rfl,by decide,by decide⟩ hY F (fun _ H a ns hl hO hS=>law_start hl hS) fun _ _ _ _ _ z=>z
end Prf
set_option genInjectivity false in
set_option genSizeOf false in
structure PySem.W.Fast:Prop where
 (tw7732366757042284175 tw7560046325643222560 tw17696904908380609379 tw13443509291045389596 tw16108265898649393816 tw1174436311186617858 tw7839095954012926420 tw13541039416239727489 tw10116897345638960968 tw12221931348324811415 tw4094014453744993972 tw6977121272161638243 tw2998265257068790809 tw8549135476772603804 tw6079596383258388425 tw10862547756308149191 tw8720244301511953628 tw1743384445228500030 tw3212664824385397846 tw13330623753778718871 tw2933446097705880005 tw15253760680902729217 tw12267291706492577768 tw13941490571530548426 tw4031923921029132506 tw1429108680020832752 tw2139974101722532785 tw1764526753019090259 tw14901897881069623774 tw17227463665550219001 tw3223378739816908567 tw10971448569071781037 tw9270163200187899746 tw11040065208654636700 tw5750834127345405463 tw6923231356171219936 tw4318484833665859909 tw16180515913232988135 tw12947280355100412514 tw11331633406433360948:True)
 (tw8924002408857371053 tw238790512079493512 tw15810109409232928057 tw14512718420740139761 tw469698978597317719 tw6109249784223231904 tw12723707920417038560 tw692039779114631442 tw7309600418316567912 tw3797213307698809993 tw17858055051073686231 tw17043468846988696373 tw1001800186739436697 tw642471329970541672 tw3060058802932054540 tw3334734191137977213 tw15683409838247179914 tw3228225836903963392 tw8500262169578607663 tw14017196819939583310 tw13907656533211940183 tw15364796449876513004 tw12697879945515391568 tw9149422811857923473 tw13309332173839589763 tw4862314045370905520 tw9143178076751255762 tw2525469105259915423 tw12496511134700928712 tw1589814340066342264 tw14358968787900183372 tw10659072847482544547 tw4691299116051273322 tw14413921818273502388 tw4601292546871526505 tw3465175003328347872 tw15625901663280109585 tw16685132769076054137 tw3171333242399467815 tw1960701854325249625:True)
 (tw10195039375692203428 tw13917872010960368663 tw3985370527141162057 tw8008711984665312062 tw9870414115745856178 tw1959777697013907665 tw17785802866660652755 tw12575600536757947756 tw436544659983663178 tw15996446502741153929 tw14456970983473040588 tw6493117610759868497 tw2284845507448328498 tw2806106158703359694 tw5237557726650860606 tw11355397083002109481 tw8767282205943602731 tw11442479211577917300 tw13557917325906985291 tw1444051287343596835 tw198059093718238028 tw2038140963569709012 tw7805041153202184356 tw1582185498774628208 tw12786107696290868612 tw16619230410669365585 tw15484561967979793505 tw3292662833048051588 tw4697311482064590793 tw9267686207115105246 tw13177519061492146290 tw1940610412897486521 tw13737456414633923765 tw1717365778907088834 tw14155583034558990457 tw297525566287844180 tw12755635827911688672 tw16737417526507434983 tw1736376636017493250 tw6431492038708401781:True)
 (tw15847979125939072758 tw4145216688621338145 tw517939671093017375 tw14415470227189911301 tw8141261996927790083 tw6055800003063935566 tw6472308731021122311 tw8609865622436657738 tw8519796862743360047 tw14058065331497118443 tw8732694896627751927 tw5728390699311482349 tw481064005797877068 tw1643355700662709007 tw15625892629325036221 tw5778686645867101454 tw9274501361064846218 tw6759027730720920110 tw10032612890403860237 tw1276148817343840733 tw7715434669574032592 tw2764967230600381446 tw16887227889040870557 tw5418053622682918784 tw2411058394631329895 tw9994067428892020699 tw11641437141158804530 tw10442279776315407538 tw8696964945621965855 tw16741158378902696316 tw11625689964070235915 tw237890899514521831 tw3045496410736322628 tw9248461177083879983 tw8811014428011468308 tw13541479177678612861 tw825571570828694873 tw1035941588492527741 tw1559395691633588603 tw14439362670133281587:True)
 (tw2971777629240182674 tw10102448583608275722 tw2861534480188909010 tw6348211443452247551 tw13686307128702146968 tw4411759254963699369 tw9665314177862653052 tw2379039674178147461 tw10427954617732341139 tw4564777976156743207 tw9287303480107170158 tw14154287026343727878 tw9988352052504752863 tw9027140036133377313 tw4744237946927861767 tw14210790022973083843 tw9894837169643202422 tw3571078198022410537 tw2520471503425710486 tw15900569904634219240 tw13082471109367276838 tw10991897506059655325 tw13308690280619754731 tw395759904063226051 tw4832398170880525228 tw7049832489749884748 tw9263707566520530322 tw7501517086769704088 tw14152966300700392171 tw5749508197279673066 tw4310826990186883659 tw682963472081241586 tw3864418768373832109 tw5750421791524101681 tw17118907402153766737 tw1846056208069020494 tw16899518241091071056 tw14754550881018374979 tw14599471646831623091 tw9803739994836164520:True)
 (tw16564756718233518000 tw5663879563700371264 tw3667657239657184014 tw1705402400023040945 tw2311762710105567158 tw668306617650590970 tw13400725188293511248 tw17843598491370966170 tw2032878887525156018 tw3079095561048232404 tw3067498801530058769 tw16393594963108412663 tw6900235797083212989 tw5642566379022361265 tw10715758584547016894 tw9397605685664834354 tw13214807223012962193 tw4263308368871640122 tw8446207042604721190 tw17192950161201102550 tw6149356262963687985 tw13914481083879805834 tw9305854436091864867 tw7560187366616810262 tw6336159201219245872 tw11378526724675122600 tw18152473937695049212 tw15903915562571363974 tw6752630305912119360 tw13384825054316635203 tw9044087468087120384 tw3810060622168835283 tw1935880913687780113 tw4245980344604001659 tw345331271066645111 tw15310516356892883616 tw14904629082681779692 tw2551255036155637277 tw15234863571854568407 tw3097891690006323800:True)
 (tw3549214989209654135 tw5837144604749158963 tw18279314234059965789 tw11160653273141633224 tw4999467515967506236 tw7504577874124962082 tw14817947284291056069 tw5982661529068639151 tw2818918365866988064 tw8220079119783821649 tw16775527364871843931 tw13656351821510212623 tw2303566909002031374 tw6413035614781066630 tw15349696393185703672 tw3160482454275798710 tw700892493715929035 tw8873161736819733388 tw9184021027002438557 tw16398926714381095466 tw13462985525384294146 tw12141654542517714244 tw16164167222472823376 tw9184117446736369225 tw7628785078720029105 tw5525172558933978801 tw4674853614443305835 tw16281910298231322991 tw13348274742169350575 tw13574945711052887377 tw16254851329401388805 tw4876708390880581247 tw3077347176677369308 tw15669960339027670610 tw358771824657481168 tw14257471795473609896 tw6361395391743246920 tw12436279256834719255 tw14267814766537781496 tw17223412346112058967:True)
 (tw4723588752312479675 tw13075712116482590136 tw4420435434729365838 tw5671599014257975481 tw3032997472823254298 tw84246495952852140 tw11085771142554136733 tw7066375388215426611 tw5387601446757956072 tw4936019739906270194 tw5431788551961792157 tw10324102315265098067 tw15274139963835179877 tw16087524557656754524 tw1134033649202457756 tw2497626329379982081 tw14928973337882160080 tw11658299650782925731 tw3362737225344356226 tw16164735123500694999 tw3592196239009528096 tw7351836939338565464 tw6670329133289560605 tw14058331385216239555 tw11398435376098599128 tw11401488194490607000 tw10886406754769745815 tw9526939683682254378 tw15108983523318733835 tw1073257050604096051 tw16108267609549097737 tw2920405460638308961 tw15231865703846698080 tw12124393335293534609 tw10426214809924139738 tw14106356443508849432 tw4844455780545843501 tw2577295692049275759 tw17883806331688318952 tw14355414141694536084:True)
 (tw16960173528263039418 tw15079827822756158855 tw7526690401026313921 tw7264099143233733394 tw1743795028387102329 tw4001122821610691855 tw15101176517049016976 tw5030308424185465168 tw8652105153721928105 tw2772198110934857288 tw14460106702490045334 tw8214392039601172669 tw8243109694752018339 tw11850331668632737654 tw13290443074946558192 tw13505057805218482405 tw14804777504617214235 tw947097473834106735 tw4409113131421388852 tw16156893347039182436 tw7516879047495198049 tw7919416677736500173 tw12868414315443244773 tw1245666625968895111 tw7487495864269225074 tw11269875570923463063 tw3161688021844409764 tw1028686340143349397 tw4092952832801998774 tw423539155247353064 tw5278842250769410589 tw6563096612841982143 tw14120278441477982679 tw16329901986814134965 tw7462068511262561336 tw10747924952898459228 tw13436392443787153582 tw9800841759539562110 tw3490058210320963043 tw4489652157383108313:True)
 (tw7260791413891507655 tw15020642907912936701 tw130912289899362748 tw10802776907912774809 tw11819738102625621617 tw5797107228961197078 tw3371029905712615794 tw17007152192465325195 tw4312844977292441150 tw3528097084862766681 tw1947404483003353807 tw11337010639420623473 tw1423250478599643097 tw2950997754231772604 tw15169921096220820480 tw16181966111230562100 tw4042518892631320625 tw10106845916715896665 tw17966556239645804905 tw8638473415665599681 tw5436801156461534414 tw11375808806246685370 tw6444335539833432689 tw2886554789825078868 tw9352823142395194995 tw7953087184091967900 tw4865537228636790404 tw10095219424975369406 tw10707792186213948894 tw16700647067819437278 tw3177080874888922839 tw13584062079968605873 tw8843704239193716653 tw3509807346521860085 tw6135143970001826353 tw6246654000417444181 tw11222092786377567971 tw2519209049159090236 tw10567417618868161530 tw17086582997174963834:True)
 (tw15668827119393463086 tw1642803899090847303 tw12503956994235468225 tw5496393068409935934 tw7993699419640741474 tw7170444864121665654 tw6890158481423453202 tw6225741109068295837 tw1086142642109163132 tw15966426303969460926 tw12256370995679374273 tw1531098356327058048 tw6835405093646406805 tw18093705896354591215 tw3501013152942653252 tw6291602842595480769 tw17002194170991887378 tw3688827676800930215 tw5863859668323519914 tw5640813451023017407 tw13561816752165601435 tw13834266236957250796 tw3299032126051884652 tw18427721638423333452 tw14090995008319414404 tw12023800563243854180 tw7363920174834480481 tw2771985815995507664 tw5137423579509847771 tw12216051908917715761 tw15106120000365197289 tw13439458606720359202 tw12246942639078818517 tw13969739230507053759 tw3726792125791264150 tw428740435015937996 tw3463129485338268470 tw14699991569250398993 tw10282138485215547135 tw8244836678222160002:True)
 (tw9398620494799081008 tw3889204183848445321 tw7880071681936263347 tw9936659752318298684 tw8400313917414354488 tw11068790653319544764 tw303324294989439212 tw3794180583507946958 tw2992499444148807674 tw8501853832041858400 tw10817741758348665422 tw16355934770237867948 tw16927006602537704489 tw17129099710054518716 tw15024823285181860288 tw16636379696490982011 tw286982449694701858 tw6214024173951257697 tw3322573681735964956 tw15207397692845074137 tw11642947601136875704 tw14957735130969238760 tw7355977792382228698 tw14297237093507250562 tw3196182360775238246 tw9163190432267114445 tw16549079894197536028 tw9285953045803870026 tw15998826495299921018 tw9895618916591431018 tw14219912789901960342 tw8503546373849047083 tw3268557288041263470 tw3750109340958926104 tw13841509617472949020 tw12792346946006849284 tw2076339096066843944 tw4079065226446224733 tw15974244502572289492 tw6069682748940030742:True)
 (tw10113361581015854580 tw14969140661735748689 tw1509990278628269751 tw4793939421188338579 tw17330670383495367140 tw18244631462852552801 tw5122072538416830890 tw6491691949808771027:True)
open PySem PySem.W PyProof.Rows
set_option maxRecDepth 100000 in
set_option maxHeartbeats 0 in
theorem PySem.Challenge.cw_secondread_k21_bounds_holds : PySem.Challenge.rw_secondread_k21_bounds.Holds := by
 w_on;o_law;k_head;(case hw=>w_witness2)
 k_fill
 refine Prf.walk (l:=PySem.Challenge.rw_secondread_k21_bounds) rfl rfl (fun w h Y=>PySem.W.kIn_of Y) ?F
 case F =>
  intro w mg fa h KX G hmg;refine' Prf.ziI KX G hmg ?aC_Exam ?a0 ?l0 ?c0 ?k0 ?a1 ?l1 ?c1 ?k1 ?a2 ?l2 ?c2 ?k2 ?a3 ?i3 ?l3 ?c3 ?k3 ?a4 ?i4 ?l4 ?c4 ?k4 ?a5 ?l5 ?c5 ?k5 ?a6 ?l6 ?c6 ?k6 ?a7 ?i7 ?l7 ?c7 ?k7 ?a8 ?l8 ?c8 ?k8 ?a9 ?i9 ?l9 ?c9 ?k9 ?a10 ?i10 ?l10 ?c10 ?k10 ?a11 ?l11 ?c11 ?k11 ?a12 ?l12 ?c12 ?k12 ?a13 ?i13 ?l13 ?c13 ?k13 ?a14 ?i14 ?l14 ?c14 ?k14 ?a15 ?i15 ?l15 ?c15 ?k15 ?a16 ?i16 ?l16 ?c16 ?k16 ?a17 ?l17 ?c17 ?k17 ?a18 ?l18 ?c18 ?k18 ?a19 ?i19 ?l19 ?c19 ?k19 ?a20 ?i20 ?l20 ?c20 ?k20 ?a21 ?l21 ?c21 ?k21 ?a22 ?i22 ?l22 ?c22 ?k22 ?a23 ?l23 ?c23 ?k23 ?a24 ?l24 ?c24 ?k24 ?a25 ?l25 ?c25 ?k25 ?a26 ?l26 ?c26 ?k26 ?a27 ?l27 ?c27 ?k27 ?a28 ?i28 ?l28 ?c28 ?k28 ?a29 ?i29 ?l29 ?c29 ?k29 ?a30 ?l30 ?c30 ?k30 ?a31 ?i31 ?l31 ?c31 ?k31 ?a32 ?i32 ?l32 ?c32 ?k32 ?a33 ?l33 ?c33 ?k33 ?a34 ?l34 ?c34 ?k34 ?pg_Exam ?hd_Exam ?po_Exam ?sa_Exam ?mk_Exam ?kc_Exam ?n_Exam_paper_houses ?n_Exam_reader_rows ?n_Exam_widest_step ?n_Exam_is_dealt ?n_Exam_named_readers ?n_Exam_entered_points ?v_MOST_HOUSES ?v_MOST_PAPERS ?v_MOST_LIMIT ?v_MOST_READERS ?v_MOST_STEP ?v_MOST_POINTS ?mx_OutOfTime ?mx_UnknownNumber ?mx_OutOfBounds ?mx_Full ?mx_ReadError ?xc_OutOfTime ?xc_UnknownNumber ?xc_OutOfBounds ?xc_Full ?x_OutOfTime_UnknownNumber ?x_OutOfTime_OutOfBounds ?x_UnknownNumber_UnknownNumber ?x_UnknownNumber_OutOfBounds ?x_OutOfBounds_UnknownNumber ?x_OutOfBounds_OutOfBounds ?x_Full_UnknownNumber ?x_Full_OutOfBounds ?z_abs ?z_bool ?z_enumerate ?z_int ?z_isinstance ?z_len ?z_list ?z_min ?z_range ?z_sorted ?z_sum ?z_zip
  (case aC_Exam=>k_is)
  (case mx_OutOfTime=>k_is)
  (case mx_UnknownNumber=>k_is)
  (case mx_OutOfBounds=>k_is)
  (case mx_Full=>k_is)
  (case mx_ReadError=>k_is)
  all_goals (try k_is)
  all_goals (first | k_is | k_exc | kts_exm)
