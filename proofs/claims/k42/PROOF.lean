import PyProof.Rows.All
import Wide.All
import OpenK.AllK
import Wide.FinOn
import Lean
import PyProof.EqAt
import PyProof.EqKinds
import PyProof.TupleCall
import PyProof.NeKinds
import PySem.Challenge.RW_secondread_k42_whole_order
set_option Elab.async false
set_option linter.all false
set_option maxRecDepth 100000
set_option maxHeartbeats 4000000
local macro_rules | `(tactic| omega)=>`(tactic| lia)
namespace L2
open PySem PySem.Spec PyProof.Rows
abbrev Key:=Sum Int Str
def keyIs:Key→Value→Bool
 | .inl k,v=>Value.isInt k v
 | .inr x,v=>Value.isStrOf x v
def keyH (w:World):Key→Int
 | .inl k=>hashInt k
 | .inr x=>hashStr w x
theorem keyIs_shape:∀ {k:Key} {v:Value},keyIs k v=true→(∃ i t,k=Sum.inl i∧v=Value.int i t)∨(∃ x t,k=Sum.inr x∧v=Value.str x t)
 | .inl i,v,h=>by
   obtain ⟨t,e⟩:=Value.isInt_shape (k:=i) (v:=v) h;exact .inl ⟨i,t,rfl,e⟩
 | .inr x,v,h=>by
   obtain ⟨t,e⟩:=Value.isStrOf_shape (x:=x) (v:=v) h;exact .inr ⟨x,t,rfl,e⟩
theorem zjc (i:Int) (t:Tok):keyIs (.inl i) (.int i t)=true:=by simp [keyIs,Value.isInt]
theorem zjd (x:Str) (t:Tok):keyIs (.inr x) (.str x t)=true:=by simp [keyIs,Value.isStrOf]
theorem zmJ (a b:Int):decide ((Sum.inl a:Key)=Sum.inl b)=(a == b):=by
 by_cases e:a=b
 ·subst e;simp
 ·have h:¬(Sum.inl a:Key)=Sum.inl b:=fun q=>e (Sum.inl.inj q);rw [decide_eq_false h];exact (beq_eq_false_iff_ne.mpr e).symm
theorem zmK (a b:Str):decide ((Sum.inr a:Key)=Sum.inr b)=decide (a=b):=by
 by_cases e:a=b
 ·subst e;simp
 ·have h:¬(Sum.inr a:Key)=Sum.inr b:=fun q=>e (Sum.inr.inj q);rw [decide_eq_false h,decide_eq_false e]
theorem zmL (a:Int) (b:Str):decide ((Sum.inl a:Key)=Sum.inr b)=false:=decide_eq_false (fun q=>nomatch q)
theorem zmM (a:Str) (b:Int):decide ((Sum.inr a:Key)=Sum.inl b)=false:=decide_eq_false (fun q=>nomatch q)
def zbD (prog:Program) (w:World):PySem.KeyKind prog w Key where
 is:=keyIs
 hash:=keyH w
 inj:=fun v a b ha hb=>by
  rcases keyIs_shape ha with ⟨i,t,rfl,rfl⟩ | ⟨x,t,rfl,rfl⟩
  ·rcases keyIs_shape hb with ⟨j,u,rfl,e⟩ | ⟨y,u,rfl,e⟩
   ·injection e with e1 _;rw [e1]
   ·exact nomatch e
  ·rcases keyIs_shape hb with ⟨j,u,rfl,e⟩ | ⟨y,u,rfl,e⟩
   ·exact nomatch e
   ·injection e with e1 _;rw [e1]
 byValue:=fun k v h=>by
  rcases keyIs_shape h with ⟨i,t,rfl,rfl⟩ | ⟨x,t,rfl,rfl⟩ <;> rfl
 pyHash:=fun hv h=>by
  rcases keyIs_shape hv with ⟨i,t,rfl,rfl⟩ | ⟨x,t,rfl,rfl⟩
  ·exact wpAny_pyHash_int h
  ·exact wpAny_pyHash_str h
 eqBool:=fun hu hv h=>by
  rcases keyIs_shape hu with ⟨i,t,rfl,rfl⟩ | ⟨x,t,rfl,rfl⟩
  ·rcases keyIs_shape hv with ⟨j,u,rfl,rfl⟩ | ⟨y,u,rfl,rfl⟩
   ·rw [zmJ] at h;exact wpAny_eqBool_int h
   ·rw [zmL] at h;exact SeqAt.EqAt.int_str i t y u _ _ _ _ h
  ·rcases keyIs_shape hv with ⟨j,u,rfl,rfl⟩ | ⟨y,u,rfl,rfl⟩
   ·rw [zmM] at h;exact SeqAt.EqAt.str_int x t j u _ _ _ _ h
   ·rw [zmK] at h;exact wpAny_eqBool_str h
 «strs»:=fun k x t v h=>by
  rcases keyIs_shape h with ⟨i,u,rfl,e⟩ | ⟨y,u,rfl,e⟩
  ·exact nomatch e
  ·injection e with e1 _;subst e1
   cases v <;> rfl
theorem zg9 (prog:Program) (w:World) (i:Int) (t:Tok):(zbD prog w).is (.inl i) (.int i t)=true:=zjc i t
theorem zha (prog:Program) (w:World) (x:Str) (t:Tok):(zbD prog w).is (.inr x) (.str x t)=true:=zjd x t
end L2
namespace L2
open PySem PySem.Spec PyProof.Rows
inductive V where
 | non | bl (b:Bool) | int (i:Int) | str (x:Str) | byt (b:Array UInt8) | flt (b:UInt64) | ref (a:Addr) | ty (n:String)
 deriving DecidableEq
def RelV:V→Value→Prop
 | .non,u=>u=Value.none
 | .bl b,u=>u=Value.bool b
 | .int i,u=>∃ t,u=Value.int i t
 | .str x,u=>∃ t,u=Value.str x t
 | .byt b,u=>∃ t,u=Value.bytes b t
 | .flt b,u=>∃ t,u=Value.float b t
 | .ref a,u=>u=Value.ref a
 | .ty n,u=>u=Value.type n
abbrev Vals:List V→List Value→Prop:=Paired RelV
theorem Vals.length {xs:List V} {us:List Value} (r:Vals xs us):xs.length=us.length:=Paired.length r
theorem Vals.get:∀ {xs:List V} {us:List Value} {i:Nat} {x:V},Vals xs us→xs[i]? = some x→∃ u,us[i]? = some u∧RelV x u
 | _,_,_,_,.nil,e=>by simp at e
 | _,_,0,_,.cons r _,e=>by simp at e;subst e;exact ⟨_,rfl,r⟩
 | _,_,i+1,x,.cons _ t,e=>by
   obtain ⟨u,h1,h2⟩:=Vals.get (i:=i) (x:=x) t (by simpa using e);exact ⟨u,by simpa using h1,h2⟩
theorem Vals.set {x:V} {u:Value} (r:RelV x u):∀ {xs:List V} {us:List Value} (i:Nat),Vals xs us→Vals (xs.set i x) (us.set i u)
 | _,_,_,.nil=>.nil
 | _,_,0,.cons _ t=>.cons r t
 | _,_,i+1,.cons q t=>.cons q (Vals.set r i t)
theorem Vals.append:∀ {xs ys:List V} {us ws:List Value},Vals xs us→Vals ys ws→Vals (xs++ys) (us++ws)
 | _,_,_,_,.nil,s=>s
 | _,_,_,_,.cons r t,s=>.cons r (Vals.append t s)
theorem Vals.take:∀ {xs:List V} {us:List Value} (n:Nat),Vals xs us→Vals (xs.take n) (us.take n)
 | _,_,0,_=>.nil
 | _,_,_+1,.nil=>.nil
 | _,_,n+1,.cons r t=>.cons r (Vals.take n t)
theorem Vals.drop:∀ {xs:List V} {us:List Value} (n:Nat),Vals xs us→Vals (xs.drop n) (us.drop n)
 | _,_,0,r=>r
 | _,_,_+1,.nil=>.nil
 | _,_,n+1,.cons _ t=>Vals.drop n t
def RelO:Option V→Option Value→Prop
 | some v,some u=>RelV v u
 | none,none=>True
 | _,_=>False
def KV {κ:Type}:List (κ×V)→List (κ×Value)→Prop:=Paired fun (p:κ×V) (q:κ×Value)=>p.1=q.1∧RelV p.2 q.2
def kV:Key→V
 | .inl i=>.int i
 | .inr x=>.str x
inductive HO where
 | lst (xs:List V)
 | tup (xs:List V)
 | dK (kvs:List (Key×V)) | dT (kvs:List (List Key×V))
 | set (S:Int→Bool) (n:Nat)
 | ins (C dx:Addr) (fs:List (Str×V))
 | own (x:Addr)
 | xd (fs:List (Str×V))
 | met (f x:Addr)
 | rng (lo hi:Int)
 | frz (o:Obj) (u:HO)
 | tbl (ps:Array Value)
 | ext (φ:Heap→Prop)
abbrev Hp:=Addr→Option HO
def upd (H:Hp) (a:Addr) (o:HO):Hp:=fun b=>if b=a then some o else H b
theorem zay {H:Hp} {a:Addr} {o:HO}:upd H a o a=some o:=by unfold upd;rw [if_pos rfl]
theorem zaR {H:Hp} {a b:Addr} {o:HO} (h:b≠a):upd H a o b=H b:=by unfold upd;rw [if_neg h]
theorem zlO {H:Hp} {a:Addr} {o u:HO}:upd (upd H a o) a u=upd H a u:=by
 funext b;unfold upd;split <;> rfl
theorem zn9 {H:Hp} {a b:Addr} {o u:HO} (h:H a=some o) (h':H b=some u) (d:o≠u):a≠b:=by
 intro e;subst e;rw [h] at h';exact d (Option.some.inj h')
theorem zaj {H:Hp} {a b:Addr} {o:HO} (h:H a=some o) (h':H b=none):a≠b:=by
 intro e;subst e;rw [h] at h';cases h'
section
variable (P:Program) (w:World)
def zbR (H:Hp) (h:Heap) (a:Addr):HO→Prop
 | .lst xs=>xs.length≤sizeLine∧∃ (its:List Value) (n:Nat),Vals xs its∧h.get? a=some { cls:=.type "list",data:=.seq its.toArray n }
 | .tup xs=>xs.length≤sizeLine∧∃ its:List Value,Vals xs its∧IsTup h a its.toArray
 | .dK kvs=>kvs.length≤sizeLine∧(a == sysModules)=false∧∃ vs,KV kvs vs∧h.DictOf (zbD P w) a vs
 | .dT kvs=>kvs.length≤sizeLine∧(a == sysModules)=false∧∃ xs:List (List Key×Addr×Value),
    Paired (fun (p:List Key×V) (q:List Key×Addr×Value)=>p.1=q.1∧H q.2.1=some (.tup (p.1.map kV))∧RelV p.2 q.2.2) kvs xs ∧
    ∃ o es ep,h.get? a=some o∧o.ExactDict∧o.data=.dict es ep∧es.toList=xs.map (entryOfKey (tupleKind (zbD P w)))∧(xs.map (·.1)).Nodup
 | .set S n=>h.SetOf (intKind P w) a S n
 | .ins C dx fs=>H dx=some (.own a)∧fs.length≤1000∧dx≠a∧h.get? a=some (PySem.W.instObj C dx) ∧
    ∃ mA,h.Ns1 dx mA∧(∀ f,RelO (fs.lookup f) (mA f))∧PySem.Within mA (fs.map (·.1))
 | .own _=>∃ o,h.get? a=some o
 | .xd fs=>∃ mA,h.Ns1 a mA∧∀ f,RelO (fs.lookup f) (mA f)
 | .rng lo hi=>∃ t u v,h.get? a=some { cls:=.type "range",data:=.fields #[.int lo t,.int hi u,.int 1 v] }
 | .frz o u=>h.get? a=some o∧zbR H h a u
 | .tbl ps=>h.get? a=some { cls:=.none,data:=.fields ps }
 | .met f x=>h.get? a=some (PySem.W.methodObj (.ref f) (.ref x))
 | .ext φ=>φ h∧(∃ o,h.get? a=some o)∧∀ h1 h2:Heap,φ h1→(∀ o,h1.get? a=some o→h2.get? a=some o)→φ h2
def HOk (H:Hp) (h:Heap):Prop:=∀ a o,H a=some o→zbR P w H h a o
end
section
variable {P:Program} {w:World} {H H':Hp} {h h':Heap} {a:Addr} {o:HO}
theorem zbR.lt (x:zbR P w H h a o):a < h.objs.size:=by
 cases o with
 | lst xs=>obtain ⟨_,_,_,_,e⟩:=x;exact Heap.lt_size e
 | tup xs=>obtain ⟨_,_,_,p⟩:=x;exact p.lt
 | dK kvs=>obtain ⟨_,_,_,_,o,_,_,e,_⟩:=x;exact Heap.lt_size e
 | dT kvs=>obtain ⟨_,_,_,_,o,_,_,e,_⟩:=x;exact Heap.lt_size e
 | set S n=>obtain ⟨o,_,_,_,e,_⟩:=x;exact Heap.lt_size e
 | ins C dx fs=>obtain ⟨_,_,_,e,_⟩:=x;exact Heap.lt_size e
 | own y=>obtain ⟨_,e⟩:=x;exact Heap.lt_size e
 | xd fs=>obtain ⟨_,⟨_,_,_,e,_⟩,_⟩:=x;exact Heap.lt_size e
 | rng lo hi=>obtain ⟨_,_,_,e⟩:=x;exact Heap.lt_size e
 | frz ob u=>obtain ⟨e,_⟩:=x;exact Heap.lt_size e
 | tbl ps=>exact Heap.lt_size (show h.get? a=some _ from x)
 | met f y=>exact Heap.lt_size (show h.get? a=some _ from x)
 | ext φ=>obtain ⟨_,⟨_,e⟩,_⟩:=x;exact Heap.lt_size e
theorem Paired.mapP {α β:Type} {F G:α→β→Prop}:∀ {l₁:List α} {l₂:List β},Paired F l₁ l₂→(∀ a b,F a b→G a b)→Paired G l₁ l₂
 | _,_,.nil,_=>.nil
 | _,_,.cons r t,f=>.cons (f _ _ r) (Paired.mapP t f)
theorem zbR.stay (x:zbR P w H h a o) (k:∀ b u,(b=a∨H b=some (.own a))→h.get? b=some u→h'.get? b=some u)
  (ho:∀ b,H b=some (.own a)→H' b=some (.own a)) (ht:∀ b xs,H b=some (.tup xs)→H' b=some (.tup xs)):zbR P w H' h' a o:=by
 induction o with
 | lst xs=>obtain ⟨z,its,n,r,e⟩:=x;exact ⟨z,its,n,r,k _ _ (.inl rfl) e⟩
 | tup xs=>obtain ⟨z,its,r,ob,e,c⟩:=x;exact ⟨z,its,r,ob,k _ _ (.inl rfl) e,c⟩
 | dK kvs=>obtain ⟨z,y,vs,r,ob,es,ep,e,c⟩:=x;exact ⟨z,y,vs,r,ob,es,ep,k _ _ (.inl rfl) e,c⟩
 | dT kvs =>
   obtain ⟨z,y,xs,r,ob,es,ep,e,c⟩:=x;exact ⟨z,y,xs,Paired.mapP r fun p q z=>⟨z.1,ht _ _ z.2.1,z.2.2⟩,ob,es,ep,k _ _ (.inl rfl) e,c⟩
 | set S n=>obtain ⟨ob,es,ep,t,e,c⟩:=x;exact ⟨ob,es,ep,t,k _ _ (.inl rfl) e,c⟩
 | ins C dx fs =>
   obtain ⟨d,z,ne,e,mA,⟨od,es,ep,e2,c⟩,r⟩:=x;exact ⟨ho _ d,z,ne,k _ _ (.inl rfl) e,mA,⟨od,es,ep,k _ _ (.inr d) e2,c⟩,r⟩
 | own y=>obtain ⟨ob,e⟩:=x;exact ⟨ob,k _ _ (.inl rfl) e⟩
 | xd fs=>obtain ⟨mA,⟨od,es,ep,e,c⟩,r⟩:=x;exact ⟨mA,⟨od,es,ep,k _ _ (.inl rfl) e,c⟩,r⟩
 | rng lo hi=>obtain ⟨t,u,v,e⟩:=x;exact ⟨t,u,v,k _ _ (.inl rfl) e⟩
 | frz ob u ih=>obtain ⟨e,q⟩:=x;exact ⟨k _ _ (.inl rfl) e,ih q⟩
 | tbl ps =>
   have e:h.get? a=some { cls:=.none,data:=.fields ps }:=x;show h'.get? a=some { cls:=.none,data:=.fields ps };exact k a _ (.inl rfl) e
 | met f y =>
   have e:h.get? a=some (PySem.W.methodObj (.ref f) (.ref y)):=x;show h'.get? a=some (PySem.W.methodObj (.ref f) (.ref y));exact k a _ (.inl rfl) e
 | ext φ=>obtain ⟨p,⟨o,e⟩,st⟩:=x;exact ⟨st _ _ p fun o q=>k _ _ (.inl rfl) q,⟨o,k _ _ (.inl rfl) e⟩,st⟩
theorem HOk.lt (x:HOk P w H h) (e:H a=some o):a < h.objs.size:=(x a o e).lt
theorem HOk.fresh (x:HOk P w H h) (e:h.objs.size≤a):H a=none:=by
 cases q:H a with
 | none=>rfl
 | some u=>exact absurd (Nat.lt_of_lt_of_le (x.lt q) e) (Nat.lt_irrefl _)
theorem HOk.kept (x:HOk P w H h) (k:∀ b u,h.get? b=some u→h'.get? b=some u):HOk P w H h':=fun a o e =>
 (x a o e).stay (fun b u _ q=>k b u q) (fun _ q=>q) fun _ _ q=>q
theorem HOk.laid (x:HOk P w H h) (k:∀ b u,h.get? b=some u→h'.get? b=some u) (hp:h.objs.size≤a) (new:zbR P w (upd H a o) h' a o):HOk P w (upd H a o) h':=fun b u e=>by
 have hn:=x.fresh hp
 by_cases hb:b=a
 ·subst hb;rw [zay] at e;cases e;exact new
 ·rw [zaR hb] at e;exact (x b u e).stay (fun c v _ q=>k c v q) (fun c q=>by rw [zaR (zaj q hn)];exact q) fun c xs q=>by rw [zaR (zaj q hn)];exact q
end
def Rd (H:Hp) (a:Addr) (u:HO):Prop:=H a=some u∨∃ o,H a=some (.frz o u)
theorem Rd.ok {P:Program} {w:World} {H:Hp} {h:Heap} {a:Addr} {u:HO} (r:Rd H a u) (x:HOk P w H h):zbR P w H h a u:=by
 rcases r with r | ⟨o,r⟩
 ·exact x a u r
 ·obtain ⟨_,q⟩:=x a _ r;exact q
def Mut:Option HO→Prop
 | some (.lst _)=>True
 | some (.dK _)=>True
 | some (.dT _)=>True
 | some (.set _ _)=>True
 | some (.ins _ _ _)=>True
 | some (.ext _)=>True
 | _=>False
section
variable {P:Program} {w:World} {H:Hp} {h h':Heap} {x e:Addr} {o':HO}
theorem HOk.write (ok:HOk P w H h) (mu:Mut (H x)) (he:e=x∨H e=some (.own x)) (k:∀ b u,b≠e→h.get? b=some u→h'.get? b=some u) (heo:∃ u,h'.get? e=some u)
  (new:zbR P w (upd H x o') h' x o'):HOk P w (upd H x o') h':=fun b u q=>by
 have nown:∀ c y,H c=some (.own y)→c≠x:=fun c y r z=>by subst z;rw [r] at mu;exact mu
 have ntup:∀ c xs,H c=some (.tup xs)→c≠x:=fun c xs r z=>by subst z;rw [r] at mu;exact mu
 by_cases hb:b=x
 ·subst hb;rw [zay] at q;cases q;exact new
 ·rw [zaR hb] at q
  by_cases hbe:b=e
  ·have q':H b=some (.own x):=by
    rcases he with z | z
    ·exact absurd (hbe.trans z) hb
    ·rw [hbe];exact z
   rw [q] at q';cases q'
   obtain ⟨v,hv⟩:=heo;exact ⟨v,by rw [hbe];exact hv⟩
  ·refine (ok b u q).stay (fun c v hc r=>k c v ?_ r) (fun c r=>by rw [zaR (nown c b r)];exact r) fun c xs r=>by rw [zaR (ntup c xs r)];exact r
   rcases hc with rfl | hc
   ·exact hbe
   ·rintro rfl;rcases he with z | z
    ·exact nown c b hc z
    ·rw [hc] at z;cases z;exact hb rfl
end
structure Un (fs ex:List Addr) (H H':Hp) (h h':Heap):Prop where
 keep:∀ b o,h.get? b=some o→H b=none→b∉fs→b∉ex→h'.get? b=some o
 slot:∀ b o,h.get? b=some o→H b=none→b∈fs→b∉ex→∃ sl,h'.get? b=some { o with slots:=sl }
 free:∀ b o,h.get? b=some o→H b=none→b∉ex→H' b=none
 there:∀ b o,h.get? b=some o→b∉ex→∃ o',h'.get? b=some o'
 tups:∀ b xs,H b=some (.tup xs)→H' b=some (.tup xs)
 frzs:∀ b o u,H b=some (.frz o u)→H' b=some (.frz o u)
 tbls:∀ b ps,H b=some (.tbl ps)→∃ more,H' b=some (.tbl (ps++more))
section
variable {fs fs' ex ex':List Addr} {H H1 H2:Hp} {h h1 h2 h':Heap} {a x e:Addr} {o:HO}
theorem Un.any (u:Un fs ex H H1 h h1) {b:Addr} {ob:Obj} (q:h.get? b=some ob) (n:H b=none) (hx:b∉ex):∃ sl,h1.get? b=some { ob with slots:=sl }:=by
 by_cases hb:b∈fs
 ·exact u.slot b ob q n hb hx
 ·exact ⟨ob.slots,u.keep b ob q n hb hx⟩
theorem Un.kept (k:∀ b u,h.get? b=some u→h'.get? b=some u):Un fs ex H H h h' :=
 ⟨fun b ob q _ _ _=>k b ob q,fun b ob q _ _ _=>⟨ob.slots,k b ob q⟩,fun _ _ _ n _=>n,fun b ob q _=>⟨ob,k b ob q⟩,fun _ _ q=>q,fun _ _ _ q=>q,fun _ ps q=>⟨#[],by rw [q];simp⟩⟩
theorem Un.refl:Un fs ex H H h h:=Un.kept fun _ _ q=>q
theorem Un.laid (k:∀ b u,h.get? b=some u→h'.get? b=some u) (hp:h.objs.size≤a) (hn:H a=none):Un fs ex H (upd H a o) h h' where
 keep:=fun b u q _ _ _=>k b u q
 slot:=fun b u q _ _ _=>⟨u.slots,k b u q⟩
 free:=fun b u q n _=>by rw [zaR (Nat.ne_of_lt (Nat.lt_of_lt_of_le (Heap.lt_size q) hp))];exact n
 there:=fun b u q _=>⟨u,k b u q⟩
 tups:=fun b xs q=>by rw [zaR (zaj q hn)];exact q
 frzs:=fun b u xs q=>by rw [zaR (zaj q hn)];exact q
 tbls:=fun b ps q=>⟨#[],by rw [zaR (zaj q hn),q];simp⟩
theorem Un.write (mu:Mut (H x)) (he:e=x∨H e=some (.own x)) (k:∀ b u,b≠e→h.get? b=some u→h'.get? b=some u) (heo:∃ u,h'.get? e=some u):Un fs ex H (upd H x o) h h':=by
 have hx:∀ b,H b=none→b≠x:=fun b n z=>by subst z;rw [n] at mu;exact mu
 have hb:∀ b,H b=none→b≠e:=fun b n z=>by
  subst z;rcases he with r | r
  ·exact hx b n r
  ·rw [n] at r;cases r
 have hm:∀ b u,H b=some u→¬Mut (some u)→b≠x:=fun b u q nm z=>by subst z;rw [q] at mu;exact nm mu
 refine ⟨fun b u q n _ _=>k b u (hb b n) q,fun b u q n _ _=>⟨u.slots,k b u (hb b n) q⟩,fun b u q n _=>by rw [zaR (hx b n)];exact n,fun b u q _=>?_,
  fun b xs q=>by rw [zaR (hm b _ q fun z=>z)];exact q,fun b u xs q=>by rw [zaR (hm b _ q fun z=>z)];exact q,fun b ps q=>⟨#[],by rw [zaR (hm b _ q fun z=>z),q];simp⟩⟩
 by_cases hbe:b=e
 ·subst hbe;exact heo
 ·exact ⟨u,k b u hbe q⟩
end
def trk (h:Heap) (H:Hp):List Addr:=(List.range h.objs.size).filter fun a=>(H a).isSome
def hidT (h:Heap) (H:Hp):Heap:=PySem.W.hideAll h (trk h H)
theorem zje (h:Heap) (H:Hp):(hidT h H).objs.size=h.objs.size:=PySem.W.hideAll_size _ _
theorem zkB {h:Heap} {H:Hp} {b:Addr} {o:Obj} (e:h.get? b=some o) (n:H b=none):(hidT h H).get? b=some o :=
 PySem.W.hideAll_get _ e fun hm=>by
  have q:(H b).isSome=true:=(List.mem_filter.mp hm).2;rw [n] at q;simp at q
theorem zlP {h:Heap} {H:Hp} {b:Addr} {o:Obj} (e:(hidT h H).get? b=some o):h.get? b=some o∧H b=none:=by
 have e':h.get? b=some o:=PySem.W.of_hideAll (trk h H) e;refine ⟨e',?_⟩
 cases q:H b with
 | none=>rfl
 | some x =>
   have hm:b∈trk h H:=List.mem_filter.mpr ⟨List.mem_range.mpr (Heap.lt_size e'),by simp [q]⟩;have z:(hidT h H).get? b=none:=PySem.W.hideAll_none (trk h H) hm;rw [z] at e;cases e
end L2
namespace L2
open PySem PySem.Spec PyProof.Rows
structure Mod (K:PySem.W.Frag) (mg:Str→Option Value) (base:Heap):Prop where
 kin:K.In base
 glob:base.Ns mainGlobals mg
 blt:∃ mb,base.Ns builtinsNs mb∧∀ x:Str,x≠"__name__"→mb x=bootBuiltins x
 nolimit:base.NoLimit
structure Cx where
 prog:Program
 w:World
 K:PySem.W.Frag
 mg:Str→Option Value
 base:Heap
 A:Around
 N:List Str
 s₀:Shared
 H₀:Hp
 env:Env
 outer:List Env
 stack:List Env
 ex:List Addr
 fn:Str→Bool
 calm:Bool
 pn:List (Addr×Obj)
 xe:Value→Shared→Prop
def frs (l:List Env):List Addr:=l.filterMap (·.frame)
abbrev Cx.fs (X:Cx):List Addr:=frs X.outer
def Vis (sc:Scope) (x:Str):Prop:=sc.names.lookup x=some .local∨sc.names.lookup x=some .cell∨sc.names.lookup x=some .free
def Loc (sc:Scope) (x:Str):Prop:=sc.names.lookup x=some .local∨sc.names.lookup x=some .cell
def Look (env:Env) (h:Heap) (m:Str→Option Value) (x:Str) (u:Value):Prop :=
 (env.kindOf x=some .local∧m x=some u)∨((env.kindOf x=some .cell∨env.kindOf x=some .free)∧∃ c,env.cells.lookup x=some c∧h.IsCell c (some u))
structure Cx.Ok (X:Cx):Prop where
 mod:Mod X.K X.mg X.base
 kind:X.env.scope.kind=.function
 glob:X.env.globals=mainGlobals
 blt:X.env.builtins=builtinsNs
 above:X.s₀.heap.objs.size≤X.env.locals
 inj:∀ x y c,X.env.cells.lookup x=some c→X.env.cells.lookup y=some c→x=y
 has:∀ x,(X.env.kindOf x=some .cell∨X.env.kindOf x=some .free)→∃ c,X.env.cells.lookup x=some c
 cab:∀ x c,X.fn x=true→X.env.cells.lookup x=some c→X.s₀.heap.objs.size≤c
 hd:X.calm=true→X.A.handled=none
 frames:X.A.frames=some X.stack
 stk:X.stack=X.outer∨(X.stack=X.env::X.outer∧X.env.frame=some X.env.locals)
 exf:∀ b∈X.ex,b≠X.env.locals∧∀ x c,X.env.cells.lookup x=some c→c≠b
 bs:∀ b o,X.base.get? b=some o→X.s₀.heap.get? b=some o∧X.H₀ b=none
 bsz:X.base.objs.size≤X.s₀.heap.objs.size
 noex:∀ b o,X.base.get? b=some o→b∉X.ex
 exfs:∀ b∈X.ex,b∉X.fs
 funs:X.s₀.heap.FunFrames X.base X.outer
 frf:∀ b∈X.fs,X.H₀ b=none
structure Inv (X:Cx) (pins:List (Addr×Obj)) (σ:List (Option V)) (H:Hp) (s:Shared):Prop where
 ok:X.Ok
 os:s.os=X.s₀.os
 bare:AllBare s.gens
 base:Un X.fs X.ex X.H₀ H X.s₀.heap s.heap
 loc:∃ m,s.heap.Ns X.env.locals m∧∀ (i:Nat) (x:Str) (v:V),X.N[i]? = some x→σ[i]? = some (some v)→Vis X.env.scope x→∃ u,RelV v u∧Look X.env s.heap m x u
 cell:∀ x c,X.env.cells.lookup x=some c→∃ v,s.heap.IsCell c v
 free:H X.env.locals=none
 freeC:∀ x c,X.env.cells.lookup x=some c→H c=none
 pin:∀ p∈X.pn++pins,s.heap.get? p.1=some p.2∧H p.1=none∧p.1≠X.env.locals∧p.1∉X.fs∧∀ v,p.2.data≠.cell v
 hok:HOk X.prog X.w H s.heap
 len:σ.length=X.N.length
section
variable {X:Cx} {pins:List (Addr×Obj)} {σ:List (Option V)} {H H':Hp} {s:Shared} {h':Heap}
theorem Cx.Ok.nofr (ok:X.Ok) {b:Addr} {o:Obj} (e:X.base.get? b=some o):b∉X.fs:=fun hb=>by
 have:=(ok.funs.mem hb).1;rw [e] at this;cases this
theorem Inv.bs (I:Inv X pins σ H s):∀ b o,X.base.get? b=some o→s.heap.get? b=some o∧H b=none:=fun b o e =>
 ⟨I.base.keep b o (I.ok.bs b o e).1 (I.ok.bs b o e).2 (I.ok.nofr e) (I.ok.noex b o e),I.base.free b o (I.ok.bs b o e).1 (I.ok.bs b o e).2 (I.ok.noex b o e)⟩
theorem Inv.bk (I:Inv X pins σ H s):∀ b o,X.base.get? b=some o→s.heap.get? b=some o:=fun b o e=>(I.bs b o e).1
theorem Inv.mod (I:Inv X pins σ H s):Mod X.K X.mg X.base:=I.ok.mod
theorem Inv.kIn (I:Inv X pins σ H s):X.K.In s.heap:=I.ok.mod.kin.keeps I.bk
theorem Inv.lt (I:Inv X pins σ H s):X.env.locals < s.heap.objs.size:=let ⟨_,hn,_⟩:=I.loc;hn.lt
theorem Inv.sz (I:Inv X pins σ H s):X.s₀.heap.objs.size≤s.heap.objs.size:=Nat.le_trans I.ok.above (Nat.le_of_lt I.lt)
theorem Inv.nofs (I:Inv X pins σ H s) {a:Addr} (h:s.heap.objs.size≤a):a∉X.fs:=fun hb=>by
 obtain ⟨_,o,ho,_⟩:=I.ok.funs.mem hb;exact absurd (Nat.lt_of_lt_of_le (Heap.lt_size ho) (Nat.le_trans I.sz h)) (Nat.lt_irrefl _)
theorem Inv.cne (I:Inv X pins σ H s):∀ x c,X.env.cells.lookup x=some c→c≠X.env.locals:=fun x c e z=>by
 obtain ⟨v,o,ho,hd⟩:=I.cell x c e;obtain ⟨m,⟨o',es,ep,ho',hd',_⟩,_⟩:=I.loc;rw [z,ho'] at ho;cases ho;rw [hd'] at hd;cases hd
theorem Inv.funs (I:Inv X pins σ H s):s.heap.FunFrames X.base X.outer:=by
 have all:∀ (l:List Env),(∀ b∈frs l,b∈X.fs)→X.s₀.heap.FunFrames X.base l→s.heap.FunFrames X.base l:=by
  intro l
  induction l with
  | nil=>intro _ _;trivial
  | cons env r ih =>
    intro hs hl;obtain ⟨hk,⟨L,o,hf,hn,ho,hd⟩,hr⟩:=hl;have hL:L∈X.fs:=hs L (by unfold frs;rw [List.filterMap_cons,hf];exact List.mem_cons_self);obtain ⟨sl,e⟩:=I.base.slot L o ho (I.ok.frf L hL) hL fun z=>I.ok.exfs L z hL;exact ⟨hk,⟨L,_,hf,hn,e,hd⟩,ih (fun b hb=>hs b (by unfold frs;rw [List.filterMap_cons,hf];exact List.mem_cons_of_mem _ hb)) hr⟩
 exact all X.outer (fun _ hb=>hb) I.ok.funs
theorem Inv.stack (I:Inv X pins σ H s):s.heap.FunFrames X.base X.stack:=by
 rcases I.ok.stk with e | ⟨e,hf⟩
 ·rw [e];exact I.funs
 ·rw [e];obtain ⟨m,hn,_⟩:=I.loc;refine .cons (by rw [I.ok.kind];decide) hf hn ?_ I.funs;exact Heap.get?_none_of_le (Nat.le_trans I.ok.bsz I.ok.above)
theorem Inv.stkSub (I:Inv X pins σ H s):∀ b∈frs X.stack,b∈X.env.locals::X.fs:=fun b hb=>by
 rcases I.ok.stk with e | ⟨e,hf⟩
 ·rw [e] at hb;exact List.mem_cons_of_mem _ hb
 ·rw [e] at hb;unfold frs at hb;rw [List.filterMap_cons,hf] at hb;exact hb
theorem Inv.stkFree (I:Inv X pins σ H s):∀ b∈frs X.stack,H b=none:=fun b hb=>by
 rcases List.mem_cons.mp (I.stkSub b hb) with e | hb
 ·rw [e];exact I.free
 ·obtain ⟨_,o,ho,_⟩:=I.ok.funs.mem hb;exact I.base.free b o ho (I.ok.frf b hb) fun z=>I.ok.exfs b z hb
theorem Inv.step {g':Array GenState} {t':Nat} {d':Drawn} {ch:List Addr} (I:Inv X pins σ H s)
  (hch:∀ b∈ch,(b∈X.ex∨X.s₀.heap.objs.size≤b)∧b≠X.env.locals∧(∀ x c,X.env.cells.lookup x=some c→c≠b)∧∀ p∈X.pn++pins,p.1≠b)
  (keep:∀ b o,b≠X.env.locals→b∉X.fs→b∉ch→s.heap.get? b=some o→H b=none→h'.get? b=some o)
  (slot:∀ b o,b≠X.env.locals→b∈X.fs→b∉ch→s.heap.get? b=some o→H b=none→∃ sl,h'.get? b=some { o with slots:=sl }) (free:∀ b o,b∉ch→s.heap.get? b=some o→H b=none→H' b=none)
  (there:∀ b o,b∉ch→s.heap.get? b=some o→∃ o',h'.get? b=some o')
  (tups:∀ b xs,H b=some (.tup xs)→H' b=some (.tup xs)) (frzs:∀ b o u,H b=some (.frz o u)→H' b=some (.frz o u)) (tbls:∀ b ps,H b=some (.tbl ps)→∃ more,H' b=some (.tbl (ps++more)))
  (ns:∀ m,s.heap.Ns X.env.locals m→h'.Ns X.env.locals m) (hok:HOk X.prog X.w H' h') (hg:AllBare g') :
  Inv X pins σ H' { s with heap:=h',gens:=g',drawn:=d',toks:=t' }:=by
 have neL:∀ b o,X.s₀.heap.get? b=some o→b≠X.env.locals:=fun b o e=>Nat.ne_of_lt (Nat.lt_of_lt_of_le (Heap.lt_size e) I.ok.above);have neC:∀ b o,X.s₀.heap.get? b=some o→b∉X.ex→b∉ch:=fun b o e hx hb=>by
  rcases (hch b hb).1 with z | z
  ·exact hx z
  ·exact absurd (Nat.lt_of_lt_of_le (Heap.lt_size e) z) (Nat.lt_irrefl _)
 have cellK:∀ x c,X.env.cells.lookup x=some c→∀ v,s.heap.IsCell c v→h'.IsCell c v:=fun x c e v ⟨o,ho,hd⟩=>by
  have nch:c∉ch:=fun z=>(hch c z).2.2.1 x c e rfl
  by_cases hc:c∈X.fs
  ·obtain ⟨sl,q⟩:=slot c o (I.cne x c e) hc nch ho (I.freeC x c e);exact ⟨_,q,hd⟩
  ·exact ⟨o,keep c o (I.cne x c e) hc nch ho (I.freeC x c e),hd⟩
 refine ⟨I.ok,I.os,hg,⟨fun b o e n hb hx=>?_,fun b o e n hb hx=>?_,fun b o e n hx=>?_,fun b o e hx=>?_,fun b xs e=>tups b xs (I.base.tups b xs e),fun b o xs e=>frzs b o xs (I.base.frzs b o xs e),fun b ps e=>?_⟩,?_,fun x c e=>?_,?_,fun x c e=>?_,fun p hp=>?_,hok,I.len⟩
 ·exact keep b o (neL b o e) hb (neC b o e hx) (I.base.keep b o e n hb hx) (I.base.free b o e n hx)
 ·obtain ⟨sl,e1⟩:=I.base.slot b o e n hb hx;obtain ⟨sl',e2⟩:=slot b _ (neL b o e) hb (neC b o e hx) e1 (I.base.free b o e n hx);exact ⟨sl',e2⟩
 ·obtain ⟨o',e1⟩:=I.base.there b o e hx;exact free b o' (neC b o e hx) e1 (I.base.free b o e n hx)
 ·obtain ⟨o',e1⟩:=I.base.there b o e hx;exact there b o' (neC b o e hx) e1
 ·obtain ⟨m1,e1⟩:=I.base.tbls b ps e;obtain ⟨m2,e2⟩:=tbls b _ e1;exact ⟨m1++m2,by rw [e2,Array.append_assoc]⟩
 ·obtain ⟨m,hn,hl⟩:=I.loc;refine ⟨m,ns m hn,fun i x v e1 e2 e3=>?_⟩;obtain ⟨u,r,l⟩:=hl i x v e1 e2 e3;refine ⟨u,r,?_⟩;rcases l with l | ⟨k,c,e,z⟩
  ·exact .inl l
  ·exact .inr ⟨k,c,e,cellK x c e _ z⟩
 ·obtain ⟨v,z⟩:=I.cell x c e;exact ⟨v,cellK x c e v z⟩
 ·obtain ⟨m,⟨o,_,_,ho,_⟩,_⟩:=I.loc;exact free _ o (fun z=>(hch _ z).2.1 rfl) ho I.free
 ·obtain ⟨v,o,ho,hd⟩:=I.cell x c e;exact free c o (fun z=>(hch c z).2.2.1 x c e rfl) ho (I.freeC x c e)
 ·obtain ⟨e,n,ne,nf,d⟩:=I.pin p hp;have nch:p.1∉ch:=fun z=>(hch p.1 z).2.2.2 p hp rfl;exact ⟨keep p.1 p.2 ne nf nch e n,free p.1 p.2 nch e n,ne,nf,d⟩
theorem Inv.un {t':Nat} (I:Inv X pins σ H s) (u:Un X.fs [] H H' s.heap h') (hok:HOk X.prog X.w H' h'):Inv X pins σ H' { s with heap:=h',toks:=t' }:=by
 obtain ⟨m,⟨o,es,ep,ho,r⟩,_⟩:=id I.loc;obtain ⟨sl,hL⟩:=u.any ho I.free (by simp);exact I.step (g':=s.gens) (d':=s.drawn) (ch:=[]) (fun _ z=>nomatch z) (fun b o _ hb _ e n=>u.keep b o e n hb (by simp)) (fun b o _ hb _ e n=>u.slot b o e n hb (by simp)) (fun b o _ e n=>u.free b o e n (by simp)) (fun b o _ e=>u.there b o e (by simp)) u.tups u.frzs u.tbls (fun m' hm=>by
  obtain ⟨o',es',ep',ho',r'⟩:=hm;rw [ho] at ho';cases ho'
  exact ⟨_,es',ep',hL,r'⟩) hok I.bare
theorem Inv.call {g':Array GenState} {t':Nat} {d':Drawn} {ch:List Addr} (I:Inv X pins σ H s) (u:Un (frs X.stack) ch H H' s.heap h') (hok:HOk X.prog X.w H' h') (hg:AllBare g')
  (hch:∀ b∈ch,(b∈X.ex∨X.s₀.heap.objs.size≤b)∧b≠X.env.locals∧(∀ x c,X.env.cells.lookup x=some c→c≠b)∧∀ p∈X.pn++pins,p.1≠b) :
  Inv X pins σ H' { s with heap:=h',gens:=g',drawn:=d',toks:=t' }:=by
 obtain ⟨m,⟨o,es,ep,ho,r⟩,_⟩:=id I.loc;obtain ⟨sl,hL⟩:=u.any ho I.free fun z=>(hch _ z).2.1 rfl;exact I.step (ch:=ch) hch (fun b o hL hb hc e n=>u.keep b o e n (fun z=>(List.mem_cons.mp (I.stkSub b z)).elim hL hb) hc) (fun b o _ _ hc e n=>u.any e n hc) (fun b o hc e n=>u.free b o e n hc) (fun b o hc e=>u.there b o e hc) u.tups u.frzs u.tbls (fun m' hm=>by
  obtain ⟨o',es',ep',ho',r'⟩:=hm;rw [ho] at ho';cases ho'
  exact ⟨_,es',ep',hL,r'⟩) hok hg
theorem Inv.turned {t':Nat} {it:Addr} (I:Inv X pins σ H s) (k:∀ b o,b≠it→s.heap.get? b=some o→h'.get? b=some o) (hn:H it=none) (hL:it≠X.env.locals)
  (h1:it∈X.ex∨X.s₀.heap.objs.size≤it) (h2:∀ x c,X.env.cells.lookup x=some c→c≠it) (h3:∀ p∈X.pn++pins,p.1≠it):Inv X pins σ H { s with heap:=h',toks:=t' }:=by
 have nit:∀ b u,H b=some u→b≠it:=fun b u e z=>by rw [z,hn] at e;cases e
 refine I.step (g':=s.gens) (d':=s.drawn) (ch:=[it]) (fun b hb=>?_) (fun b o _ _ hc e _=>k b o (fun z=>hc (by simp [z])) e) (fun b o _ _ hc e _=>⟨o.slots,k b o (fun z=>hc (by simp [z])) e⟩) (fun _ _ _ _ n=>n)
  (fun b o hc e=>⟨o,k b o (fun z=>hc (by simp [z])) e⟩) (fun _ _ e=>e) (fun _ _ _ e=>e) (fun b ps e=>⟨#[],by rw [e];simp⟩) (fun m hm=>?_) (fun b u e=>?_) I.bare
 ·have e:b=it:=by simpa using hb
  subst e;exact ⟨h1,hL,h2,h3⟩
 ·obtain ⟨o,es,ep,ho,r⟩:=hm;exact ⟨o,es,ep,k _ o (Ne.symm hL) ho,r⟩
 ·refine (I.hok b u e).stay (fun c v hc q=>k c v ?_ q) (fun _ q=>q) fun _ _ q=>q;rcases hc with z | z
  ·rw [z];exact nit b u e
  ·exact nit c _ z
theorem Inv.tok (I:Inv X pins σ H s) (t:Nat):Inv X pins σ H { s with toks:=t }:=I.un (h':=s.heap) (t':=t) Un.refl I.hok
theorem Inv.kept {t':Nat} (I:Inv X pins σ H s) (k:∀ b u,s.heap.get? b=some u→h'.get? b=some u):Inv X pins σ H { s with heap:=h',toks:=t' }:=I.un (Un.kept k) (I.hok.kept k)
theorem Inv.laid {a:Addr} {o:HO} {t':Nat} (I:Inv X pins σ H s) (k:∀ b u,s.heap.get? b=some u→h'.get? b=some u) (hp:s.heap.objs.size≤a) (new:zbR X.prog X.w (upd H a o) h' a o) :
  Inv X pins σ (upd H a o) { s with heap:=h',toks:=t' }:=I.un (Un.laid k hp (I.hok.fresh hp)) (I.hok.laid k hp new)
theorem Inv.write {x e:Addr} {o:HO} {t':Nat} (I:Inv X pins σ H s) (mu:Mut (H x)) (he:e=x∨H e=some (.own x)) (k:∀ b u,b≠e→s.heap.get? b=some u→h'.get? b=some u) (heo:∃ u,h'.get? e=some u)
  (new:zbR X.prog X.w (upd H x o) h' x o):Inv X pins σ (upd H x o) { s with heap:=h',toks:=t' }:=I.un (Un.write mu he k heo) (I.hok.write mu he k heo new)
theorem Inv.pins_of {pins':List (Addr×Obj)} (I:Inv X pins σ H s) (h:∀ p∈pins',s.heap.get? p.1=some p.2∧H p.1=none∧p.1≠X.env.locals∧p.1∉X.fs∧∀ v,p.2.data≠.cell v):Inv X pins' σ H s :=
 ⟨I.ok,I.os,I.bare,I.base,I.loc,I.cell,I.free,I.freeC,fun p hp=>(List.mem_append.mp hp).elim (fun z=>I.pin p (List.mem_append_left _ z)) (h p),I.hok,I.len⟩
theorem zhR {N:List Str} (hN:N.Nodup) {i j:Nat} {x:Str} (a:N[i]? = some x) (b:N[j]? = some x):i=j:=by
 obtain ⟨h1,e1⟩:=List.getElem?_eq_some_iff.mp a;obtain ⟨h2,e2⟩:=List.getElem?_eq_some_iff.mp b;exact (List.getElem_inj hN).mp (e1.trans e2.symm)
theorem zgg {M:Model} {A:Around} {E:Value→Shared→Prop} {i:Nat} {x:Str} {v:V} {u:Value} {Q:Unit→Shared→Prop} (I:Inv X pins σ H s) (hN:X.N.Nodup) (hi:X.N[i]? = some x) (hx:Loc X.env.scope x) (r:RelV v u)
  (h:∀ s',Inv X pins (σ.set i (some v)) H s'→(∃ a,Heap.SameBut a s.heap s'.heap∧(a=X.env.locals∨X.env.cells.lookup x=some a))→Q () s') (hf:X.fn x=true∨X.env.scope.names.lookup x=some .local:=by first | exact .inl rfl | exact .inr rfl | assumption):wpAny M A (storeName X.env x u) Q E s:=by
 obtain ⟨m,hn,hl⟩:=id I.loc;have hcls:(X.env.scope.kind == .class || (X.env.scope.kind == .module && X.env.locals != X.env.globals))=false:=by rw [I.ok.kind];rfl
 have hiσ:i < σ.length:=by rw [I.len];exact (List.getElem?_eq_some_iff.mp hi).1
 have cne:=I.cne;have tracked:∀ {a:Addr} {h':Heap},(∃ o,s.heap.get? a=some o∧H a=none)→Heap.SameBut a s.heap h'→HOk X.prog X.w H h':=fun {a h'} ha hs b ob e=>by
  obtain ⟨_,_,hfree⟩:=ha;refine (I.hok b ob e).stay (fun c w' hc q=>(hs.2 c ?_).trans q) (fun _ q=>q) fun _ _ q=>q;rintro rfl;rcases hc with rfl | hc
  ·rw [hfree] at e;cases e
  ·rw [hfree] at hc;cases hc
 rcases hx with hk | hk
 ·refine wpAny_storeName_local hk hn (fun h' hn' hs=>?_) hcls;obtain ⟨oL,_,_,hoL,_⟩:=id hn;refine h _ ⟨I.ok,I.os,I.bare,⟨fun b o e n hb hx=>?_,fun b o e n hb hx=>?_,I.base.free,fun b o e hx=>?_,I.base.tups,I.base.frzs,I.base.tbls⟩,⟨_,hn',fun j y v' e1 e2 e3=>?_⟩,fun y c e=>?_,I.free,I.freeC,fun p hp=>?_,tracked ⟨oL,hoL,I.free⟩ hs,by simpa using I.len⟩ ⟨_,hs,.inl rfl⟩
  ·exact (hs.2 b (Nat.ne_of_lt (Nat.lt_of_lt_of_le (Heap.lt_size e) I.ok.above))).trans (I.base.keep b o e n hb hx)
  ·obtain ⟨sl,e1⟩:=I.base.slot b o e n hb hx;exact ⟨sl,(hs.2 b (Nat.ne_of_lt (Nat.lt_of_lt_of_le (Heap.lt_size e) I.ok.above))).trans e1⟩
  ·obtain ⟨o',e1⟩:=I.base.there b o e hx;exact ⟨o',(hs.2 b (Nat.ne_of_lt (Nat.lt_of_lt_of_le (Heap.lt_size e) I.ok.above))).trans e1⟩
  ·by_cases hj:j=i
   ·subst hj;rw [hi] at e1;cases e1
    rw [List.getElem?_set_self hiσ] at e2
    cases e2
    exact ⟨u,r,.inl ⟨hk,by simp⟩⟩
   ·rw [List.getElem?_set_ne (Ne.symm hj)] at e2;obtain ⟨u',r',q⟩:=hl j y v' e1 e2 e3;refine ⟨u',r',?_⟩;rcases q with ⟨k,e⟩ | ⟨k,c,e,z⟩
    ·refine .inl ⟨k,?_⟩;have:y≠x:=fun e=>hj (zhR hN e1 (e▸hi));simp [this,e]
    ·exact .inr ⟨k,c,e,z.sameBut hs (cne y c e)⟩
  ·obtain ⟨w',z⟩:=I.cell y c e;exact ⟨w',z.sameBut hs (cne y c e)⟩
  ·obtain ⟨e,n,ne,nf,d⟩:=I.pin p hp;exact ⟨(hs.2 p.1 ne).trans e,n,ne,nf,d⟩
 ·have hfn:X.fn x=true:=by
   rcases hf with z | z
   ·exact z
   ·rw [z] at hk;cases hk
  obtain ⟨c,hc⟩:=I.ok.has x (.inl hk);obtain ⟨w',z⟩:=I.cell x c hc;refine wpAny_storeName_cell I.ok.kind hk hc z (fun h' hc' hs=>?_);obtain ⟨oc,hoc,hocd⟩:=id z;refine h { s with heap:=h' } ⟨I.ok,I.os,I.bare,⟨fun b o e n hb hx=>?_,fun b o e n hb hx=>?_,I.base.free,fun b o e hx=>?_,I.base.tups,I.base.frzs,I.base.tbls⟩,⟨m,hn.sameBut hs (Ne.symm (cne x c hc)),fun j y v' e1 e2 e3=>?_⟩,fun y c' e=>?_,I.free,I.freeC,fun p hp=>?_,tracked ⟨oc,hoc,I.freeC x c hc⟩ hs,by simpa using I.len⟩ ⟨c,hs,.inr hc⟩
  ·exact (hs.2 b (Nat.ne_of_lt (Nat.lt_of_lt_of_le (Heap.lt_size e) (I.ok.cab x c hfn hc)))).trans (I.base.keep b o e n hb hx)
  ·obtain ⟨sl,e1⟩:=I.base.slot b o e n hb hx;exact ⟨sl,(hs.2 b (Nat.ne_of_lt (Nat.lt_of_lt_of_le (Heap.lt_size e) (I.ok.cab x c hfn hc)))).trans e1⟩
  ·obtain ⟨o',e1⟩:=I.base.there b o e hx;exact ⟨o',(hs.2 b (Nat.ne_of_lt (Nat.lt_of_lt_of_le (Heap.lt_size e) (I.ok.cab x c hfn hc)))).trans e1⟩
  ·by_cases hj:j=i
   ·subst hj;rw [hi] at e1;cases e1
    rw [List.getElem?_set_self hiσ] at e2
    cases e2
    exact ⟨u,r,.inr ⟨.inl hk,c,hc,hc'⟩⟩
   ·rw [List.getElem?_set_ne (Ne.symm hj)] at e2;obtain ⟨u',r',q⟩:=hl j y v' e1 e2 e3;refine ⟨u',r',?_⟩;rcases q with q | ⟨k,c',e,z'⟩
    ·exact .inl q
    ·refine .inr ⟨k,c',e,z'.sameBut hs ?_⟩;rintro rfl;exact hj (zhR hN e1 (I.ok.inj _ _ _ e hc▸hi))
  ·by_cases hcc:c'=c
   ·subst hcc;exact ⟨_,hc'⟩
   ·obtain ⟨w2,z2⟩:=I.cell y c' e;exact ⟨w2,z2.sameBut hs hcc⟩
  ·obtain ⟨e,n,ne,nf,d⟩:=I.pin p hp;refine ⟨(hs.2 p.1 ?_).trans e,n,ne,nf,d⟩;intro q;rw [q,hoc] at e;have q':oc=p.2:=Option.some.inj e;exact d w' (by rw [← q'];exact hocd)
theorem zhS {M:Model} {A:Around} {E:Value→Shared→Prop} {i:Nat} {x:Str} {v:V} {u:Value} {Q:Unit→Shared→Prop} (I:Inv X pins σ H s) (hN:X.N.Nodup) (hi:X.N[i]? = some x) (hx:Loc X.env.scope x) (r:RelV v u)
  (h:∀ s',Inv X pins (σ.set i (some v)) H s'→Q () s') (hf:X.fn x=true∨X.env.scope.names.lookup x=some .local:=by first | exact .inl rfl | exact .inr rfl | assumption):wpAny M A (storeName X.env x u) Q E s :=
 zgg I hN hi hx r (fun s' I' _=>h s' I') hf
theorem Inv.call' {s':Shared} {ch:List Addr} (I:Inv X pins σ H s) (ho:s'.os=s.os) (u:Un (frs X.stack) ch H H' s.heap s'.heap) (hok:HOk X.prog X.w H' s'.heap) (hg:AllBare s'.gens)
  (hch:∀ b∈ch,(b∈X.ex∨X.s₀.heap.objs.size≤b)∧b≠X.env.locals∧(∀ x c,X.env.cells.lookup x=some c→c≠b)∧∀ p∈X.pn++pins,p.1≠b):Inv X pins σ H' s':=by
 obtain ⟨h',g',d',t',o'⟩:=s';have e:o'=s.os:=ho;subst e;exact I.call (g':=g') (t':=t') (d':=d') u hok hg hch
end
abbrev XK:=Value→Option Addr→Hp→Prop
abbrev St:=List (Option V)
abbrev VK:=V→Hp→Prop
abbrev TE:=St→Hp→VK→Prop
abbrev TT:=St→Hp→(Bool→Hp→Prop)→Prop
abbrev TA:=St→Hp→(List V→Hp→Prop)→Prop
structure Ends where
 nx:St→Hp→Prop
 rt:VK
 bk:St→Hp→Prop:=fun _ _=>False
 ct:St→Hp→Prop:=fun _ _=>False
abbrev TS:=Ends→St→Hp→Prop
def EP (X:Cx) (pins:List (Addr×Obj)) (σ:St) (Q:VK) (u:Value) (s':Shared):Prop:=∃ v H',Inv X pins σ H' s'∧RelV v u∧Q v H'
def TP (X:Cx) (pins:List (Addr×Obj)) (σ:St) (Q:Bool→Hp→Prop) (b:Bool) (s':Shared):Prop:=∃ H',Inv X pins σ H' s'∧Q b H'
def AP (X:Cx) (pins:List (Addr×Obj)) (σ:St) (Q:List V→Hp→Prop) (us:List Value) (s':Shared):Prop:=∃ vs H',Inv X pins σ H' s'∧Vals vs us∧Q vs H'
def SP (X:Cx) (pins:List (Addr×Obj)) (D:Ends) (f:Flow) (s':Shared):Prop :=
 match f with
 | .next=>∃ σ' H',Inv X pins σ' H' s'∧D.nx σ' H'
 | .brk=>∃ σ' H',Inv X pins σ' H' s'∧D.bk σ' H'
 | .cont=>∃ σ' H',Inv X pins σ' H' s'∧D.ct σ' H'
 | .ret u=>∃ v σ' H',Inv X pins σ' H' s'∧RelV v u∧D.rt v H'
def PE (X:Cx) (e:Expr) (t:TE):Prop :=
 ∀ (pins:List (Addr×Obj)) (s:Shared) (σ:St) (H:Hp) (Q:VK),Inv X pins σ H s→t σ H Q→wpAny (model X.prog X.w) X.A (eval e X.env) (EP X pins σ Q) X.xe s
def PT (X:Cx) (e:Expr) (t:TT):Prop :=
 ∀ (pins:List (Addr×Obj)) (s:Shared) (σ:St) (H:Hp) (Q:Bool→Hp→Prop),Inv X pins σ H s→t σ H Q→wpAny (model X.prog X.w) X.A (isTrue e X.env (eval e X.env)) (TP X pins σ Q) X.xe s
def PW (X:Cx) (e:Expr) (t:TT):Prop :=
 ∀ (whole:Sem Value) (pins:List (Addr×Obj)) (s:Shared) (σ:St) (H:Hp) (Q:Bool→Hp→Prop),Inv X pins σ H s→t σ H Q→wpAny (model X.prog X.w) X.A (isTrue e X.env whole) (TP X pins σ Q) X.xe s
theorem PW.pt {X:Cx} {e:Expr} {t:TT} (h:PW X e t):PT X e t:=h _
def PA (X:Cx) (es:List Expr) (t:TA):Prop :=
 ∀ (pos:Pos) (pins:List (Addr×Obj)) (s:Shared) (σ:St) (H:Hp) (Q:List V→Hp→Prop),Inv X pins σ H s→t σ H Q→wpAny (model X.prog X.w) X.A (spliced (backTo pos (starEach es X.env))) (AP X pins σ Q) X.xe s
def PS (X:Cx) (st:Stmt) (t:TS):Prop :=
 ∀ (pins:List (Addr×Obj)) (s:Shared) (σ:St) (H:Hp) (D:Ends),Inv X pins σ H s→t D σ H→wpAny (model X.prog X.w) X.A (exec st X.env) (SP X pins D) X.xe s
def PSs (X:Cx) (st:List Stmt) (t:TS):Prop :=
 ∀ (pins:List (Addr×Obj)) (s:Shared) (σ:St) (H:Hp) (D:Ends),Inv X pins σ H s→t D σ H→wpAny (model X.prog X.w) X.A (execs st X.env) (SP X pins D) X.xe s
theorem thn {α:Type} {t:Sem α} {Q Q':α→Shared→Prop} {M:Model} {A:Around} {E:Value→Shared→Prop} {s:Shared} (h:wpAny M A t Q E s) (hQ:∀ a s,Q a s→Q' a s):wpAny M A t Q' E s:=wpAny_mono h hQ fun _ _ x=>x
end L2
namespace L2
open PySem PySem.Spec PyProof.Rows
section
variable {X:Cx}
def tVar (i:Nat):TE:=fun σ H Q=>∃ v,σ[i]? = some (some v)∧Q v H
def tC (v:V):TE:=fun _ H Q=>Q v H
theorem zmN {i:Nat} {x:Str} {pos:Pos} (hN:X.N[i]? = some x) (hv:Vis X.env.scope x) (hd:(x == ("__debug__" : Str))=false:=by decide) (hcd:(x == ("__classdict__" : Str))=false:=by decide):PE X (.Name x pos) (tVar i):=by
 intro pins s σ H Q I h;obtain ⟨v,e,h⟩:=h;obtain ⟨m,hn,hl⟩:=I.loc;obtain ⟨u,r,l⟩:=hl i x v hN e hv;have fin:EP X pins σ Q u s:=⟨v,H,I,r,h⟩
 rcases l with ⟨hk,hm⟩ | ⟨hk,c,hc,hcell⟩
 ·exact wpAny_Name (wpAny_loadName_local I.ok.kind hk hn hm fin) hd
 ·rcases hk with hk | hk
  ·exact wpAny_Name (wpAny_loadName_cell I.ok.kind hk hc hcell fin) hd
  ·exact wpAny_Name (wpAny_loadName_free I.ok.kind hk hc hcell fin hcd) hd
theorem zad {i j pos}:PE X (.Constant (.int i) j pos) (tC (.int i)):=fun _ _ _ H _ I h=>wpAny_Constant_int ⟨.int i,H,I.tok _,⟨_,rfl⟩,h⟩
theorem za3 {b j pos}:PE X (.Constant (.bool b) j pos) (tC (.bl b)):=fun _ _ _ H _ I h=>Constant_bool ⟨.bl b,H,I,rfl,h⟩
theorem zcL {j pos}:PE X (.Constant .none j pos) (tC .non):=fun _ _ _ H _ I h=>Constant_none ⟨.non,H,I,rfl,h⟩
def Gl (X:Cx) (x:Str):Prop:=X.env.kindOf x=some .globalImplicit
theorem zfS {E:Value→Shared→Prop} {pins:List (Addr×Obj)} {s:Shared} {σ:St} {H:Hp} {x:Str} {u:Value} {pos:Pos} {Q:Value→Shared→Prop} (I:Inv X pins σ H s) (hg:Gl X x) (hm:X.mg x=some u) (h:Q u s)
  (hd:(x == ("__debug__" : Str))=false:=by decide):wpAny (model X.prog X.w) X.A (eval (.Name x pos) X.env) Q E s :=
 Calls.Name_function_global I.ok.kind hg (Calls.loadGlobal_global (by rw [I.ok.glob];exact I.mod.glob.keeps I.bk) hm h) hd
theorem zeR {E:Value→Shared→Prop} {pins:List (Addr×Obj)} {s:Shared} {σ:St} {H:Hp} {x:Str} {u:Value} {pos:Pos} {Q:Value→Shared→Prop} (I:Inv X pins σ H s) (hg:Gl X x) (hm:X.mg x=none) (hv:bootBuiltins x=some u) (h:Q u s)
  (hn:x≠"__name__":=by decide) (hd:(x == ("__debug__" : Str))=false:=by decide):wpAny (model X.prog X.w) X.A (eval (.Name x pos) X.env) Q E s:=by
 obtain ⟨mb,h1,h2⟩:=I.mod.blt;exact Calls.Name_function_global I.ok.kind hg (Calls.loadGlobal_builtin (by rw [I.ok.glob];exact I.mod.glob.keeps I.bk) hm (by rw [I.ok.blt];exact h1.keeps I.bk) ((h2 x hn).trans hv) h) hd
theorem zcW {x:Str} {v:V} {u:Value} {pos:Pos} (hg:Gl X x) (hm:X.mg x=some u) (r:RelV v u) (hd:(x == ("__debug__" : Str))=false:=by decide):PE X (.Name x pos) (tC v) :=
 fun _ _ _ H _ I h=>zfS I hg hm ⟨v,H,I,r,h⟩ hd
theorem zcy {x:Str} {v:V} {u:Value} {pos:Pos} (hg:Gl X x) (hm:X.mg x=none) (hv:bootBuiltins x=some u) (r:RelV v u) (hn:x≠"__name__":=by decide) (hd:(x == ("__debug__" : Str))=false:=by decide):PE X (.Name x pos) (tC v) :=
 fun _ _ _ H _ I h=>zeR I hg hm hv ⟨v,H,I,r,h⟩ hn hd
variable {a b:Expr} {ta tb:TE} {pos:Pos}
def PC (X:Cx) (op:CmpOp) (a b:Expr) (t:TE):Prop :=
 ∀ (pins:List (Addr×Obj)) (s:Shared) (σ:St) (H:Hp) (Q:VK),Inv X pins σ H s→t σ H Q →
  wpAny (model X.prog X.w) X.A (eval a X.env) (fun v s₁=>wpAny (model X.prog X.w) X.A (eval b X.env) (fun u s₂=>wpAny (model X.prog X.w) X.A (compareOp op v u) (EP X pins σ Q) X.xe s₂) X.xe s₁) X.xe s
theorem zkC (b:Expr) {op:CmpOp} (h:op≠.In) (h2:op≠.NotIn):behindInMarks op b=false:=by
 have e1:(op == CmpOp.In)=false:=by cases op <;> first | rfl | exact absurd rfl h
 have e2:(op == CmpOp.NotIn)=false:=by cases op <;> first | rfl | exact absurd rfl h2
 cases b <;> simp [behindInMarks,e1,e2]
def tB (t:TE):TT:=fun σ H Q=>t σ H fun x H1=>∃ c,x=.bl c∧Q c H1
theorem zlv {op:CmpOp} {t:TE} (h:PC X op a b t) (h1:behindInMarks op b=false:=by first | exact zkC _ (by decide) (by decide) | rfl):PT X (.Compare a [op] [b] pos) (tB t):=by
 intro pins s σ H Q I hw;refine wpAny_isTrue_Compare1 (thn (h pins s σ H _ I hw) fun v s1 h1=>thn h1 fun u s2 h2=>thn h2 fun c s3 ⟨x,H1,I1,r1,q1⟩=>?_) h1;obtain ⟨d,rfl,q⟩:=q1
 cases r1
 exact wpAny_truthy_bool ⟨H1,I1,q⟩
variable {tA tB':TT} {rest:List Expr}
def tAnd (t u:TT):TT:=fun σ H Q=>t σ H fun c H1=>if c=true then u σ H1 Q else Q false H1
def tOr (t u:TT):TT:=fun σ H Q=>t σ H fun c H1=>if c=true then Q true H1 else u σ H1 Q
def tNot (t:TT):TT:=fun σ H Q=>t σ H fun c H1=>Q (!c) H1
theorem zcX (ha:PT X a tA):PW X (.BoolOp .And [a] pos) tA:=by
 intro wh pins s σ H Q I h;refine isTrue_and (thn (ha pins s σ H Q I h) fun c s1 e=>?_)
 cases c with
 | true=>exact isTrue_and_nil e
 | false=>exact e
theorem zbS (ha:PT X a tA):PW X (.BoolOp .Or [a] pos) tA:=by
 intro wh pins s σ H Q I h;refine isTrue_or (thn (ha pins s σ H Q I h) fun c s1 e=>?_)
 cases c with
 | false=>exact isTrue_or_nil e
 | true=>exact e
theorem zeo (ha:PT X a tA) (hb:PW X (.BoolOp .And (b::rest) pos) tB'):PW X (.BoolOp .And (a::b::rest) pos) (tAnd tA tB'):=by
 intro wh pins s σ H Q I h;refine isTrue_and (thn (ha pins s σ H _ I h) fun c s1 ⟨H1,I1,q1⟩=>?_)
 cases c with
 | true=>exact hb wh pins s1 σ H1 Q I1 q1
 | false=>exact ⟨H1,I1,q1⟩
theorem zcs (ha:PT X a tA) (hb:PW X (.BoolOp .Or (b::rest) pos) tB'):PW X (.BoolOp .Or (a::b::rest) pos) (tOr tA tB'):=by
 intro wh pins s σ H Q I h;refine isTrue_or (thn (ha pins s σ H _ I h) fun c s1 ⟨H1,I1,q1⟩=>?_)
 cases c with
 | true=>exact ⟨H1,I1,q1⟩
 | false=>exact hb wh pins s1 σ H1 Q I1 q1
theorem za6 (ha:PT X a tA):PT X (.UnaryOp .Not a pos) (tNot tA):=by
 intro pins s σ H Q I h;exact isTrue_not (ha pins s σ H (fun c H1=>Q (!c) H1) I h)
def zmO (ta tb:TE):TE:=fun σ H Q=>ta σ H fun x H1=>∃ c,x=.bl c∧if c=true then tb σ H1 Q else Q (.bl false) H1
def zmP (ta:TE):TE:=fun σ H Q=>ta σ H fun x H1=>∃ c,x=.bl c∧Q (.bl (!c)) H1
theorem zjf {op} {t:TE} (h:PE X a t):PE X (.BoolOp op [a] pos) t:=fun pins s σ H Q I hw=>BoolOp_one (h pins s σ H Q I hw)
theorem zjg (ha:PE X a ta) (hb:PE X (.BoolOp .And (b::rest) pos) tb):PE X (.BoolOp .And (a::b::rest) pos) (zmO ta tb):=by
 intro pins s σ H Q I h;refine BoolOp_and (thn (ha pins s σ H _ I h) fun v s1 ⟨x,H1,I1,r1,q1⟩=>?_);obtain ⟨c,rfl,q1⟩:=q1
 cases r1
 refine wpAny_truthy_bool ?_
 cases c with
 | true=>exact hb pins s1 σ H1 Q I1 q1
 | false=>exact ⟨.bl false,H1,I1,rfl,q1⟩
theorem zlw (ha:PE X a ta):PE X (.UnaryOp .Not a pos) (zmP ta):=by
 intro pins s σ H Q I h;refine UnaryOp_ (thn (ha pins s σ H _ I h) fun v s1 ⟨x,H1,I1,r1,q1⟩=>?_);obtain ⟨c,rfl,q1⟩:=q1
 cases r1
 exact not_of (wpAny_truthy_bool ⟨.bl (!c),H1,I1,rfl,q1⟩)
end
end L2
namespace L2
open PySem PySem.Spec PyProof.Rows
def SqL (K:PySem.W.Frag) (H:Hp) (a:Addr) (xs:List V):Prop :=
 Rd H a (.lst xs) ∨
  ∃ (o:Obj) (its:Array Value) (n:Nat),K.lookup a=some o∧o.cls=.type "list"∧o.dict=none∧o.data=.seq its n∧its.size≤sizeLine∧Vals xs its.toList
def SqT (K:PySem.W.Frag) (H:Hp) (a:Addr) (xs:List V):Prop :=
 Rd H a (.tup xs) ∨
  ∃ (o:Obj) (its:Array Value) (n:Nat),K.lookup a=some o∧o.cls=.type "tuple"∧o.data=.seq its n∧its.size≤sizeLine∧Vals xs its.toList
def absV:Value→Option V
 | .none=>some .non
 | .bool b=>some (.bl b)
 | .int i _=>some (.int i)
 | .str x _=>some (.str x)
 | .bytes b _=>some (.byt b)
 | .float b _=>some (.flt b)
 | .ref a=>some (.ref a)
 | .type n=>some (.ty n)
 | _=>none
theorem RelV.abs {x:V} {u:Value} (r:RelV x u):absV u=some x:=by
 cases x with
 | non=>cases r;rfl
 | bl _=>cases r;rfl
 | int _=>obtain ⟨t,rfl⟩:=r;rfl
 | str _=>obtain ⟨t,rfl⟩:=r;rfl
 | byt _=>obtain ⟨t,rfl⟩:=r;rfl
 | flt _=>obtain ⟨t,rfl⟩:=r;rfl
 | ref _=>cases r;rfl
 | ty _=>cases r;rfl
theorem RelV.inj {x y:V} {u:Value} (r:RelV x u) (q:RelV y u):x=y:=Option.some.inj (r.abs.symm.trans q.abs)
theorem Vals.inj:∀ {xs ys:List V} {us:List Value},Vals xs us→Vals ys us→xs=ys
 | _,_,_,.nil,.nil=>rfl
 | _,_,_,.cons r t,.cons r' t'=>by rw [r.inj r',Vals.inj t t']
section
variable {X:Cx} {pins:List (Addr×Obj)} {σ:St} {H:Hp} {s:Shared} {a:Addr} {xs ys:List V}
theorem SqL.of {K:PySem.W.Frag} (h:H a=some (.lst xs)):SqL K H a xs:=.inl (.inl h)
theorem SqT.of {K:PySem.W.Frag} (h:H a=some (.tup xs)):SqT K H a xs:=.inl (.inl h)
theorem Inv.list (I:Inv X pins σ H s) (h:SqL X.K H a xs):∃ its:List Value,Vals xs its∧PlainL s.heap a its.toArray∧xs.length≤sizeLine:=by
 rcases h with h | ⟨o,its,n,hk,hc,hd,hs,hz,r⟩
 ·obtain ⟨z,its,n,r,e⟩:=h.ok I.hok;exact ⟨its,r,⟨_,n,e,rfl,rfl,rfl⟩,z⟩
 ·refine ⟨its.toList,r,⟨o,n,I.kIn a o hk,hc,hd,by simpa using hs⟩,?_⟩;have e:=r.length;simp only [Array.length_toList] at e;omega
theorem Inv.tuple (I:Inv X pins σ H s) (h:SqT X.K H a xs):∃ its:List Value,Vals xs its∧IsTup s.heap a its.toArray∧xs.length≤sizeLine:=by
 rcases h with h | ⟨o,its,n,hk,hc,hs,hz,r⟩
 ·obtain ⟨z,its,r,p⟩:=h.ok I.hok;exact ⟨its,r,p,z⟩
 ·refine ⟨its.toList,r,⟨o,I.kIn a o hk,hc,n,by simpa using hs⟩,?_⟩;have e:=r.length;simp only [Array.length_toList] at e;omega
theorem Inv.list_inj (I:Inv X pins σ H s) (h:SqL X.K H a xs) (h':SqL X.K H a ys):xs=ys:=by
 obtain ⟨its,r,⟨o,n,e,_,_,d⟩,_⟩:=I.list h;obtain ⟨its',r',⟨o',n',e',_,_,d'⟩,_⟩:=I.list h';rw [e] at e';cases e'
 rw [d] at d';injection d' with d1 _;have:its=its':=by simpa using congrArg Array.toList d1
 subst this;exact r.inj r'
end
abbrev Cx.wish (X:Cx) (E:Value→Shared→Prop):Cx:={ X with xe:=E }
abbrev Cx.nox (X:Cx):Cx:=X.wish fun _ _=>False
theorem Cx.Ok.wish {X:Cx} (ok:X.Ok) (E:Value→Shared→Prop):(X.wish E).Ok :=
 ⟨ok.mod,ok.kind,ok.glob,ok.blt,ok.above,ok.inj,ok.has,ok.cab,ok.hd,ok.frames,ok.stk,ok.exf,ok.bs,ok.bsz,ok.noex,ok.exfs,ok.funs,ok.frf⟩
theorem Cx.Ok.unwish {X:Cx} {E:Value→Shared→Prop} (ok:(X.wish E).Ok):X.Ok :=
 ⟨ok.mod,ok.kind,ok.glob,ok.blt,ok.above,ok.inj,ok.has,ok.cab,ok.hd,ok.frames,ok.stk,ok.exf,ok.bs,ok.bsz,ok.noex,ok.exfs,ok.funs,ok.frf⟩
section
variable {X:Cx} {pins:List (Addr×Obj)} {σ:St} {H:Hp} {s:Shared} {E:Value→Shared→Prop}
theorem Inv.wish (I:Inv X pins σ H s) (E:Value→Shared→Prop):Inv (X.wish E) pins σ H s:=⟨I.ok.wish E,I.os,I.bare,I.base,I.loc,I.cell,I.free,I.freeC,I.pin,I.hok,I.len⟩
theorem Inv.unwish (I:Inv (X.wish E) pins σ H s):Inv X pins σ H s:=⟨I.ok.unwish,I.os,I.bare,I.base,I.loc,I.cell,I.free,I.freeC,I.pin,I.hok,I.len⟩
theorem SP.unwish {D:Ends} {f:Flow} {s':Shared} (h:SP (X.wish E) pins D f s'):SP X pins D f s':=by
 cases f with
 | next=>obtain ⟨σ',H',I,q⟩:=h;exact ⟨σ',H',I.unwish,q⟩
 | brk=>obtain ⟨σ',H',I,q⟩:=h;exact ⟨σ',H',I.unwish,q⟩
 | cont=>obtain ⟨σ',H',I,q⟩:=h;exact ⟨σ',H',I.unwish,q⟩
 | ret u=>obtain ⟨v,σ',H',I,r,q⟩:=h;exact ⟨v,σ',H',I.unwish,r,q⟩
theorem PSs.nox {st:List Stmt} {t:TS} (h:PSs X.nox st t):PSs X st t:=fun pins s σ H D I hw =>
 wpAny_mono (h pins s σ H D (I.wish _) hw) (fun _ _ q=>q.unwish) fun _ _ z=>False.elim z
end
section
variable {X:Cx} {st:Stmt} {rest:List Stmt} {t u:TS} {e:Expr} {te:TE} {pos:Pos}
def tNext:TS:=fun D σ H=>D.nx σ H
def tSeq (t u:TS):TS:=fun D σ H=>t { D with nx:=u D } σ H
theorem pss_nil:PSs X [] tNext:=fun _ _ σ H _ I h=>wpAny_execs_nil ⟨σ,H,I,h⟩
theorem zab (h1:PS X st t) (h2:PSs X rest u):PSs X (st::rest) (tSeq t u):=by
 intro pins s σ H D I h;refine wpAny_execs_cons (thn (h1 pins s σ H { D with nx:=u D } I h) fun f s1 q=>?_)
 cases f with
 | next =>
   obtain ⟨σ',H',I',q⟩:=q;exact h2 pins s1 σ' H' D I' q
 | ret v=>exact q
 | brk=>exact q
 | cont=>exact q
theorem zae (h1:PS X st t):PSs X [st] t:=by
 intro pins s σ H D I h;refine wpAny_execs_cons (thn (h1 pins s σ H D I h) fun f s1 q=>?_)
 cases f with
 | next=>exact wpAny_execs_nil q
 | ret v=>exact q
 | brk=>exact q
 | cont=>exact q
def tBreak:TS:=fun D σ H=>D.bk σ H
def tCont:TS:=fun D σ H=>D.ct σ H
theorem ps_break:PS X (.Break pos) tBreak:=fun _ _ σ H _ I h=>wpAny_Break ⟨σ,H,I,h⟩
theorem ps_continue:PS X (.Continue pos) tCont:=fun _ _ σ H _ I h=>wpAny_Continue ⟨σ,H,I,h⟩
theorem Inv.quiet {pins:List (Addr×Obj)} {σ:St} {H:Hp} {s:Shared} (I:Inv X pins σ H s):interactive X.env=false:=by simp [interactive,I.ok.kind]
def zmQ (te:TE):TS:=fun D σ H=>te σ H fun _ H1=>D.nx σ H1
theorem zaG (he:PE X e te) (hs:swapsWith e none pos.line X.env=pure false:=by rfl):PS X (.Expr e pos) (zmQ te):=by
 intro pins s σ H D I h;exact wpAny_Expr_any (thn (he pins s σ H _ I h) fun v s1 ⟨x,H1,I1,r1,q1⟩=>⟨σ,H1,I1,q1⟩) I.quiet hs
def tRet (te:TE):TS:=fun D σ H=>te σ H D.rt
theorem zak (he:PE X e te):PS X (.Return (some e) pos) (tRet te):=by
 intro pins s σ H D I h;exact wpAny_Return_some (thn (he pins s σ H _ I h) fun v s1 ⟨x,H1,I1,r1,q1⟩=>⟨x,σ,H1,I1,r1,q1⟩)
def tIfS (c:TT) (t u:TS):TS:=fun D σ H=>c σ H fun b H1=>if b=true then t D σ H1 else u D σ H1
theorem zaS {c:Expr} {a b:List Stmt} {tc:TT} (hc:PT X c tc) (ha:PSs X a t) (hb:PSs X b u):PS X (.If c a b pos) (tIfS tc t u):=by
 intro pins s σ H D I h;refine wpAny_If (thn (hc pins s σ H _ I h) fun d s1 ⟨H1,I1,q1⟩=>?_)
 cases d with
 | true=>exact ha pins s1 σ H1 D I1 q1
 | false=>exact hb pins s1 σ H1 D I1 q1
def tNever:TS:=fun _ _ _=>False
theorem ps_never:PS X st tNever:=fun _ _ _ _ _ _ h=>h.elim
end
abbrev TG:=V→St→Hp→(St→Hp→Prop)→Prop
abbrev TGs:=List V→St→Hp→(St→Hp→Prop)→Prop
def PG (X:Cx) (target:Expr) (t:TG):Prop :=
 ∀ (pins:List (Addr×Obj)) (s:Shared) (σ:St) (H:Hp) (v:V) (u:Value) (Q:St→Hp→Prop),Inv X pins σ H s→RelV v u→t v σ H Q →
  wpAny (model X.prog X.w) X.A (assign target X.env u) (fun _ s'=>∃ σ' H',Inv X pins σ' H' s'∧Q σ' H') X.xe s
def PGs (X:Cx) (ts:List Expr) (t:TGs):Prop :=
 ∀ (pins:List (Addr×Obj)) (s:Shared) (σ:St) (H:Hp) (vs:List V) (us:List Value) (Q:St→Hp→Prop),Inv X pins σ H s→Vals vs us→t vs σ H Q →
  wpAny (model X.prog X.w) X.A (assignInOrder ((assignEach ts X.env).map (·.2)) us) (fun _ s'=>∃ σ' H',Inv X pins σ' H' s'∧Q σ' H') X.xe s
abbrev TSet:=V→V→V→Hp→(Hp→Prop)→Prop
def PSet (X:Cx) (t:TSet):Prop :=
 ∀ (pins:List (Addr×Obj)) (s:Shared) (σ:St) (H:Hp) (o i v:V) (ov iv u:Value) (Q:Hp→Prop),Inv X pins σ H s→RelV o ov→RelV i iv→RelV v u→t o i v H Q →
  wpAny (model X.prog X.w) X.A (setItem ov iv u) (fun _ s'=>∃ H',Inv X pins σ H' s'∧Q H') X.xe s
abbrev TIp:=V→V→Hp→VK→Prop
def PIp (X:Cx) (op:Operator) (t:TIp):Prop :=
 ∀ (pins:List (Addr×Obj)) (s:Shared) (σ:St) (H:Hp) (x y:V) (v u:Value) (Q:VK),Inv X pins σ H s→RelV x v→RelV y u→t x y H Q →
  wpAny (model X.prog X.w) X.A (inplaceOp op v u) (EP X pins σ Q) X.xe s
section
variable {X:Cx} {pos:Pos}
def zcS (i:Nat):TG:=fun v σ H Q=>Q (σ.set i (some v)) H
theorem zar {i:Nat} {x:Str} (hN:X.N.Nodup) (hi:X.N[i]? = some x) (hx:Loc X.env.scope x) (hf:X.fn x=true∨X.env.scope.names.lookup x=some .local:=by first | exact .inl rfl | exact .inr rfl | assumption):PG X (.Name x pos) (zcS i):=by
 intro pins s σ H v u Q I r h;exact wpAny_assign_Name (zhS I hN hi hx r (fun s' I'=>⟨_,H,I',h⟩) hf)
def gNil:TGs:=fun vs σ H Q=>vs=[]∧Q σ H
def zhb (t:TG) (u:TGs):TGs:=fun vs σ H Q=>∃ v r,vs=v::r∧t v σ H fun σ' H'=>u r σ' H' Q
theorem pgs_nil:PGs X [] gNil:=by
 intro pins s σ H vs us Q I r h;obtain ⟨e,h⟩:=h;subst e
 cases r
 exact assignInOrder_nil ⟨σ,H,I,h⟩
theorem zce {e:Expr} {es:List Expr} {t:TG} {u:TGs} (h1:PG X e t) (h2:PGs X es u)
  (hs:(assignEach (e::es) X.env).map (·.2)=assign e X.env::(assignEach es X.env).map (·.2):=by rfl):PGs X (e::es) (zhb t u):=by
 intro pins s σ H vs us Q I r h;obtain ⟨v,vr,e1,h⟩:=h;subst e1
 cases r with
 | cons r rr =>
   rw [hs];refine assignInOrder_cons (thn (h1 pins s σ H _ _ _ I r h) fun _ s1 ⟨σ1,H1,I1,q1⟩=>?_);exact h2 pins s1 σ1 H1 _ _ Q I1 rr q1
def gTup (K:PySem.W.Frag) (n:Nat) (t:TGs):TG:=fun v σ H Q=>∃ a xs,v=.ref a∧SqT K H a xs∧xs.length=n∧t xs σ H Q
theorem zmR {es:List Expr} {k:Nat} {t:TGs} {n:Nat} (hc:X.calm=true) (h:PGs X es t)
  (hn:(assignEach es X.env).length=n:=by rfl) (hst:(assignEach es X.env).findIdx? (·.1)=none:=by rfl):PG X (.Tuple es k pos) (gTup X.K n t):=by
 intro pins s σ H v u Q I r hw;obtain ⟨a,xs,e1,hq,hl,hw⟩:=hw;subst e1
 cases r
 obtain ⟨its,rv,ht,hz⟩:=I.tuple hq;refine assign_Tuple_tuple (I.ok.hd hc) ht (by simp [hn,← hl,rv.length]) hst fun h' hx=>?_;have I1:Inv X pins σ H { s with heap:=h' }:=I.kept (t':=s.toks) fun b o e=>hx b o (Nat.ne_of_lt (Heap.lt_size e)) e;exact h pins _ σ H xs _ Q I1 (by simpa using rv) hw
def gSub (to ti:TE) (t:TSet):TG:=fun v σ H Q=>to σ H fun o H1=>ti σ H1 fun i H2=>t o i v H2 fun H3=>Q σ H3
theorem zmS {o i:Expr} {to ti:TE} {t:TSet} (ho:PE X o to) (hi:PE X i ti) (hs:PSet X t)
  (ha:∀ v,assign (.Subscript o i pos) X.env v=(do
   let ov ← holding [v] (eval o X.env)
   let iv ← holding [v,ov] (eval i X.env)
   standAt pos
   holding [v,ov,iv] (setItem ov iv v)
   release [v,ov,iv] []):=by intro _;rfl):PG X (.Subscript o i pos) (gSub to ti t):=by
 intro pins s σ H v u Q I r h;rw [ha];refine wpAny_bind (wpAny_holding (thn (ho pins s σ H _ I h) fun ov s1 ⟨x,H1,I1,r1,q1⟩=>?_));refine wpAny_bind (wpAny_holding (thn (hi pins s1 σ H1 _ I1 q1) fun iv s2 ⟨y,H2,I2,r2,q2⟩=>?_));refine wpAny_bind (wpAny_standAt (wpAny_bind (wpAny_holding (thn (hs pins s2 σ H2 x y v ov iv u _ I2 r1 r2 r q2) fun _ s3 ⟨H3,I3,q3⟩=>?_))));exact wpAny_release ⟨σ,H3,I3,q3⟩
def tAsg (te:TE) (g:TG):TS:=fun D σ H=>te σ H fun x H1=>g x σ H1 D.nx
theorem zmT {tg e:Expr} {te:TE} {g:TG} (he:PE X e te) (hg:PG X tg g) (hs:swapsWithSole [tg] e pos.line X.env=pure false:=by rfl) (hw:swappedStores [tg] e X.env=pure none:=by rfl)
  (h1:(assignEach [tg] X.env).map (·.2)=[assign tg X.env]:=by rfl):PS X (.Assign [tg] e pos) (tAsg te g):=by
 intro pins s σ H D I h;refine wpAny_Assign_stores (thn (he pins s σ H _ I h) fun v s1 ⟨x,H1,I1,r1,q1⟩=>?_) hs hw;rw [h1];exact thn (hg pins s1 σ H1 x v _ I1 r1 q1) fun _ s2 q=>q
theorem zax {i:Nat} {x:Str} {e:Expr} {te:TE} {pos':Pos} (hN:X.N.Nodup) (hi:X.N[i]? = some x) (hx:Loc X.env.scope x) (he:PE X e te) (hs:swapsWith e (some (.Name x pos')) pos.line X.env=pure false:=by rfl) (hf:X.fn x=true∨X.env.scope.names.lookup x=some .local:=by first | exact .inl rfl | exact .inr rfl | assumption) :
  PS X (.Assign [.Name x pos'] e pos) (tAsg te (zcS i)):=by
 intro pins s σ H D I h;refine wpAny_Assign_Name (thn (he pins s σ H _ I h) fun v s1 ⟨y,H1,I1,r1,q1⟩=>?_) hs;exact zhS I1 hN hi hx r1 (fun s2 I2=>⟨_,H1,I2,q1⟩) hf
def zmU (to ti te:TE) (tget:V→V→Hp→VK→Prop) (tip:TIp) (tset:TSet):TS:=fun D σ H=>to σ H fun o H1=>ti σ H1 fun i H2=>tget o i H2 fun x H3=>te σ H3 fun y H4=>tip x y H4 fun z H5=>tset o i z H5 fun H6=>D.nx σ H6
def PGet (X:Cx) (t:V→V→Hp→VK→Prop):Prop :=
 ∀ (pins:List (Addr×Obj)) (s:Shared) (σ:St) (H:Hp) (o i:V) (ov iv:Value) (Q:VK),Inv X pins σ H s→RelV o ov→RelV i iv→t o i H Q →
  wpAny (model X.prog X.w) X.A (getItem ov iv) (EP X pins σ Q) X.xe s
theorem zlQ {o i e:Expr} {to ti te:TE} {tget:V→V→Hp→VK→Prop} {tip:TIp} {tset:TSet} {op:Operator} {tpos:Pos} (ho:PE X o to) (hi:PE X i ti) (hg:PGet X tget) (he:PE X e te) (hp:PIp X op tip) (hs:PSet X tset)
  (ha:∀ ov iv new,augStore i ov iv new=(do holding [new,ov,iv] (setItem ov iv new);release [new,ov,iv] [];pure .next):=by intros;rfl):PS X (.AugAssign (.Subscript o i tpos) op e pos) (zmU to ti te tget tip tset):=by
 intro pins s σ H D I h;refine wpAny_AugAssign_SubscriptAny (thn (ho pins s σ H _ I h) fun ov s1 ⟨x1,H1,I1,r1,q1⟩=>?_) ha;refine thn (hi pins s1 σ H1 _ I1 q1) fun iv s2 ⟨x2,H2,I2,r2,q2⟩=>?_;refine thn (hg pins s2 σ H2 x1 x2 ov iv _ I2 r1 r2 q2) fun old s3 ⟨x3,H3,I3,r3,q3⟩=>?_;refine thn (he pins s3 σ H3 _ I3 q3) fun v s4 ⟨x4,H4,I4,r4,q4⟩=>?_;refine thn (hp pins s4 σ H4 x3 x4 old v _ I4 r3 r4 q4) fun new s5 ⟨x5,H5,I5,r5,q5⟩=>?_;exact thn (hs pins s5 σ H5 x1 x2 x5 ov iv new _ I5 r1 r2 r5 q5) fun _ s6 ⟨H6,I6,q6⟩=>⟨σ,H6,I6,q6⟩
def ipI (f:Int→Int→Int):TIp:=fun x y H Q=>∃ i j,x=.int i∧y=.int j∧Q (.int (f i j)) H
theorem ip_sub:PIp X .Sub (ipI fun i j=>i-j):=by
 intro pins s σ H x y v u Q I r1 r2 h;obtain ⟨i,j,e1,e2,q⟩:=h;subst e1;subst e2;obtain ⟨t,rfl⟩:=r1;obtain ⟨t',rfl⟩:=r2;exact isub_int ⟨.int _,H,I.tok _,⟨_,rfl⟩,q⟩
end
section
variable {X:Cx} {pos:Pos}
def zmV (c:TT) (tb:TS):TS:=fun D σ H=>∃ W:Nat→St→Hp→Prop,(∃ m,W m σ H)∧∀ m σ H,W m σ H →
 c σ H fun b H1=>if b=true then ∃ N:St→Hp→Prop,(∀ σ' H',N σ' H'→∃ m',m' < m∧W m' σ' H')∧tb { D with nx:=N,ct:=N,bk:=D.nx } σ H1 else D.nx σ H1
theorem zhT {c:Expr} {body:List Stmt} {tc:TT} {tb:TS} (hp:PassesOwn (model X.prog X.w) X.A X.env X.xe) (hc:PT X c tc) (hb:PSs X body tb):PS X (.While c body [] pos) (zmV tc tb):=by
 intro pins s σ H D I h;obtain ⟨W,⟨m0,w0⟩,turn⟩:=h;refine wpAny_While (codeAny_whileLoop (fun n s'=>∃ σ' H',Inv X pins σ' H' s'∧W n σ' H') ?_ m0 ⟨σ,H,I,w0⟩);rintro n s1 ⟨σ1,H1,I1,w1⟩;refine wpAny_passesOwn hp (thn (hc pins s1 σ1 H1 _ I1 (turn n σ1 H1 w1)) fun b s2 ⟨H2,I2,q2⟩=>?_)
 cases b with
 | true =>
   obtain ⟨N,hN,q2⟩:=q2;rw [if_pos rfl];refine wpAny_passesOwn hp (thn (hb pins s2 σ1 H2 _ I2 q2) fun f s3 q3=>?_)
   cases f with
   | next =>
     obtain ⟨σ3,H3,I3,n3⟩:=q3;obtain ⟨m',hm,w3⟩:=hN σ3 H3 n3;exact ⟨m',hm,σ3,H3,I3,w3⟩
   | cont =>
     obtain ⟨σ3,H3,I3,n3⟩:=q3;obtain ⟨m',hm,w3⟩:=hN σ3 H3 n3;exact ⟨m',hm,σ3,H3,I3,w3⟩
   | brk=>exact q3
   | ret v=>exact q3
 | false =>
   rw [if_neg Bool.false_ne_true];exact wpAny_execs_nil ⟨σ1,H2,I2,q2⟩
end
structure It where
 go:Nat→Hp→Prop
 yld:Nat→Hp→V→Hp→Prop
 stop:Nat→Hp→Prop
def FpOk (X:Cx) (pins:List (Addr×Obj)) (H:Hp) (b:Addr):Prop :=
 H b=none∧b≠X.env.locals∧b∉X.fs∧(b∈X.ex∨X.s₀.heap.objs.size≤b)∧(∀ x c,X.env.cells.lookup x=some c→c≠b)∧∀ p∈X.pn++pins,p.1≠b
theorem Inv.fpOk {X:Cx} {pins:List (Addr×Obj)} {σ:St} {H H':Hp} {s:Shared} {b:Addr} (I:Inv X pins σ H s) (hb:s.heap.objs.size≤b) (hn:H' b=none):FpOk X pins H' b:=by
 refine ⟨hn,Nat.ne_of_gt (Nat.lt_of_lt_of_le I.lt hb),I.nofs hb,.inr (Nat.le_trans I.sz hb),fun x c e z=>?_,fun p hp z=>?_⟩
 ·obtain ⟨v,q⟩:=I.cell x c e;exact absurd (Nat.lt_of_lt_of_le q.lt (by rw [z];exact hb)) (Nat.lt_irrefl _)
 ·exact absurd (Nat.lt_of_lt_of_le (Heap.lt_size (I.pin p hp).1) (by rw [z];exact hb)) (Nat.lt_irrefl _)
structure Turn (P:Program) (w:World) (K:PySem.W.Frag) (tg:Expr) (J:It) (fp:List Addr) (it:Addr) (tn:Nat→Heap→Prop):Prop where
 mem:it∈fp
 obj:∀ i h,tn i h→∀ b∈fp,∃ o,h.get? b=some o∧∀ v,o.data≠.cell v
 keep:∀ i h h',tn i h→(∀ b∈fp,∀ o,h.get? b=some o→h'.get? b=some o)→tn i h'
 item:∀ (X:Cx),X.prog=P→X.w=w→X.K=K→X.calm=true→∀ (i:Nat) (pins:List (Addr×Obj)) (s:Shared) (σ:St) (H:Hp) (E:Value→Shared→Prop),Inv X pins σ H s→(∀ b∈fp,FpOk X pins H b)→tn i s.heap→J.go i H →
  wpAny (model P w) X.A (pyNext (.ref it)) (fun r s1=>∃ u,r=some u ∧
   wpAny (model P w) X.A (letOwnedTupleGo tg (.ref it) u) (fun _ s2=>∃ x H',Inv X pins σ H' s2∧RelV x u∧J.yld i H x H'∧tn (i+1) s2.heap∧∀ b∈fp,H' b=none) E s1) E s
 done:∀ (X:Cx),X.prog=P→X.w=w→X.K=K→X.calm=true→∀ (i:Nat) (pins:List (Addr×Obj)) (s:Shared) (σ:St) (H:Hp) (E:Value→Shared→Prop),Inv X pins σ H s→(∀ b∈fp,FpOk X pins H b)→tn i s.heap→J.stop i H →
  wpAny (model P w) X.A (pyNext (.ref it)) (fun r s1=>r=none∧Inv X pins σ H s1) E s
 self:∀ (A:Around) (i:Nat) (s:Shared) (Q:Value→Shared→Prop) (E:Value→Shared→Prop),tn i s.heap→Q (.ref it) s→wpAny (model P w) A (pyIter (.ref it)) Q E s
abbrev TI:=St→Hp→(It→Hp→Prop)→Prop
def PIE (X:Cx) (pins:List (Addr×Obj)) (σ:St) (tg:Expr) (R:It→Hp→Prop) (itv:Value) (s2:Shared):Prop :=
 ∃ (it:Addr) (fp:List Addr) (tn:Nat→Heap→Prop) (J:It) (H':Hp),itv=.ref it∧Inv X pins σ H' s2∧Turn X.prog X.w X.K tg J fp it tn∧tn 0 s2.heap∧(∀ b∈fp,FpOk X pins H' b)∧R J H'
def PI (X:Cx) (tg iter:Expr) (wi:TI):Prop :=
 ∀ (pins:List (Addr×Obj)) (s:Shared) (σ:St) (H:Hp) (R:It→Hp→Prop),Inv X pins σ H s→wi σ H R →
  wpAny (model X.prog X.w) X.A (eval iter X.env) (fun v s1=>wpAny (model X.prog X.w) X.A (pyIter v) (PIE X pins σ tg R) X.xe s1) X.xe s
theorem zmW {M:Model} {A:Around} {E:Value→Shared→Prop} {s:Shared} {tg:Expr} {it:Addr} {u:Value} {o:Obj} {n:String} {vs:Array Value} {Q:Unit→Shared→Prop} (ho:s.heap.get? it=some o) (hc:o.cls=.type n) (hd:o.data=.fields vs)
  (hn:["enumerate","zip","dict_itemiterator","dict_reverseitemiterator","odict_iterator","itertools.zip_longest","itertools.pairwise"].contains n=false) (hQ:Q () s):wpAny M A (letOwnedTupleGo tg (.ref it) u) Q E s:=by
 unfold letOwnedTupleGo
 cases tg <;> first
  | exact wpAny_pure hQ
  | (cases u <;> first
     | exact wpAny_pure hQ
     | (refine wpAny_bind (wpAny_load ho ?_)
        rw [hc,hd];show wpAny M A (if (["enumerate","zip","dict_itemiterator","dict_reverseitemiterator","odict_iterator","itertools.zip_longest","itertools.pairwise"].contains n && vs[0]? == some (rawInt _))=true then _ else _) Q E s;rw [if_neg (by intro h;rw [hn,Bool.false_and] at h;cases h)];exact wpAny_pure hQ))
def Itl (K:PySem.W.Frag) (a:Addr):It :=
 ⟨fun i H=>∃ xs x,SqL K H a xs∧xs[i]? = some x,fun i H x H'=>H'=H∧∀ xs,SqL K H a xs→xs[i]? = some x,fun i H=>∃ xs,SqL K H a xs∧xs.length≤i⟩
def Itr (lo:Int) (n:Nat):It:=⟨fun i _=>i < n,fun i H x H'=>H'=H∧x=.int (lo+i),fun i _=>n≤i⟩
theorem zjh {P:Program} {w:World} {K:PySem.W.Frag} {tg:Expr} (a it:Addr):Turn P w K tg (Itl K a) [it] it (fun i h=>h.IsListIter it a i) where
 mem:=by simp
 obj:=fun i h st b hb=>by
  have e:b=it:=by simpa using hb
  subst e;obtain ⟨o,e,c,d⟩:=st;exact ⟨o,e,fun v z=>by rw [d] at z;cases z⟩
 keep:=fun i h h' st k=>st.at fun o e=>k it (by simp) o e
 item:=by
  intro X hP hw hK hc i pins s σ H E I hf st hg;subst hP hw hK;obtain ⟨xs,x,hq,hx⟩:=hg;obtain ⟨its,rv,p,hz⟩:=I.list hq;obtain ⟨u,hu,ru⟩:=rv.get hx;obtain ⟨f0,f1,f2,f3,f4,f5⟩:=hf it (by simp);refine wpAny_pyNext_list_item st p.isList (x:=u) (by simpa using hu) fun h' st' sb=>?_;have I1:Inv X pins σ H { s with heap:=h' }:=I.turned (t':=s.toks) (fun b o hb e=>(sb.2 b hb).trans e) f0 f1 f3 f4 f5;obtain ⟨o,e,c,d⟩:=id st';exact ⟨u,rfl,zmW (s:={ s with heap:=h' }) e c d (by decide) ⟨x,H,I1,ru,⟨rfl,fun ys hy=>by rw [I.list_inj hy hq];exact hx⟩,st',fun b hb=>(hf b hb).1⟩⟩
 done:=by
  intro X hP hw hK hc i pins s σ H E I hf st hg;subst hP hw hK;obtain ⟨xs,hq,hx⟩:=hg;obtain ⟨its,rv,p,hz⟩:=I.list hq;obtain ⟨f0,f1,f2,f3,f4,f5⟩:=hf it (by simp);have hl:=rv.length;exact wpAny_pyNext_list_end (I.ok.hd hc) st p.isList (by simp;omega) fun h' eb=>⟨rfl,I.turned (t':=s.toks) (fun b o hb e=>eb b o hb e) f0 f1 f3 f4 f5⟩
 self:=fun _ _ _ _ _ st h=>wpAny_pyIter_listiter st h
theorem zir {P:Program} {w:World} {K:PySem.W.Frag} {tg:Expr} (it:Addr) (lo:Int) (n:Nat):Turn P w K tg (Itr lo n) [it] it (fun i h=>IsRangeIter h it (lo+(i:Nat) * 1) ((n:Int)-(i:Nat)) 1) where
 mem:=by simp
 obj:=fun i h st b hb=>by
  have e:b=it:=by simpa using hb
  subst e;exact ⟨_,st,fun v z=>by
   have z':Data.fields _=Data.cell v:=z
   cases z'⟩
 keep:=fun i h h' st k=>k it (by simp) _ st
 item:=by
  intro X hP hw hK hc i pins s σ H E I hf st hg;subst hP hw hK;obtain ⟨f0,f1,f2,f3,f4,f5⟩:=hf it (by simp);have W:=Walks.range (prog:=X.prog) (w:=X.w) (I.ok.hd hc) it lo 1 n;refine W.item i s _ _ hg st fun v h' tk hv st' kk=>?_;obtain ⟨t,rfl⟩:=hv;have I1:Inv X pins σ H { s with heap:=h',toks:=tk }:=I.turned (fun b o hb e=>kk b o (by simpa using hb) e) f0 f1 f3 f4 f5;refine ⟨_,rfl,zmW (s:={ s with heap:=h',toks:=tk }) (n:="range_iterator") st' rfl rfl (by decide) ⟨.int (lo+i),H,I1,⟨t,?_⟩,⟨rfl,rfl⟩,st',fun b hb=>(hf b hb).1⟩⟩;rw [Int.mul_one]
 done:=by
  intro X hP hw hK hc i pins s σ H E I hf st hg;subst hP hw hK;obtain ⟨f0,f1,f2,f3,f4,f5⟩:=hf it (by simp);exact wpAny_pyNext_range_end (I.ok.hd hc) st (by have:n≤i:=hg;omega) fun h' eb=>⟨rfl,I.turned (t':=s.toks) (fun b o hb e=>eb b o hb e) f0 f1 f3 f4 f5⟩
 self:=fun _ _ _ _ _ st h=>wpAny_pyIter_rangeiter st h
end L2
namespace L2
open PySem PySem.Spec PyProof.Rows
section
variable {X:Cx} {tg:Expr}
def zkD (K:PySem.W.Frag) (tl:TE):TI:=fun σ H R=>tl σ H fun x H1=>∃ a,x=.ref a∧(∃ xs,SqL K H1 a xs)∧R (Itl K a) H1
theorem zlR {l:Expr} {tl:TE} (hl:PE X l tl):PI X tg l (zkD X.K tl):=by
 intro pins s σ H R I h;refine thn (hl pins s σ H _ I h) fun v s1 ⟨x,H1,I1,r1,q1⟩=>?_;obtain ⟨a,e,⟨xs,hq⟩,q⟩:=q1;subst e
 cases r1
 obtain ⟨its,rv,p,hz⟩:=I1.list hq;refine wpAny_pyIter_list p.isList ?_;refine ⟨s1.heap.objs.size,[s1.heap.objs.size],_,_,H1,rfl,I1.kept (t':=s1.toks) fun b o e=>Heap.get?_push_of_some _ e,zjh a _,⟨_,Heap.get?_push_size _ rfl,rfl,rfl⟩,fun b hb=>?_,q⟩;have e:b=s1.heap.objs.size:=by simpa using hb
 subst e;exact I1.fpOk (Nat.le_refl _) (I1.hok.fresh (Nat.le_refl _))
theorem zhU {pins:List (Addr×Obj)} {σ:St} {H:Hp} {s:Shared} {R:It→Hp→Prop} {E:Value→Shared→Prop} {lo hi:Int} {t u v:Tok} {tk:Nat} (I:Inv X pins σ H s) (h1 : -(2 ^ 62)≤lo) (h2:lo < 2 ^ 62) (h3 : -(2 ^ 62)≤hi) (h4:hi < 2 ^ 62)
  (q:R (Itr lo (hi-lo).toNat) H):wpAny (model X.prog X.w) X.A (pyIter (.ref s.heap.objs.size)) (PIE X pins σ tg R) E { s with heap:=s.heap.push { cls:=.type "range",data:=.fields #[.int lo t,.int hi u,.int 1 v] },toks:=tk }:=by
 refine wpAny_pyIter_range (IsRange.new ..) (small_one h1 h2 h3 h4) ?_;have I1:Inv X pins σ H { s with heap:=s.heap.push { cls:=.type "range",data:=.fields #[.int lo t,.int hi u,.int 1 v] },toks:=tk }:=I.kept fun b o e=>Heap.get?_push_of_some _ e;refine ⟨(s.heap.push { cls:=.type "range",data:=.fields #[.int lo t,.int hi u,.int 1 v] }).objs.size,[(s.heap.push { cls:=.type "range",data:=.fields #[.int lo t,.int hi u,.int 1 v] }).objs.size],_,_,H,rfl,
  I1.kept (t':=tk) fun b o e=>Heap.get?_push_of_some _ e,zir _ lo (hi-lo).toNat,?_,fun b hb=>?_,q⟩
 ·have e1:lo+((0:Nat):Int) * 1=lo:=by simp
  have e2:(((hi-lo).toNat:Nat):Int)-((0:Nat):Int)=Builtin.Range.rangeSize lo hi 1:=by rw [rangeSize_one];split <;> omega
  show IsRangeIter _ _ (lo+((0:Nat):Int) * 1) ((((hi-lo).toNat:Nat):Int)-((0:Nat):Int)) 1;rw [e1,e2];exact Heap.get?_push_size _ rfl
 ·have e:b=(s.heap.push { cls:=.type "range",data:=.fields #[.int lo t,.int hi u,.int 1 v] }).objs.size:=by simpa using hb
  subst e;exact I1.fpOk (Nat.le_refl _) (I1.hok.fresh (Nat.le_refl _))
def zlS (ta:TA):TI:=fun σ H R=>ta σ H fun vs H1=>∃ j:Int,vs=[.int j]∧-(2 ^ 62)≤j∧j < 2 ^ 62∧R (Itr 0 j.toNat) H1
def zlT (ta:TA):TI:=fun σ H R=>ta σ H fun vs H1=>∃ i j:Int,vs=[.int i,.int j]∧(-(2 ^ 62)≤i∧i < 2 ^ 62∧-(2 ^ 62)≤j∧j < 2 ^ 62)∧R (Itr i (j-i).toNat) H1
theorem zaW {a:Expr} {ta:TA} {p pos:Pos} (hg:Gl X "range") (hm:X.mg "range" = none) (ha:PA X [a] ta) (hs:starEach [a] X.env=[(false,eval a X.env)]:=by rfl):PI X tg (.Call (.Name "range" p) [a] [] pos) (zlS ta):=by
 intro pins s σ H R I h;refine Call_ (zeR I hg hm boot_range (PyProof.Rows.callWith_type1 (thn (ha pos pins s σ H _ I h) fun us s1 ⟨vs,H1,I1,r1,q1⟩=>?_) hs rfl));obtain ⟨j,e,q1,q2,q⟩:=q1;subst e
 cases r1 with
 | cons r rr =>
   cases rr
   obtain ⟨t,rfl⟩:=r;exact call_range_1 (zhU I1 (by omega) (by omega) q1 q2 (by simpa using q))
theorem zb4 {a b:Expr} {ta:TA} {p pos:Pos} (hg:Gl X "range") (hm:X.mg "range" = none) (ha:PA X [a,b] ta) (hs:starEach [a,b] X.env=[(false,eval a X.env),(false,eval b X.env)]:=by rfl) (hs2:starEach [b] X.env=[(false,eval b X.env)]:=by rfl) :
  PI X tg (.Call (.Name "range" p) [a,b] [] pos) (zlT ta):=by
 intro pins s σ H R I h;refine Call_ (zeR I hg hm boot_range (PyProof.Rows.callWith_type1 (thn (ha pos pins s σ H _ I h) fun us s1 ⟨vs,H1,I1,r1,q1⟩=>?_) (by rw [hs,hs2]) (by rw [hs2];rfl)));obtain ⟨i,j,e,⟨q1,q2,q3,q4⟩,q⟩:=q1;subst e
 cases r1 with
 | cons r rr =>
   cases rr with
   | cons r' rr =>
     cases rr
     obtain ⟨t,rfl⟩:=r;obtain ⟨t',rfl⟩:=r';exact call_range_2 (zhU I1 q1 q2 q3 q4 q)
def tFor (wi:TI) (g:TG) (tb:TS):TS:=fun D σ H=>wi σ H fun J H1=>∃ W:Nat→Nat→St→Hp→Prop,(∃ m,W 0 m σ H1)∧∀ i m σ H,W i m σ H →
 (J.stop i H∧D.nx σ H)∨(J.go i H∧∃ N:St→Hp→Prop,(∀ σ' H',N σ' H'→∃ m',m' < m∧W (i+1) m' σ' H')∧∀ x H',J.yld i H x H'→g x σ H' fun σ2 H2=>tb { D with nx:=N,ct:=N,bk:=D.nx } σ2 H2)
def zgh (fp:List Addr) (h:Heap):List (Addr×Obj):=fp.filterMap fun b=>(h.get? b).map fun o=>(b,o)
theorem zdh {fp:List Addr} {h:Heap} {b:Addr} {o:Obj} (hb:b∈fp) (e:h.get? b=some o):(b,o)∈zgh fp h:=List.mem_filterMap.mpr ⟨b,hb,by rw [e];rfl⟩
theorem zji {fp:List Addr} {h:Heap} {p:Addr×Obj} (hp:p∈zgh fp h):p.1∈fp∧h.get? p.1=some p.2:=by
 obtain ⟨b,hb,e⟩:=List.mem_filterMap.mp hp
 cases q:h.get? b with
 | none=>rw [q] at e;cases e
 | some o =>
   rw [q] at e;have e':(b,o)=p:=Option.some.inj e;subst e';exact ⟨hb,q⟩
theorem Inv.pinned {pins:List (Addr×Obj)} {σ:St} {H:Hp} {s:Shared} {fp:List Addr} (I:Inv X pins σ H s) (hf:∀ b∈fp,FpOk X pins H b) (ho:∀ b∈fp,∃ o,s.heap.get? b=some o∧∀ v,o.data≠.cell v):Inv X (pins++zgh fp s.heap) σ H s :=
 I.pins_of fun p hp=>(List.mem_append.mp hp).elim (fun z=>I.pin p (List.mem_append_right _ z)) fun z=>by
  obtain ⟨hb,e⟩:=zji z;obtain ⟨f0,f1,f2,_⟩:=hf p.1 hb;obtain ⟨o,e',d⟩:=ho p.1 hb;rw [e] at e';cases e'
  exact ⟨e,f0,f1,f2,d⟩
theorem Inv.unpinned {pins pl:List (Addr×Obj)} {σ:St} {H:Hp} {s:Shared} (I:Inv X (pins++pl) σ H s):Inv X pins σ H s:=I.pins_of fun p hp=>I.pin p (List.mem_append_right _ (List.mem_append_left _ hp))
theorem zaZ {iter:Expr} {body:List Stmt} {wi:TI} {g:TG} {tb:TS} {pos:Pos} (hp:PassesOwn (model X.prog X.w) X.A X.env X.xe) (hc:X.calm=true) (hi:PI X tg iter wi) (hg:PG X tg g) (hb:PSs X body tb)
  (hs:∀ x,foldedSetIterable iter X.env x=pure x:=by intro _;rfl):PS X (.For tg iter body [] pos) (tFor wi g tb):=by
 intro pins s σ H D I h;refine wpAny_For (thn (hi pins s σ H _ I h) fun v s1 h1=>thn h1 fun itv s2 h2=>?_) hs;obtain ⟨it,fp,tn,J,H2,e,I2,T,st2,f2,W,⟨m0,w0⟩,turn⟩:=h2;subst e;have stat:∀ {H':Hp},(∀ b∈fp,H' b=none)→∀ b∈fp,FpOk X pins H' b:=fun hn b hb=>⟨hn b hb,(f2 b hb).2⟩
 refine codeAny_forLoop_any (fun n s'=>∃ i σ' H',Inv X pins σ' H' s'∧tn i s'.heap∧(∀ b∈fp,H' b=none)∧W i n σ' H') ?_ m0 ⟨0,σ,H2,I2,st2,fun b hb=>(f2 b hb).1,w0⟩;rintro n s3 ⟨i,σ3,H3,I3,st3,fr3,w3⟩;rcases turn i n σ3 H3 w3 with ⟨stop,qn⟩ | ⟨go,N,hN,step⟩
 ·refine wpAny_passesOwn hp (thn (T.done X rfl rfl rfl hc i pins s3 σ3 H3 X.xe I3 (stat fr3) st3 stop) fun r s4 ⟨hr,I4⟩=>?_);subst hr;exact wpAny_execs_nil ⟨σ3,H3,I4,qn⟩
 ·refine wpAny_passesOwn hp (thn (T.item X rfl rfl rfl hc i pins s3 σ3 H3 X.xe I3 (stat fr3) st3 go) fun r s4 ⟨u,hr,h4⟩=>?_);subst hr;refine wpAny_passesOwn hp (thn h4 fun _ s5 ⟨x,H5,I5,r5,y5,st5,fr5⟩=>?_);have I5':=I5.pinned (stat fr5) (T.obj _ _ st5);refine wpAny_passesOwn hp (thn (hg _ s5 σ3 H5 x u _ I5' r5 (step x H5 y5)) fun _ s6 ⟨σ6,H6,I6,q6⟩=>?_);refine wpAny_passesOwn hp (thn (hb _ s6 σ6 H6 _ I6 q6) fun f s7 q7=>?_);have again:∀ {σ7:St} {H7:Hp},Inv X (pins++zgh fp s5.heap) σ7 H7 s7→N σ7 H7→∃ m,m < n∧∃ i σ' H',Inv X pins σ' H' s7∧tn i s7.heap∧(∀ b∈fp,H' b=none)∧W i m σ' H':=fun {σ7 H7} I7 n7=>by
   obtain ⟨m',hm,w7⟩:=hN σ7 H7 n7;refine ⟨m',hm,i+1,σ7,H7,I7.unpinned,T.keep _ _ _ st5 fun b hb o e=>(I7.pin (b,o) (List.mem_append_right _ (List.mem_append_right _ (zdh hb e)))).1,fun b hb=>?_,w7⟩;obtain ⟨o,e,d⟩:=T.obj _ _ st5 b hb;exact (I7.pin (b,o) (List.mem_append_right _ (List.mem_append_right _ (zdh hb e)))).2.1
  cases f with
  | next=>obtain ⟨σ7,H7,I7,n7⟩:=q7;exact again I7 n7
  | cont=>obtain ⟨σ7,H7,I7,n7⟩:=q7;exact again I7 n7
  | brk=>obtain ⟨σ7,H7,I7,q7⟩:=q7;exact ⟨σ7,H7,I7.unpinned,q7⟩
  | ret v=>obtain ⟨x7,σ7,H7,I7,r7,q7⟩:=q7;exact ⟨x7,σ7,H7,I7.unpinned,r7,q7⟩
end
theorem zkE {K:PySem.W.Frag} {a:Addr} {xs:List V} {g:TG} {tb:TS} {D:Ends} {σ:St} {H:Hp} (Pv:Nat→St→Hp→Prop) (h0:Pv 0 σ H) (hl:∀ i σ H,i≤xs.length→Pv i σ H→SqL K H a xs)
  (hs:∀ i x σ H,xs[i]? = some x→Pv i σ H→g x σ H fun σ2 H2=>tb { D with nx:=Pv (i+1),ct:=Pv (i+1),bk:=D.nx } σ2 H2) (hd:∀ σ H,Pv xs.length σ H→D.nx σ H) :
  ∃ W:Nat→Nat→St→Hp→Prop,(∃ m,W 0 m σ H)∧∀ i m σ H,W i m σ H →
   ((Itl K a).stop i H∧D.nx σ H)∨((Itl K a).go i H∧∃ N:St→Hp→Prop,(∀ σ' H',N σ' H'→∃ m',m' < m∧W (i+1) m' σ' H')∧∀ x H',(Itl K a).yld i H x H'→g x σ H' fun σ2 H2=>tb { D with nx:=N,ct:=N,bk:=D.nx } σ2 H2):=by
 refine ⟨fun i m σ H=>m=xs.length-i∧i≤xs.length∧Pv i σ H,⟨xs.length,by simp,Nat.zero_le _,h0⟩,?_⟩;rintro i m σ H ⟨rfl,hi,p⟩;have q:=hl i σ H hi p
 by_cases hlt:i < xs.length
 ·refine .inr ⟨⟨xs,xs[i],q,by simp [hlt]⟩,Pv (i+1),fun σ' H' p'=>⟨xs.length-(i+1),by omega,rfl,hlt,p'⟩,fun x H' y=>?_⟩;obtain ⟨e,y⟩:=y;subst e;exact hs i x σ _ (y xs q) p
 ·have e:i=xs.length:=by omega
  subst e;exact .inl ⟨⟨xs,q,Nat.le_refl _⟩,hd σ H p⟩
theorem zjj {lo:Int} {n:Nat} {g:TG} {tb:TS} {D:Ends} {σ:St} {H:Hp} (Pv:Nat→St→Hp→Prop) (h0:Pv 0 σ H)
  (hs:∀ i σ H,i < n→Pv i σ H→g (.int (lo+i)) σ H fun σ2 H2=>tb { D with nx:=Pv (i+1),ct:=Pv (i+1),bk:=D.nx } σ2 H2) (hd:∀ σ H,Pv n σ H→D.nx σ H) :
  ∃ W:Nat→Nat→St→Hp→Prop,(∃ m,W 0 m σ H)∧∀ i m σ H,W i m σ H →
   ((Itr lo n).stop i H∧D.nx σ H)∨((Itr lo n).go i H∧∃ N:St→Hp→Prop,(∀ σ' H',N σ' H'→∃ m',m' < m∧W (i+1) m' σ' H')∧∀ x H',(Itr lo n).yld i H x H'→g x σ H' fun σ2 H2=>tb { D with nx:=N,ct:=N,bk:=D.nx } σ2 H2):=by
 refine ⟨fun i m σ H=>m=n-i∧i≤n∧Pv i σ H,⟨n,by simp,Nat.zero_le _,h0⟩,?_⟩;rintro i m σ H ⟨rfl,hi,p⟩
 by_cases hlt:i < n
 ·refine .inr ⟨hlt,Pv (i+1),fun σ' H' p'=>⟨n-(i+1),by omega,rfl,hlt,p'⟩,fun x H' y=>?_⟩;obtain ⟨e,y⟩:=y;subst e y;exact hs i σ _ hlt p
 ·have e:i=n:=by omega
  subst e;exact .inl ⟨Nat.le_refl _,hd σ H p⟩
end L2
namespace L2
open PySem PySem.Spec PyProof.Rows
abbrev R2:=V→V→Hp→VK→Prop
def OpR (X:Cx) (f:Value→Value→Sem Value) (r:R2):Prop :=
 ∀ (pins:List (Addr×Obj)) (s:Shared) (σ:St) (H:Hp) (x y:V) (v u:Value) (Q:VK),Inv X pins σ H s→RelV x v→RelV y u→r x y H Q →
  wpAny (model X.prog X.w) X.A (f v u) (EP X pins σ Q) X.xe s
def zdm (X:Cx) (f:Value) (r:List V→Hp→VK→Prop):Prop :=
 ∀ (pins:List (Addr×Obj)) (s:Shared) (σ:St) (H:Hp) (xs:List V) (us:List Value) (Q:VK),Inv X pins σ H s→Vals xs us→r xs H Q →
  wpAny (model X.prog X.w) X.A (call f us) (EP X pins σ Q) X.xe s
def TruR (X:Cx) (r:V→Hp→(Bool→Hp→Prop)→Prop):Prop :=
 ∀ (pins:List (Addr×Obj)) (s:Shared) (σ:St) (H:Hp) (x:V) (v:Value) (Q:Bool→Hp→Prop),Inv X pins σ H s→RelV x v→r x H Q →
  wpAny (model X.prog X.w) X.A (truthy v) (TP X pins σ Q) X.xe s
def tOp (r:R2) (ta tb:TE):TE:=fun σ H Q=>ta σ H fun x H1=>tb σ H1 fun y H2=>r x y H2 Q
def rI (C:Int→Int→Prop) (g:Int→Int→V):R2:=fun x y H Q=>∃ i j,x=.int i∧y=.int j∧C i j∧Q (g i j) H
def rI0 (g:Int→Int→V):R2:=fun x y H Q=>∃ i j,x=.int i∧y=.int j∧Q (g i j) H
section
variable {X:Cx} {a b c:Expr} {ta tb tc:TE} {pos:Pos}
theorem binT (ha:PE X a ta) (hb:PE X b tb) {pins:List (Addr×Obj)} {s:Shared} {σ:St} {H:Hp} {R:V→V→Hp→Prop} (I:Inv X pins σ H s)
  (h:ta σ H fun x H1=>tb σ H1 fun y H2=>R x y H2) {Q:Value→Shared→Prop} {f:Value→Value→Sem Value}
  (hf:∀ v u s2 x y H2,Inv X pins σ H2 s2→RelV x v→RelV y u→R x y H2→wpAny (model X.prog X.w) X.A (f v u) Q X.xe s2) :
  wpAny (model X.prog X.w) X.A (eval a X.env) (fun v s₁=>wpAny (model X.prog X.w) X.A (eval b X.env) (fun u s₂=>wpAny (model X.prog X.w) X.A (f v u) Q X.xe s₂) X.xe s₁) X.xe s:=by
 refine thn (ha pins s σ H _ I h) fun v s1 ⟨x,H1,I1,r1,q1⟩=>?_;refine thn (hb pins s1 σ H1 _ I1 q1) fun u s2 ⟨y,H2,I2,r2,q2⟩=>?_;exact hf v u s2 x y H2 I2 r1 r2 q2
theorem zaq {op:Operator} {r:R2} (ho:OpR X (binaryOp op) r) (ha:PE X a ta) (hb:PE X b tb):PE X (.BinOp a op b pos) (tOp r ta tb):=by
 intro pins s σ H Q I h;exact wpAny_BinOp (binT ha hb I h fun v u s2 x y H2 I2 rx ry q=>ho pins s2 σ H2 x y v u Q I2 rx ry q)
theorem opI {f:Value→Value→Sem Value} {C:Int→Int→Prop} {g:Int→Int→Int}
  (rule:∀ (i j:Int) (t u:Tok) (s:Shared) (Q:Value→Shared→Prop) (E:Value→Shared→Prop),C i j→Q (.int (g i j) s.toks) { s with toks:=s.toks+1 }→wpAny (model X.prog X.w) X.A (f (.int i t) (.int j u)) Q E s) :
  OpR X f (rI C fun i j=>.int (g i j)):=by
 intro pins s σ H x y v u Q I rx ry h;obtain ⟨i,j,rfl,rfl,hc,q⟩:=h;obtain ⟨t,rfl⟩:=rx;obtain ⟨t',rfl⟩:=ry;exact rule i j t t' s _ _ hc ⟨.int (g i j),H,I.tok _,⟨_,rfl⟩,q⟩
theorem opI0 {f:Value→Value→Sem Value} {g:Int→Int→Int}
  (rule:∀ (i j:Int) (t u:Tok) (s:Shared) (Q:Value→Shared→Prop) (E:Value→Shared→Prop),Q (.int (g i j) s.toks) { s with toks:=s.toks+1 }→wpAny (model X.prog X.w) X.A (f (.int i t) (.int j u)) Q E s) :
  OpR X f (rI0 fun i j=>.int (g i j)):=by
 intro pins s σ H x y v u Q I rx ry h;obtain ⟨i,j,rfl,rfl,q⟩:=h;obtain ⟨t,rfl⟩:=rx;obtain ⟨t',rfl⟩:=ry;exact rule i j t t' s _ _ ⟨.int (g i j),H,I.tok _,⟨_,rfl⟩,q⟩
theorem opB0 {f:Value→Value→Sem Value} {g:Int→Int→Bool}
  (rule:∀ (i j:Int) (t u:Tok) (s:Shared) (Q:Value→Shared→Prop) (E:Value→Shared→Prop),Q (.bool (g i j)) s→wpAny (model X.prog X.w) X.A (f (.int i t) (.int j u)) Q E s) :
  OpR X f (rI0 fun i j=>.bl (g i j)):=by
 intro pins s σ H x y v u Q I rx ry h;obtain ⟨i,j,rfl,rfl,q⟩:=h;obtain ⟨t,rfl⟩:=rx;obtain ⟨t',rfl⟩:=ry;exact rule i j t t' s _ _ ⟨.bl (g i j),H,I,rfl,q⟩
theorem op_add:OpR X (binaryOp .Add) (rI0 fun i j=>.int (i+j)):=opI0 fun _ _ _ _ _ _ _ q=>add_int q
theorem op_sub:OpR X (binaryOp .Sub) (rI0 fun i j=>.int (i-j)):=opI0 fun _ _ _ _ _ _ _ q=>sub_int q
theorem op_mod:OpR X (binaryOp .Mod) (rI (fun _ j=>0 < j) fun i j=>.int (i % j)):=opI fun i j _ _ _ _ _ hc q=>by
 have h1:(0:Int) < j:=hc;exact mod_int' (by omega) (by rw [Int.fmod_eq_emod_of_nonneg i (by omega)];exact q)
end
def scal:V→V→Bool
 | .non,.non=>true | .non,.int _=>true | .int _,.non=>true | .non,.bl _=>true | .bl _,.non=>true | .non,.str _=>true | .str _,.non=>true
 | .int _,.int _=>true | .bl _,.bl _=>true | .str _,.str _=>true | .byt _,.byt _=>true
 | .int _,.str _=>true | .str _,.int _=>true | .bl _,.str _=>true | .str _,.bl _=>true
 | _,_=>false
def rEq:R2:=fun x y H Q=>scal x y=true∧Q (.bl (decide (x=y))) H
def rNe:R2:=fun x y H Q=>scal x y=true∧Q (.bl (!decide (x=y))) H
theorem zjk {i j:Int}:decide (V.int i=V.int j)=(i == j):=by
 rw [Bool.eq_iff_iff];simp
theorem zlx {i j:Bool}:decide (V.bl i=V.bl j)=(i == j):=by
 rw [Bool.eq_iff_iff];simp
theorem zjl {i j:Str}:decide (V.str i=V.str j)=(i == j):=by
 rw [Bool.eq_iff_iff];simp
theorem zjm {i j:Array UInt8}:decide (V.byt i=V.byt j)=(i.toList == j.toList):=by
 rw [Bool.eq_iff_iff]
 cases i
 cases j
 simp
section
variable {X:Cx} {a b c:Expr} {ta tb tc:TE} {pos:Pos}
theorem zaY {pins:List (Addr×Obj)} {σ:St} {H:Hp} {s:Shared} {Q:VK} {k k':Bool} (I:Inv X pins σ H s) (q:Q (.bl k) H) (e:k=k'):EP X pins σ Q (.bool k') s:=by
 subst e;exact ⟨.bl k,H,I,rfl,q⟩
theorem op_eq:OpR X (compareOp .Eq) rEq:=by
 intro pins s σ H x y v u Q I rx ry h;obtain ⟨hs,q⟩:=h
 cases x with
 | non =>
   cases rx
   cases y with
   | non=>cases ry;exact PySem.EqNone.eq_none_none (zaY I q (by simp))
   | bl j=>cases ry;exact PySem.EqNone.eq_none_bool (zaY I q (by simp))
   | int j=>obtain ⟨t',rfl⟩:=ry;exact PySem.EqNone.eq_none_int (zaY I q (by simp))
   | str j=>obtain ⟨t',rfl⟩:=ry;exact PySem.EqNone.eq_none_str (zaY I q (by simp))
   | _=>exact absurd (show false=true from hs) Bool.false_ne_true
 | bl i =>
   cases rx
   cases y with
   | non=>cases ry;exact PySem.EqNone.eq_bool_none (zaY I q (by simp))
   | bl j=>cases ry;exact eq_bool (zaY I q zlx)
   | str j=>obtain ⟨t',rfl⟩:=ry;exact PySem.EqMixed.eq_bool_str (zaY I q (by simp))
   | _=>exact absurd (show false=true from hs) Bool.false_ne_true
 | int i =>
   obtain ⟨t,rfl⟩:=rx
   cases y with
   | non=>cases ry;exact PySem.EqNone.eq_int_none (zaY I q (by simp))
   | int j=>obtain ⟨t',rfl⟩:=ry;exact eq_int (zaY I q zjk)
   | str j=>obtain ⟨t',rfl⟩:=ry;exact PySem.EqMixed.eq_int_str (zaY I q (by simp))
   | _=>exact absurd (show false=true from hs) Bool.false_ne_true
 | str i =>
   obtain ⟨t,rfl⟩:=rx
   cases y with
   | non=>cases ry;exact PySem.EqNone.eq_str_none (zaY I q (by simp))
   | bl j=>cases ry;exact PySem.EqMixed.eq_str_bool (zaY I q (by simp))
   | int j=>obtain ⟨t',rfl⟩:=ry;exact PySem.EqMixed.eq_str_int (zaY I q (by simp))
   | str j=>obtain ⟨t',rfl⟩:=ry;exact eq_str (zaY I q zjl)
   | _=>exact absurd (show false=true from hs) Bool.false_ne_true
 | byt i =>
   obtain ⟨t,rfl⟩:=rx
   cases y with
   | byt j=>obtain ⟨t',rfl⟩:=ry;exact PySem.W.eq_bytes (zaY I q zjm)
   | _=>exact absurd (show false=true from hs) Bool.false_ne_true
 | _=>cases y <;> exact absurd (show false=true from hs) Bool.false_ne_true
theorem op_ne:OpR X (compareOp .NotEq) rNe:=by
 intro pins s σ H x y v u Q I rx ry h;obtain ⟨hs,q⟩:=h
 cases x with
 | non =>
   cases rx
   cases y with
   | non=>cases ry;exact PySem.EqNone.ne_none_none (zaY I q (by simp))
   | bl j=>cases ry;exact PySem.EqNone.ne_none_bool (zaY I q (by simp))
   | int j=>obtain ⟨t',rfl⟩:=ry;exact PySem.EqNone.ne_none_int (zaY I q (by simp))
   | str j=>obtain ⟨t',rfl⟩:=ry;exact PySem.EqNone.ne_none_str (zaY I q (by simp))
   | _=>exact absurd (show false=true from hs) Bool.false_ne_true
 | bl i =>
   cases rx
   cases y with
   | non=>cases ry;exact PySem.EqNone.ne_bool_none (zaY I q (by simp))
   | bl j=>cases ry;exact ne_bool (zaY I q (congrArg not zlx))
   | str j=>obtain ⟨t',rfl⟩:=ry;exact PySem.EqMixed.ne_bool_str (zaY I q (by simp))
   | _=>exact absurd (show false=true from hs) Bool.false_ne_true
 | int i =>
   obtain ⟨t,rfl⟩:=rx
   cases y with
   | non=>cases ry;exact PySem.EqNone.ne_int_none (zaY I q (by simp))
   | int j=>obtain ⟨t',rfl⟩:=ry;exact ne_int (zaY I q (congrArg not zjk))
   | str j=>obtain ⟨t',rfl⟩:=ry;exact PySem.EqMixed.ne_int_str (zaY I q (by simp))
   | _=>exact absurd (show false=true from hs) Bool.false_ne_true
 | str i =>
   obtain ⟨t,rfl⟩:=rx
   cases y with
   | non=>cases ry;exact PySem.EqNone.ne_str_none (zaY I q (by simp))
   | bl j=>cases ry;exact PySem.EqMixed.ne_str_bool (zaY I q (by simp))
   | int j=>obtain ⟨t',rfl⟩:=ry;exact PySem.EqMixed.ne_str_int (zaY I q (by simp))
   | str j=>obtain ⟨t',rfl⟩:=ry;exact ne_str (zaY I q (congrArg not zjl))
   | _=>exact absurd (show false=true from hs) Bool.false_ne_true
 | byt i =>
   obtain ⟨t,rfl⟩:=rx
   cases y with
   | byt j=>obtain ⟨t',rfl⟩:=ry;exact PySem.W.ne_bytes (zaY I q (congrArg not zjm))
   | _=>exact absurd (show false=true from hs) Bool.false_ne_true
 | _=>cases y <;> exact absurd (show false=true from hs) Bool.false_ne_true
theorem op_lt:OpR X (compareOp .Lt) (rI0 fun i j=>.bl (decide (i < j))):=opB0 fun _ _ _ _ _ _ _ q=>lt_int q
theorem op_le:OpR X (compareOp .LtE) (rI0 fun i j=>.bl (decide (i≤j))):=opB0 fun _ _ _ _ _ _ _ q=>le_int q
theorem op_gt:OpR X (compareOp .Gt) (rI0 fun i j=>.bl (decide (j < i))):=opB0 fun _ _ _ _ _ _ _ q=>gt_int q
theorem op_ge:OpR X (compareOp .GtE) (rI0 fun i j=>.bl (decide (j≤i))):=opB0 fun _ _ _ _ _ _ _ q=>ge_int q
theorem op_isN:OpR X (compareOp .Is) (fun x y H Q=>y=.non∧Q (.bl (decide (x=.non))) H):=by
 intro pins s σ H x y v u Q I rx ry h;obtain ⟨rfl,q⟩:=h
 cases ry
 refine is_none_gen (zaY I q ?_)
 cases x <;> first
  | (cases rx;rfl)
  | (obtain ⟨t,rfl⟩:=rx;rfl)
theorem op_notN:OpR X (compareOp .IsNot) (fun x y H Q=>y=.non∧Q (.bl (!decide (x=.non))) H):=by
 intro pins s σ H x y v u Q I rx ry h;obtain ⟨rfl,q⟩:=h
 cases ry
 refine isnot_none_gen (zaY I q ?_)
 cases x <;> first
  | (cases rx;rfl)
  | (obtain ⟨t,rfl⟩:=rx;rfl)
theorem OpR.or {f:Value→Value→Sem Value} {r r':R2} (h:OpR X f r) (h':OpR X f r'):OpR X f (fun x y H Q=>r x y H Q∨r' x y H Q):=by
 intro pins s σ H x y v u Q I rx ry q;rcases q with q | q
 ·exact h pins s σ H x y v u Q I rx ry q
 ·exact h' pins s σ H x y v u Q I rx ry q
theorem zaC (b:Expr) {op:CmpOp} (h:op≠.In:=by decide) (h2:op≠.NotIn:=by decide):behindInMarks op b=false:=by
 have e1:(op == CmpOp.In)=false:=by cases op <;> first | rfl | exact absurd rfl h
 have e2:(op == CmpOp.NotIn)=false:=by cases op <;> first | rfl | exact absurd rfl h2
 cases b <;> simp [behindInMarks,e1,e2]
theorem zdx {op:CmpOp} {r:R2} (ho:OpR X (compareOp op) r) (ha:PE X a ta) (hb:PE X b tb) (hm:behindInMarks op b=false):PE X (.Compare a [op] [b] pos) (tOp r ta tb):=by
 intro pins s σ H Q I h;exact wpAny_Compare1 (binT ha hb I h fun v u s2 x y H2 I2 rx ry q=>ho pins s2 σ H2 x y v u Q I2 rx ry q) hm
def zmX (t:TE):TT:=fun σ H Q=>t σ H fun x H'=>∃ k,x=.bl k∧Q k H'
theorem zap {op:CmpOp} {r:R2} (ho:OpR X (compareOp op) r) (ha:PE X a ta) (hb:PE X b tb) (hm:behindInMarks op b=false):PT X (.Compare a [op] [b] pos) (zmX (tOp r ta tb)):=by
 intro pins s σ H Q I h;refine wpAny_isTrue_Compare1 (thn (ha pins s σ H _ I h) fun v s1 ⟨x,H1,I1,r1,q1⟩=>thn (hb pins s1 σ H1 _ I1 q1) fun u s2 ⟨y,H2,I2,r2,q2⟩ =>
  thn (ho pins s2 σ H2 x y v u _ I2 r1 r2 q2) fun c s3 ⟨z,H3,I3,r3,k,e,q3⟩=>?_) hm
 subst e
 cases r3
 exact wpAny_truthy_bool ⟨H3,I3,q3⟩
def TruV (K:PySem.W.Frag) (x:V) (H:Hp) (k:Bool):Prop :=
 match x with
 | .non=>k=false
 | .bl b=>k=b
 | .int i=>k=(i != 0)
 | .str y=>y.length≤sizeLine∧k=((y.length:Int) != 0)
 | .byt y=>y.size≤sizeLine∧k=((y.size:Int) != 0)
 | .ref p=>(∃ xs,SqL K H p xs∧k = !xs.isEmpty)∨(∃ xs,SqT K H p xs∧k = !xs.isEmpty)∨∃ kvs,H p=some (.dK kvs)∧k = !kvs.isEmpty
 | _=>False
theorem zis {κ:Type} {kvs:List (κ×V)} {vs:List (κ×Value)} (r:KV kvs vs):(!vs.isEmpty) = !kvs.isEmpty:=by
 cases r <;> rfl
theorem zfA {xs:List V} {its:List Value} (r:Vals xs its):(!its.toArray.isEmpty) = !xs.isEmpty:=by
 cases r <;> simp
theorem line63:(sizeLine:Nat) < 2 ^ 63:=by rw [sizeLine_eq];decide
theorem tru_ok:TruR X (fun x H Q=>∃ k,TruV X.K x H k∧Q k H):=by
 intro pins s σ H x v Q I rx h;obtain ⟨k,e,q⟩:=h;have hl:=line63;have hs:sizeLine=16777216:=sizeLine_eq
 cases x with
 | non =>
   cases rx
   have e':k=false:=e;subst e';exact truthy_none ⟨H,I,q⟩
 | bl b =>
   cases rx
   have e':k=b:=e;subst e';exact wpAny_truthy_bool ⟨H,I,q⟩
 | int i =>
   obtain ⟨t,rfl⟩:=rx;have e':k=(i != 0):=e;subst e';exact PySem.P.truthy_int ⟨H,I,q⟩
 | str y =>
   obtain ⟨t,rfl⟩:=rx;obtain ⟨hy,e'⟩:y.length≤sizeLine∧k=((y.length:Int) != 0):=e;subst e';exact PySem.P.truthy_str (by omega) ⟨H,I.tok _,q⟩
 | byt y =>
   obtain ⟨t,rfl⟩:=rx;obtain ⟨hy,e'⟩:y.size≤sizeLine∧k=((y.size:Int) != 0):=e;subst e';exact PySem.W.truthy_bytes (by omega) ⟨H,I.tok _,q⟩
 | ref p =>
   cases rx
   have e':(∃ xs,SqL X.K H p xs∧k = !xs.isEmpty)∨(∃ xs,SqT X.K H p xs∧k = !xs.isEmpty)∨∃ kvs,H p=some (.dK kvs)∧k = !kvs.isEmpty:=e;rcases e' with ⟨xs,hx,e'⟩ | ⟨xs,hx,e'⟩ | ⟨kvs,hx,e'⟩
   ·subst e';obtain ⟨its,r,pl,hz⟩:=I.list hx;have hlen:=r.length;exact wpAny_truthy_list pl.isList (by simp only [List.size_toArray];omega) ⟨H,I.tok _,by rw [zfA r];exact q⟩
   ·subst e';obtain ⟨its,r,pl,hz⟩:=I.tuple hx;have hlen:=r.length;exact truthy_tuple pl (by simp only [List.size_toArray];omega) ⟨H,I.tok _,by rw [zfA r];exact q⟩
   ·subst e';obtain ⟨hz,hS,vs,r,m⟩:kvs.length≤sizeLine∧(p == sysModules)=false∧∃ vs,KV kvs vs∧s.heap.DictOf (zbD X.prog X.w) p vs:=I.hok p _ hx;have hlen:kvs.length=vs.length:=Paired.length r;exact wpAny_truthy_dict hS m (by omega) ⟨H,I.tok _,by rw [zis r];exact q⟩
 | _=>exact (show False from e).elim
theorem zkF (ha:PE X a ta) (he:∀ whole,isTrue a X.env whole=(do let v ← whole;standAt a.pos;holding [v] (truthy v))) :
  PT X a (fun σ H Q=>ta σ H fun x H'=>∃ k,TruV X.K x H' k∧Q k H'):=by
 intro pins s σ H Q I h;exact isTrue_plain (thn (ha pins s σ H _ I h) fun v s1 ⟨x,H1,I1,r1,q1⟩=>tru_ok pins s1 σ H1 x v Q I1 r1 q1) (he _)
theorem op_add_str:OpR X (binaryOp .Add) (fun x y H Q=>∃ i j,x=.str i∧y=.str j∧i.length+j.length≤sizeLine∧Q (.str (i++j)) H):=by
 intro pins s σ H x y v u Q I rx ry h;obtain ⟨i,j,rfl,rfl,hz,q⟩:=h;obtain ⟨t,rfl⟩:=rx;obtain ⟨t',rfl⟩:=ry;exact add_str (fun t' tk=>⟨.str (i++j),H,I.tok _,⟨_,rfl⟩,q⟩) hz
theorem vals1 {x:V} {us:List Value} (r:Vals [x] us):∃ u,us=[u]∧RelV x u:=by
 cases r with
 | cons r1 r2=>cases r2;exact ⟨_,rfl,r1⟩
theorem vals2 {x y:V} {us:List Value} (r:Vals [x,y] us):∃ u w',us=[u,w']∧RelV x u∧RelV y w':=by
 cases r with
 | cons r1 r2 =>
   cases r2 with
   | cons r3 r4=>cases r4;exact ⟨_,_,rfl,r1,r3⟩
theorem call_abs:zdm X (.builtin "abs") (fun xs H Q=>∃ i,xs=[.int i]∧Q (.int (if i < 0 then -i else i)) H):=by
 intro pins s σ H xs us Q I r h;obtain ⟨i,rfl,q⟩:=h;obtain ⟨u,rfl,t,rfl⟩:=vals1 r;exact call_abs_int fun u tk=>⟨.int (if i < 0 then -i else i),H,I.tok _,⟨_,rfl⟩,q⟩
theorem zjn (hc:X.calm=true):zdm X (.builtin "max") (fun xs H Q=>∃ i j,xs=[.int i,.int j]∧Q (.int (if j > i then j else i)) H):=by
 intro pins s σ H xs us Q I r h;obtain ⟨i,j,rfl,q⟩:=h;obtain ⟨u,w',rfl,⟨t,rfl⟩,⟨t',rfl⟩⟩:=vals2 r;refine max_two_ints (I.ok.hd hc) fun h' tk k=>⟨_,H,I.kept k,?_,q⟩
 by_cases hj:j > i
 ·rw [if_pos hj,if_pos hj];exact ⟨_,rfl⟩
 ·rw [if_neg hj,if_neg hj];exact ⟨_,rfl⟩
theorem zjo (hc:X.calm=true):zdm X (.builtin "min") (fun xs H Q=>∃ i j,xs=[.int i,.int j]∧Q (.int (if j < i then j else i)) H):=by
 intro pins s σ H xs us Q I r h;obtain ⟨i,j,rfl,q⟩:=h;obtain ⟨u,w',rfl,⟨t,rfl⟩,⟨t',rfl⟩⟩:=vals2 r;refine min_two_ints (I.ok.hd hc) fun h' tk k=>⟨_,H,I.kept k,?_,q⟩
 by_cases hj:j < i
 ·rw [if_pos hj,if_pos hj];exact ⟨_,rfl⟩
 ·rw [if_neg hj,if_neg hj];exact ⟨_,rfl⟩
theorem call_int1:zdm X (.type "int") (fun xs H Q=>(∃ i,xs=[.int i]∧Q (.int i) H)∨∃ k,xs=[.bl k]∧Q (.int (if k then 1 else 0)) H):=by
 intro pins s σ H xs us Q I r h;rcases h with ⟨i,rfl,q⟩ | ⟨k,rfl,q⟩
 ·obtain ⟨u,rfl,t,rfl⟩:=vals1 r;exact call_int_int ⟨.int i,H,I,⟨_,rfl⟩,q⟩
 ·obtain ⟨u,rfl,r1⟩:=vals1 r
  cases r1
  exact call_int_bool ⟨.int (if k then 1 else 0),H,I.tok _,⟨_,rfl⟩,q⟩
end
end L2
namespace L2
open PySem PySem.Spec PyProof.Rows
structure ObjM (h:Heap) (x dx C:Addr) (mA:Str→Option Value):Prop where
 obj:h.get? x=some (PySem.W.instObj C dx)
 ns:h.Ns1 dx mA
 ne:dx≠x
theorem zjp {h:Heap} {dx:Addr} {mA:Str→Option Value} (n:h.Ns1 dx mA):∃ od,h.get? dx=some od∧∀ name,PySem.W.lookIn name od=some (mA name):=by
 obtain ⟨o,es,ep,ho,hd,hk,_,hm⟩:=n;refine ⟨o,ho,fun name=>?_⟩;have e:=hm name;unfold nsFind findBy at e;rw [← Array.find?_toList] at e;unfold PySem.W.lookIn;rw [hd];dsimp only;split
 ·rename_i y q
  rw [q] at e;exact congrArg some e
 ·rename_i q
  rw [q] at e;have a:es.toList.any (·.refKey)=false:=by
   rw [List.any_eq_false];intro y hy;obtain ⟨z,t,hkey⟩:=hk y (Array.mem_toList_iff.mp hy);simp [DictEntry.refKey,hkey]
  have a':¬es.toList.any (·.refKey)=true:=by rw [a];exact Bool.false_ne_true
  rw [if_neg a'];exact congrArg some e
theorem ObjM.look {h:Heap} {x dx C:Addr} {mA:Str→Option Value} (I:ObjM h x dx C mA):∃ od,PySem.W.InstAt h x (PySem.W.instObj C dx) C (some od)∧∀ name,PySem.W.lookIn name od=some (mA name) :=
 let ⟨od,ho,hl⟩:=zjp I.ns
 ⟨od,⟨I.obj,rfl,rfl,ho⟩,hl⟩
section
variable {prog:Program} {w:World} {A:Around} {E:Value→Shared→Prop} {s:Shared} {K:PySem.W.Frag} {x dx C f:Addr} {mA:Str→Option Value} {name:Str} {v:Value}
theorem zlU {expr:Bool} {Q:Value→Shared→Prop} (X:K.In s.heap) (I:ObjM s.heap x dx C mA) (hg:PySem.W.plainGet K C name=true) (hh:PySem.W.hasDictIn K C=true)
  (ha:PySem.W.findIn K (.ref C) name=some none) (hv:mA name=some v) (hv':PySem.W.handedIn v=true) (h:Q v { s with toks:=s.toks+1 }) :
  wpAny (model prog w) A (getAttr (.ref x) name expr) Q E s:=by
 obtain ⟨od,J,hl⟩:=I.look;exact PySem.W.get_value X J (PySem.W.plainGet_of hg).1 (PySem.W.findObj_own hh ha rfl (by rw [hl,hv])) hv' h
theorem zkG {pl:Sem Bool} {Q:Value×List Value→Shared→Prop} (X:K.In s.heap) (I:ObjM s.heap x dx C mA) (hg:PySem.W.plainGet K C name=true)
  (hf:PySem.W.findIn K (.ref C) name=some (some (.ref f))) (ht:PySem.W.isFn K (.ref f)=true) (hv:mA name=none) (h:Q (.ref f,[.ref x]) s) :
  wpAny (model prog w) A (getMethod (.ref x) name pl) Q E s:=by
 obtain ⟨od,J,hl⟩:=I.look;exact PySem.W.method_fn X J (PySem.W.plainGet_of hg).1 (PySem.W.plainGet_of hg).2 hf (beq_iff_eq.mp ht) (by show (PySem.W.lookIn name od).map (·.isSome)=some false;rw [hl,hv];rfl) h
theorem zlV {ns:List Str} {Q:Unit→Shared→Prop} (X:K.In s.heap) (I:ObjM s.heap x dx C mA)
  (hs:PySem.W.findIn K (.ref C) "__setattr__" = some (some (.builtin "object.__setattr__"))) (hp:PySem.W.plainOver K C=true) (ht:PySem.W.takerIn K C name=some none) (hh:PySem.W.hasDictIn K C=true)
  (hw:PySem.Within mA ns) (hsz:ns.length≤sizeLine)
  (h:∀ h',ObjM h' x dx C (fun y=>if y=name then some v else mA y)→Heap.SameBut dx s.heap h'→Q () { s with heap:=h',toks:=s.toks+2 }) :
  wpAny (model prog w) A (setAttr (.ref x) name v) Q E s:=by
 obtain ⟨od,J,hl⟩:=I.look;refine PySem.W.set_plain X J hs (PySem.W.osa_open (s:={ s with toks:=s.toks+1 }) (r:=none) X J hp ht fun b=>?_);obtain ⟨cd,hc,hd'⟩:=PySem.W.any_some hh;have hx:s.heap.get? x=some ⟨.ref C,some dx,.plain,#[]⟩:=I.obj;refine wpAny_bind (wpAny_pure (wpAny_bind (wpAny_bind (wpAny_loadPart hx (wpAny_bind (PySem.W.Looks.here (s:={ s with toks:=s.toks+1 }) (PySem.W.looks_clsIn X hc) ?_))))));rw [hd'];refine wpAny_pure (a:=some dx) (wpAny_bind (wpAny_pure (wpAny_bind ?_)));refine wpAny_nsSet1 (s:={ s with toks:=s.toks+1 }) I.ns fun h' hn2 hs2=>?_;obtain ⟨oD,esD,epD,hoD,hdD,hcD⟩:=hn2.count (PySem.Within.cons name v hw);refine wpAny_bind (wpAny_lookBehind hoD (by rw [hdD];exact pastItsLine_dict (Nat.le_trans hcD (by rw [List.length_cons];omega))) ?_);exact wpAny_pure (h _ ⟨(hs2.2 _ (Ne.symm I.ne)).trans I.obj,hn2,I.ne⟩ hs2)
theorem zkH {R:Result→Shared→Prop} {vs:List Value} {kw:List (Str×Value)} (X:K.In s.heap) (hm:PySem.W.makesIn K C=true)
  (hi:PySem.W.findIn K (.ref C) "__init__" = some (some (.ref f))) (hf:PySem.W.typeIn K (.ref f)=some (.type "function"))
  (h:codeAny (model prog w) (A.under (.builtin "type.__call__" ⟨.ref C::vs,kw⟩)) (.call (.ref f) ⟨.ref (s.heap.objs.size+1)::vs,kw⟩) (PySem.W.InitBack (s.heap.objs.size+1) R)
   { s with heap:=(s.heap.push PySem.W.emptyDict).push (PySem.W.instObj C s.heap.objs.size) }) :
  codeAny (model prog w) A (.call (.ref C) ⟨vs,kw⟩) R s:=by
 obtain ⟨hh,g,d,t,os⟩:=s;exact PySem.W.make_core (PySem.W.makes_of X hm) (PySem.W.looks_findIn X hi) (fun self=>PySem.W.bind_fn X self hf) (.inl rfl) h
end
def putF (f:Str) (v:V):List (Str×V)→List (Str×V)
 | []=>[(f,v)]
 | (g,x)::r=>if g=f then (g,v)::r else (g,x)::putF f v r
theorem zaH (f g:Str) (v:V):∀ fs:List (Str×V),(putF f v fs).lookup g=if g=f then some v else fs.lookup g
 | []=>by
   show List.lookup g [(f,v)]=_
   by_cases h:g=f
   ·have hb:(g == f)=true:=beq_iff_eq.mpr h;simp only [List.lookup,hb,if_pos h]
   ·have hb:(g == f)=false:=beq_eq_false_iff_ne.mpr h;simp only [List.lookup,hb,if_neg h]
 | (k,x)::r=>by
  have ih:=zaH f g v r;rw [show putF f v ((k,x)::r)=(if k=f then (k,v)::r else (k,x)::putF f v r) from rfl]
  by_cases hk:k=f
  ·rw [if_pos hk]
   by_cases h:g=k
   ·have hb:(g == k)=true:=beq_iff_eq.mpr h;simp only [List.lookup,hb,if_pos (h.trans hk)]
   ·have hb:(g == k)=false:=beq_eq_false_iff_ne.mpr h;simp only [List.lookup,hb,if_neg (fun e:g=f=>h (e.trans hk.symm))]
  ·rw [if_neg hk]
   by_cases h:g=k
   ·have hb:(g == k)=true:=beq_iff_eq.mpr h;simp only [List.lookup,hb,if_neg (fun e:g=f=>hk (h.symm.trans e))]
   ·have hb:(g == k)=false:=beq_eq_false_iff_ne.mpr h;simp only [List.lookup,hb];exact ih
theorem zeS (f:Str) (v:V):∀ fs:List (Str×V),f∈(putF f v fs).map (·.1)∧∀ g,g∈fs.map (·.1)→g∈(putF f v fs).map (·.1)
 | []=>⟨by simp [putF],fun g h=>by simp at h⟩
 | (k,x)::r=>by
  obtain ⟨i1,i2⟩:=zeS f v r;rw [show putF f v ((k,x)::r)=(if k=f then (k,v)::r else (k,x)::putF f v r) from rfl]
  by_cases hk:k=f
  ·rw [if_pos hk];subst hk;exact ⟨by simp,fun g h=>by simpa using h⟩
  ·rw [if_neg hk];refine ⟨?_,fun g h=>?_⟩
   ·rw [List.map_cons];exact List.mem_cons_of_mem _ i1
   ·rw [List.map_cons] at h ⊢;rcases List.mem_cons.mp h with e | e
    ·exact List.mem_cons.mpr (.inl e)
    ·exact List.mem_cons_of_mem _ (i2 g e)
theorem zeT (f:Str) (v:V):∀ fs:List (Str×V),(putF f v fs).length≤fs.length+1
 | []=>by simp [putF]
 | (k,x)::r=>by
  have ih:=zeT f v r;rw [show putF f v ((k,x)::r)=(if k=f then (k,v)::r else (k,x)::putF f v r) from rfl]
  by_cases hk:k=f
  ·rw [if_pos hk,List.length_cons,List.length_cons];omega
  ·rw [if_neg hk,List.length_cons,List.length_cons];omega
theorem RelO.some_of {v:V} {o:Option Value} (r:RelO (some v) o):∃ u,o=some u∧RelV v u:=by
 cases o with
 | none=>exact (show False from r).elim
 | some u=>exact ⟨u,rfl,r⟩
theorem RelO.none_of {o:Option Value} (r:RelO none o):o=none:=by
 cases o with
 | none=>rfl
 | some u=>exact (show False from r).elim
theorem zjq {v:V} {u:Value} (r:RelV v u):PySem.W.handedIn u=true:=by
 cases v with
 | non=>cases (show u=Value.none from r);rfl
 | bl b=>cases (show u=Value.bool b from r);rfl
 | int i=>obtain ⟨t,e⟩:=(show ∃ t,u=Value.int i t from r);cases e;rfl
 | str x=>obtain ⟨t,e⟩:=(show ∃ t,u=Value.str x t from r);cases e;rfl
 | byt b=>obtain ⟨t,e⟩:=(show ∃ t,u=Value.bytes b t from r);cases e;rfl
 | flt b=>obtain ⟨t,e⟩:=(show ∃ t,u=Value.float b t from r);cases e;rfl
 | ref a=>cases (show u=Value.ref a from r);rfl
 | ty n=>cases (show u=Value.type n from r);rfl
section
variable {P:Program} {w:World} {H H':Hp} {h h':Heap} {a C dx:Addr} {fs fs':List (Str×V)}
theorem zfT (hok:HOk P w H h) (e:H a=some (.ins C dx fs)):∃ mA,ObjM h a dx C mA∧(∀ f,RelO (fs.lookup f) (mA f))∧PySem.Within mA (fs.map (·.1))∧fs.length≤1000∧H dx=some (.own a):=by
 obtain ⟨d,z,ne,ob,mA,n,r,q⟩:=(show zbR P w H h a (.ins C dx fs) from hok a _ e)
 exact ⟨mA,⟨ob,n,ne⟩,r,q,z,d⟩
end
structure Cls (K:PySem.W.Frag) (C:Addr):Prop where
 pg:PySem.W.plainGet K C Str.empty=true
 hd:PySem.W.hasDictIn K C=true
 po:PySem.W.plainOver K C=true
 sa:PySem.W.findIn K (.ref C) "__setattr__" = some (some (.builtin "object.__setattr__"))
theorem Cls.get {K:PySem.W.Frag} {C:Addr} (c:Cls K C) (f:Str):PySem.W.plainGet K C f=true:=c.pg
def zbE (K:PySem.W.Frag) (C:Addr) (f:Str):Prop:=PySem.W.findIn K (.ref C) f=some none
theorem zbE.taker {K:PySem.W.Frag} {C:Addr} {f:Str} (n:zbE K C f):PySem.W.takerIn K C f=some none:=by
 unfold PySem.W.takerIn;rw [show PySem.W.findIn K (.ref C) f=some none from n];rfl
structure Meth (K:PySem.W.Frag) (C:Addr) (m:Str) (f:Addr):Prop where
 at_:PySem.W.findIn K (.ref C) m=some (some (.ref f))
 fn:PySem.W.isFn K (.ref f)=true
 kp:PySem.W.keepIn K (.ref f)=true
section
variable {X:Cx} {pins:List (Addr×Obj)} {σ:St} {H:Hp} {s:Shared} {a C dx:Addr} {fs:List (Str×V)} {f:Str} {v:V} {A:Around} {E:Value→Shared→Prop}
theorem zit {b:Bool} {Q:Value→Shared→Prop} (I:Inv X pins σ H s) (e:H a=some (.ins C dx fs)) (c:Cls X.K C) (n:zbE X.K C f) (l:fs.lookup f=some v)
  (h:∀ u s',Inv X pins σ H s'→RelV v u→Q u s'):wpAny (model X.prog X.w) A (getAttr (.ref a) f b) Q E s:=by
 obtain ⟨mA,O,r,_,_,_⟩:=zfT I.hok e;obtain ⟨u,hu,ru⟩:=RelO.some_of (v:=v) (o:=mA f) (by rw [← l];exact r f);exact zlU I.kIn O (c.get f) c.hd n hu (zjq ru) (h u _ (I.tok _) ru)
theorem zfB {m:Str} {g:Addr} {pl:Sem Bool} {Q:Value×List Value→Shared→Prop} (I:Inv X pins σ H s) (e:H a=some (.ins C dx fs)) (c:Cls X.K C) (k:Meth X.K C m g) (l:fs.lookup m=none)
  (h:Q (.ref g,[.ref a]) s):wpAny (model X.prog X.w) A (getMethod (.ref a) m pl) Q E s:=by
 obtain ⟨mA,O,r,_,_,_⟩:=zfT I.hok e;have hn:mA m=none:=RelO.none_of (by rw [← l];exact r m);exact zkG I.kIn O (c.get m) k.at_ k.fn hn h
theorem ziu {y:V} {u:Value} {Q:Unit→Shared→Prop} (I:Inv X pins σ H s) (e:H a=some (.ins C dx fs)) (c:Cls X.K C) (n:zbE X.K C f) (hl:fs.length < 1000) (ry:RelV y u)
  (h:∀ s',Inv X pins σ (upd H a (.ins C dx (putF f y fs))) s'→Q () s'):wpAny (model X.prog X.w) A (setAttr (.ref a) f u) Q E s:=by
 obtain ⟨mA,O,r,wi,_,ho⟩:=zfT I.hok e;have hz:(fs.map (·.1)).length≤sizeLine:=by rw [List.length_map,sizeLine_eq];omega
 refine zlV I.kIn O c.sa c.po n.taker c.hd wi hz fun h' O' sb=>h _ ?_;have hd:∃ o,h'.get? dx=some o:=let ⟨o,_,_,e',_⟩:=O'.ns;⟨o,e'⟩;refine I.write (x:=a) (e:=dx) (by rw [e];exact True.intro) (.inr ho) (fun b q hb z=>(sb.2 b hb).trans z) hd ?_;refine ⟨by rw [zaR O.ne];exact ho,?_,O.ne,O'.obj,_,O'.ns,fun g=>?_,fun g hg=>?_⟩
 ·have:=zeT f y fs;omega
 ·show RelO ((putF f y fs).lookup g) (if g=f then some u else mA g);rw [zaH]
  by_cases q:g=f
  ·rw [if_pos q,if_pos q];exact ry
  ·rw [if_neg q,if_neg q];exact r g
 ·by_cases q:g=f
  ·rw [q];exact (zeS f y fs).1
  ·refine (zeS f y fs).2 g (wi g fun z=>hg ?_);show (if g=f then some u else mA g)=none;rw [if_neg q];exact z
theorem Inv.made (I:Inv X pins σ H s):Inv X pins σ (upd (upd H s.heap.objs.size (.own (s.heap.objs.size+1))) (s.heap.objs.size+1) (.ins C s.heap.objs.size []))
  { s with heap:=(s.heap.push PySem.W.emptyDict).push (PySem.W.instObj C s.heap.objs.size) }:=by
 have e1:(s.heap.push PySem.W.emptyDict).get? s.heap.objs.size=some PySem.W.emptyDict:=Heap.get?_push_size s.heap rfl;have e2:((s.heap.push PySem.W.emptyDict).push (PySem.W.instObj C s.heap.objs.size)).get? (s.heap.objs.size+1)=some (PySem.W.instObj C s.heap.objs.size):=by
  have:=Heap.get?_push_size (s.heap.push PySem.W.emptyDict) (o:=PySem.W.instObj C s.heap.objs.size) rfl
  rwa [Heap.size_push] at this
 have e3:(s.heap.push PySem.W.emptyDict).Ns s.heap.objs.size (fun _=>none):=⟨PySem.W.emptyDict,#[],_,e1,rfl,(fun e he=>absurd he (by simp)),fun _=>rfl⟩
 have I1:=I.laid (a:=s.heap.objs.size) (o:=.own (s.heap.objs.size+1)) (h':=s.heap.push PySem.W.emptyDict) (t':=s.toks) (fun b u q=>Heap.get?_push_of_some _ q) (Nat.le_refl _) ⟨_,e1⟩;refine I1.laid (a:=s.heap.objs.size+1) (o:=.ins C s.heap.objs.size []) (t':=s.toks) (fun b u q=>Heap.get?_push_of_some _ q) (Nat.le_of_eq (Heap.size_push _ _)) ?_;have ne:s.heap.objs.size≠s.heap.objs.size+1:=Nat.ne_of_lt (Nat.lt_succ_self _);refine ⟨by rw [zaR ne,zay],Nat.zero_le _,ne,e2,fun _=>none,(Heap.Ns1.of_empty e3).at fun o q=>Heap.get?_push_of_some _ q,fun _=>True.intro,fun y hy=>absurd rfl hy⟩
theorem zlW {prog:Program} {w:World} {env:Env} {e:Expr} {f:Str} {pos:Pos} {s:Shared} {Q:Value→Shared→Prop} (hb:attributeBase e f env (eval e env)=eval e env)
  (h:wpAny (model prog w) A (eval e env) (fun o s₁=>wpAny (model prog w) A (getAttr o f true) Q E s₁) E s):wpAny (model prog w) A (eval (.Attribute e f pos) env) Q E s :=
 Attribute_any_ h (by rw [arm_eval_Attribute,hb])
end
def tFld (K:PySem.W.Frag) (ta:TE) (f:Str):TE:=fun σ H Q=>ta σ H fun x H1=>∃ a C dx fs v,x=.ref a∧H1 a=some (.ins C dx fs)∧Cls K C∧zbE K C f∧fs.lookup f=some v∧Q v H1
def sFld (K:PySem.W.Frag) (ta tv:TE) (f:Str):TS:=fun D σ H=>tv σ H fun y H1=>ta σ H1 fun x H2=>∃ a C dx fs,x=.ref a∧H2 a=some (.ins C dx fs)∧Cls K C∧zbE K C f∧fs.length < 1000 ∧
 D.nx σ (upd H2 a (.ins C dx (putF f y fs)))
section
variable {X:Cx} {o e value:Expr} {f:Str} {pos pos' tpos:Pos} {ta tv:TE}
theorem zmY (he:PE X e ta) (hb:attributeBase e f X.env (eval e X.env)=eval e X.env):PE X (.Attribute e f pos) (tFld X.K ta f):=by
 intro pins s σ H Q I h;refine zlW hb (thn (he pins s σ H _ I h) fun u s1 ⟨x,H1,I1,rx,a,C,dx,fs,v,ex,ea,c,n,l,q⟩=>?_);subst ex;obtain rfl:u=Value.ref a:=rx;exact zit I1 ea c n l fun u' s2 I2 ru=>⟨v,H1,I2,ru,q⟩
theorem zmZ (ha:PE X o ta) (hv:PE X value tv) (hs:swapsWith value (some (.Attribute o f pos')) pos.line X.env=pure false):PS X (.Assign [.Attribute o f pos'] value pos) (sFld X.K ta tv f):=by
 intro pins s σ H D I h;refine plainObj_wpAny_Assign_Attribute (thn (hv pins s σ H _ I h) fun u s1 ⟨y,H1,I1,ry,q⟩=>thn (ha pins s1 σ H1 _ I1 q) fun ov s2 ⟨x,H2,I2,rx,a,C,dx,fs,ex,ea,c,n,l,q2⟩=>?_) hs;subst ex;obtain rfl:ov=Value.ref a:=rx;exact ziu I2 ea c n l ry fun s3 I3=>⟨σ,_,I3,q2⟩
end
section
variable {X:Cx} {pins:List (Addr×Obj)} {σ:St} {H:Hp} {s:Shared} {A:Around} {E:Value→Shared→Prop} {Q:Value→Shared→Prop} {c:Value} {b:Bool}
inductive TyOf (K:PySem.W.Frag) (H:Hp):V→Value→Prop where
 | non:TyOf K H .non (.type "NoneType")
 | bl (x:Bool):TyOf K H (.bl x) (.type "bool")
 | int (i:Int):TyOf K H (.int i) (.type "int")
 | str (x:Str):TyOf K H (.str x) (.type "str")
 | flt (x:UInt64):TyOf K H (.flt x) (.type "float")
 | lst {a:Addr} {xs:List V} (e:H a=some (.lst xs)):TyOf K H (.ref a) (.type "list")
 | frz {a:Addr} {o:Obj} {xs:List V} (e:H a=some (.frz o (.lst xs))):TyOf K H (.ref a) (.type "list")
 | tup {a:Addr} {xs:List V} (e:H a=some (.tup xs)):TyOf K H (.ref a) (.type "tuple")
 | dK {a:Addr} {kvs:List (Key×V)} (e:H a=some (.dK kvs)):TyOf K H (.ref a) (.type "dict")
 | dT {a:Addr} {kvs:List (List Key×V)} (e:H a=some (.dT kvs)):TyOf K H (.ref a) (.type "dict")
 | ins {a C dx:Addr} {fs:List (Str×V)} (e:H a=some (.ins C dx fs)) (cl:Cls K C) (ha:PySem.W.findIn K (.ref C) "__class__" = some (some (.builtin "object.__class__")))
    (hn:PySem.W.specialIn K (.builtin "object.__class__") "__get__" = some (some (.builtin "getset_descriptor.__get__"))) (htk:PySem.W.takesIn K (.builtin "object.__class__")=some true)
    (hm:PySem.W.mroIn K C (.type "object")=some true):TyOf K H (.ref a) (.ref C)
theorem zjr {x:V} {u t:Value} (I:Inv X pins σ H s) (rx:RelV x u) (ty:TyOf X.K H x t) (e:PySem.W.kitOne X.K t c=some b) (h:∀ tk,Q (.bool b) { s with toks:=tk }) :
  wpAny (model X.prog X.w) A (call (.builtin "isinstance") [u,c]) Q E s:=by
 cases ty with
 | non=>cases (show u=Value.none from rx);exact PySem.W.kia_one PySem.W.kitx_none I.kIn True.intro e (fun z=>nomatch z) h
 | bl y=>cases (show u=Value.bool y from rx);exact PySem.W.kia_one PySem.W.kitx_bool I.kIn True.intro e (fun z=>nomatch z) h
 | int i=>obtain ⟨t,q⟩:=(show ∃ t,u=Value.int i t from rx);cases q;exact PySem.W.kia_one PySem.W.kitx_int I.kIn True.intro e (fun z=>nomatch z) h
 | str y=>obtain ⟨t,q⟩:=(show ∃ t,u=Value.str y t from rx);cases q;exact PySem.W.kia_one PySem.W.kitx_str I.kIn True.intro e (fun z=>nomatch z) h
 | flt y=>obtain ⟨t,q⟩:=(show ∃ t,u=Value.float y t from rx);cases q;exact PySem.W.kia_one PySem.W.kitx_float I.kIn True.intro e (fun z=>nomatch z) h
 | @lst a xs ea =>
   cases (show u=Value.ref a from rx)
   obtain ⟨_,_,n,_,h1⟩:=(show zbR X.prog X.w H s.heap a (.lst xs) from I.hok a _ ea)
   exact PySem.W.kia_one PySem.W.kitx_list I.kIn ⟨_,h1,rfl⟩ e (fun z=>nomatch z) h
 | @frz a ob xs ea =>
   cases (show u=Value.ref a from rx)
   obtain ⟨_,_,_,n,_,h1⟩:=(show zbR X.prog X.w H s.heap a (.frz ob (.lst xs)) from I.hok a _ ea)
   exact PySem.W.kia_one PySem.W.kitx_list I.kIn ⟨_,h1,rfl⟩ e (fun z=>nomatch z) h
 | @tup a xs ea =>
   cases (show u=Value.ref a from rx)
   obtain ⟨_,_,_,p⟩:=(show zbR X.prog X.w H s.heap a (.tup xs) from I.hok a _ ea)
   obtain ⟨o,h1,h2,_⟩:=p;exact PySem.W.kia_one PySem.W.kitx_tuple I.kIn ⟨o,h1,h2⟩ e (fun z=>nomatch z) h
 | @dK a kvs ea =>
   cases (show u=Value.ref a from rx)
   obtain ⟨_,_,vs,_,p⟩:=(show zbR X.prog X.w H s.heap a (.dK kvs) from I.hok a _ ea)
   obtain ⟨o,es,ep,h1,h2,_⟩:=p;exact PySem.W.kia_one PySem.W.kitx_dict I.kIn ⟨o,h1,h2.1⟩ e (fun z=>nomatch z) h
 | @dT a kvs ea =>
   cases (show u=Value.ref a from rx)
   obtain ⟨_,_,xs,_,o,es,ep,h1,h2,_⟩:=(show zbR X.prog X.w H s.heap a (.dT kvs) from I.hok a _ ea)
   exact PySem.W.kia_one PySem.W.kitx_dict I.kIn ⟨o,h1,h2.1⟩ e (fun z=>nomatch z) h
 | @ins a C dx fs ea cl ha hn htk hm =>
   cases (show u=Value.ref a from rx)
   obtain ⟨mA,O,_⟩:=zfT I.hok ea;obtain ⟨od,J,_⟩:=O.look;exact PySem.W.kia_one (PySem.W.kitx_own (cl.get _) cl.hd ha hn htk hm) I.kIn J e (fun z=>nomatch z) h
end
end L2
namespace L2
open PySem PySem.Spec PyProof.Rows
structure Room (k:Nat) (A:Around):Prop where
 hd:A.handled=none
 dp:A.depth+3 * k+5 < recursionLimit
 un:A.units+16 * k+200 < cLine
theorem Room.mono {j k:Nat} {A:Around} (r:Room k A) (h:j≤k):Room j A:=⟨r.hd,by have:=r.dp;omega,by have:=r.un;omega⟩
theorem Room.deeper {k:Nat} {A:Around} (r:Room (k+1) A) (env:Env):Room k (A.deeper env) :=
 ⟨r.hd,by have:=r.dp;show A.depth+1+3 * k+5 < _;omega,by have:=r.un;show A.units+3+16 * k+200 < _;omega⟩
theorem ziv {A:Around} {C:Addr} {us:List Value} {kw:List (Str×Value)}:(A.under (.builtin "type.__call__" ⟨.ref C::us,kw⟩)).depth=A.depth+1:=by
 first | rfl | simp [Around.under,Code.weight,Code.isCreation,Code.isGuard,Code.isCaller,Code.frames,Code.isFrame,guardIds]
theorem ziw {A:Around} {C:Addr} {us:List Value} {kw:List (Str×Value)}:(A.under (.builtin "type.__call__" ⟨.ref C::us,kw⟩)).units=A.units+1:=by
 first | rfl | simp [Around.under,Code.cUnits,Code.frames,Code.isFrame]
theorem Room.make {k:Nat} {A:Around} (r:Room (k+1) A) (C:Addr) (us:List Value) (kw:List (Str×Value)):Room k (A.under (.builtin "type.__call__" ⟨.ref C::us,kw⟩)) :=
 ⟨r.hd,by have:=r.dp;rw [ziv];omega,by have:=r.un;rw [ziw];omega⟩
theorem Room.depth {k:Nat} {A:Around} (r:Room k A):A.depth < recursionLimit:=by have:=r.dp;omega
theorem Room.units {k:Nat} {A:Around} (r:Room k A):A.units+64 < cLine:=by have:=r.un;omega
theorem Room.units0 {k:Nat} {A:Around} (r:Room k A):A.units < cLine:=by have:=r.un;omega
def tNil:TA:=fun _ H Q=>Q [] H
def zgi (ta:TE) (tr:TA):TA:=fun σ H Q=>ta σ H fun x H1=>tr σ H1 fun xs H2=>Q (x::xs) H2
section
variable {X:Cx} {e:Expr} {es:List Expr} {te:TE} {t:TA} {pos:Pos}
theorem pa_nil:PA X [] tNil:=fun _ _ _ _ H Q I h=>Calls.spliced_nil ⟨[],H,I,.nil,h⟩
theorem zaa (ha:PE X e te) (hr:PA X es t) (hs:starEach (e::es) X.env=(false,eval e X.env)::starEach es X.env:=by rfl):PA X (e::es) (zgi te t):=by
 intro pos pins s σ H Q I h;rw [hs];show wpAny _ _ (spliced ((false,eval e X.env)::backTo pos (starEach es X.env))) _ _ s;refine Calls.spliced_cons (thn (ha pins s σ H _ I h) fun u s1 ⟨x,H1,I1,r1,q1⟩=>?_);exact thn (hr pos pins s1 σ H1 _ I1 q1) fun us s2 ⟨xs,H2,I2,r2,q2⟩=>⟨x::xs,H2,I2,.cons r1 r2,q2⟩
def tLst (t:TA):TE:=fun σ H Q=>t σ H fun xs H1=>xs.length≤sizeLine∧∀ p,H1 p=none→Q (.ref p) (upd H1 p (.lst xs))
theorem zaM (h:PA X es t):PE X (.List es pos) (tLst t):=by
 intro pins s σ H Q I hq;refine wpAny_List_spliced (thn (h pos pins s σ H _ I hq) fun us s1 ⟨xs,H1,I1,r,z,q⟩=>⟨by rw [← r.length];exact z,?_⟩);have hf:H1 s1.heap.objs.size=none:=I1.hok.fresh (Nat.le_refl _);refine ⟨.ref s1.heap.objs.size,upd H1 s1.heap.objs.size (.lst xs),I1.laid (t':=s1.toks) (fun b u e=>Heap.get?_push_of_some _ e) (Nat.le_refl _) ?_,rfl,q _ hf⟩;exact ⟨z,us,0,r,Heap.get?_push_size _ rfl⟩
end
abbrev Sp:=List V→Hp→VK→XK→Prop
abbrev CXT:=List Env→Hp→Shared→XK→Value→Shared→Prop
structure Env0 (P:Program) (w:World) (K:PySem.W.Frag) (mg:Str→Option Value) (base:Heap) (A:Around) (outer:List Env) (s:Shared) (H:Hp):Prop where
 frames:A.frames=some outer
 mod:Mod K mg base
 bs:∀ b o,base.get? b=some o→s.heap.get? b=some o∧H b=none
 bsz:base.objs.size≤s.heap.objs.size
 funs:s.heap.FunFrames base outer
 frf:∀ b∈frs outer,H b=none
 hok:HOk P w H s.heap
 bare:AllBare s.gens
def CE (outer:List Env) (P:Program) (w:World) (H:Hp) (s:Shared) (Q:VK) (u:Value) (s':Shared):Prop :=
 ∃ v H',s'.os=s.os∧AllBare s'.gens∧Un (frs outer) [] H H' s.heap s'.heap∧HOk P w H' s'.heap∧RelV v u∧Q v H'
def CR (CX:CXT) (outer:List Env) (P:Program) (w:World) (H:Hp) (s:Shared) (Q:VK) (E:XK) (r:Result) (s':Shared):Prop :=
 match r with
 | .ok (.ret u)=>CE outer P w H s Q u s'
 | .ok _=>False
 | .error e=>CX outer H s E e s'
structure FnOk (P:Program) (w:World) (K:PySem.W.Frag) (mg:Str→Option Value) (base:Heap) (CX:CXT) (k:Nat) (f:Addr) (fd:FuncData) (ps:List Str) (sp:Sp):Prop where
 len:∀ vs H Q E,sp vs H Q E→vs.length=ps.length
 run:∀ (A:Around) (outer:List Env) (s:Shared) (H:Hp) (args:Args) (us:List Value) (vs:List V) (Q:VK) (E:XK),Room k A→Env0 P w K mg base A outer s H→BindsTo s fd args (ps.zip us)→Vals vs us→sp vs H Q E →
  codeAny (model P w) A (.call (.ref f) args) (CR CX outer P w H s Q E) s
theorem Env0.make {P:Program} {w:World} {K:PySem.W.Frag} {mg:Str→Option Value} {base:Heap} {A:Around} {outer:List Env} {s:Shared} {H:Hp} (e:Env0 P w K mg base A outer s H) (C:Addr) (us:List Value) (kw:List (Str×Value)) :
  Env0 P w K mg base (A.under (.builtin "type.__call__" ⟨.ref C::us,kw⟩)) outer s H:=⟨by first | exact e.frames | (simpa [Around.under,Code.envs,Code.isFrame,pushEnvs] using e.frames),e.mod,e.bs,e.bsz,e.funs,e.frf,e.hok,e.bare⟩
section
variable {X:Cx} {pins:List (Addr×Obj)} {σ:St} {H:Hp} {s s':Shared}
theorem Inv.env0 (I:Inv X pins σ H s):Env0 X.prog X.w X.K X.mg X.base X.A X.stack s H :=
 ⟨I.ok.frames,I.ok.mod,I.bs,Nat.le_trans I.ok.bsz I.sz,I.stack,I.stkFree,I.hok,I.bare⟩
theorem Inv.after {Q:VK} {u:Value} (I:Inv X pins σ H s) (h:CE X.stack X.prog X.w H s Q u s'):EP X pins σ Q u s':=by
 obtain ⟨v,H',os,bare,un,hok,r,q⟩:=h;obtain ⟨hh,g,d,t,os'⟩:=s';obtain rfl:os'=s.os:=os;exact ⟨v,H',I.call (h':=hh) (g':=g) (d':=d) (t':=t) (ch:=[]) un hok bare (fun b z=>absurd z (by simp)),r,q⟩
end
def zlX (sp:Sp) (dvs:List V) (E:XK) (t:TA):TE:=fun σ H Q=>t σ H fun vs H1=>sp (vs++dvs) H1 Q E
def zlY (C:Addr) (m:Str) (sp:Sp) (dvs:List V) (E:XK) (ta:TE) (t:TA):TE:=fun σ H Q=>ta σ H fun x H1=>∃ a dx fs,x=.ref a∧H1 a=some (.ins C dx fs)∧fs.lookup m=none ∧
 t σ H1 fun vs H2=>sp (x::(vs++dvs)) H2 Q E
def zlZ (C:Addr) (sp:Sp) (dvs:List V) (E:XK) (t:TA):TE:=fun σ H Q=>t σ H fun vs H1=>∀ x dx,H1 x=none→H1 dx=none→dx≠x →
 sp (.ref x::(vs++dvs)) (upd (upd H1 dx (.own x)) x (.ins C dx [])) (fun v H2=>v=.non∧Q (.ref x) H2) E
def Binds (K:PySem.W.Frag) (fd:FuncData) (ps:List Str) (ds:List Value):Prop :=
 ∀ (s:Shared) (us:List Value),K.In s.heap→(us++ds).length=ps.length→BindsTo s fd ⟨us,[]⟩ (ps.zip (us++ds))
theorem Binds.all {K:PySem.W.Frag} {fd:FuncData} {ps:List Str} (h:∀ us:List Value,us.length=ps.length→bindArgs fd ⟨us,[]⟩=pure (ps.zip us)):Binds K fd ps []:=fun s us _ hl=>by
 rw [List.append_nil] at hl ⊢;exact .of_eq (h us hl)
def zep (CX:CXT) (X:Cx) (E:XK):Prop:=∀ (pins:List (Addr×Obj)) (σ:St) (H:Hp) (s:Shared) (e:Value) (s':Shared),Inv X pins σ H s→CX X.stack H s E e s'→X.xe e s'
section
variable {X:Cx} {CX:CXT} {k:Nat} {f C:Addr} {fd:FuncData} {ps:List Str} {sp:Sp} {dvs:List V} {ds:List Value} {E:XK} {x m:Str} {p pos apos:Pos} {e o:Expr} {es:List Expr} {ta:TE} {t:TA}
theorem zjs {pins:List (Addr×Obj)} {σ:St} {H:Hp} {s:Shared} {Q:VK} {us:List Value} {vs:List V} (F:FnOk X.prog X.w X.K X.mg X.base CX k f fd ps sp) (hr:Room k X.A) (hb:Binds X.K fd ps ds) (hd:Vals dvs ds) (hx:zep CX X E)
  (I:Inv X pins σ H s) (r:Vals vs us) (h:sp (vs++dvs) H Q E):wpAny (model X.prog X.w) X.A (call (.ref f) us) (EP X pins σ Q) X.xe s:=by
 have r2:Vals (vs++dvs) (us++ds):=r.append hd;have hl:(us++ds).length=ps.length:=by rw [← r2.length];exact F.len _ _ _ _ h
 refine wpAny_call (codeAny_mono (F.run X.A X.stack s H ⟨us,[]⟩ (us++ds) (vs++dvs) Q E hr I.env0 (hb s us I.kIn hl) r2 h) fun r s' hq=>?_)
 cases r with
 | error e=>exact hx pins σ H s e s' I hq
 | ok fl =>
   cases fl with
   | ret u=>exact I.after hq
   | next=>exact False.elim hq
   | brk=>exact False.elim hq
   | cont=>exact False.elim hq
theorem zal (F:FnOk X.prog X.w X.K X.mg X.base CX k f fd ps sp) (hr:Room k X.A) (hg:Gl X x) (hm:X.mg x=some (.ref f)) (hk:PySem.W.keepIn X.K (.ref f)=true) (hb:Binds X.K fd ps ds) (hd:Vals dvs ds) (hx:zep CX X E)
  (ha:PA X (e::es) t) (hdb:(x == ("__debug__" : Str))=false:=by decide) (he:starEach (e::es) X.env=(false,eval e X.env)::starEach es X.env:=by rfl) (hpl:(backTo pos (starEach es X.env)).any (·.1)=false:=by rfl) :
  PE X (.Call (.Name x p) (e::es) [] pos) (zlX sp dvs E t):=by
 intro pins s σ H Q I h;refine wpAny_Call_Name_kw (zfS I hg hm ?_ hdb);refine PySem.W.callWith_K (h₀:=X.base) I.ok.mod.kin hk (thn (ha pos pins s σ H _ I h) fun us s1 ⟨vs,H1,I1,r,q⟩=>⟨I1.kIn,?_⟩) he hpl;exact zjs F hr hb hd hx I1 r q
theorem zbf {pl:Sem Bool} (he:PE X o ta) (c:Cls X.K C) (hm:Meth X.K C m f) (F:FnOk X.prog X.w X.K X.mg X.base CX k f fd ps sp) (hr:Room k X.A) (hb:Binds X.K fd ps ds) (hd:Vals dvs ds) (hx:zep CX X E) (ha:PA X (e::es) t)
  (hst:starEach (e::es) X.env=(false,eval e X.env)::starEach es X.env:=by rfl) (hpl:(backTo pos (starEach es X.env)).any (·.1)=false:=by rfl)
  (ht:eval (.Call (.Attribute o m apos) (e::es) [] pos) X.env=(do
   let ov ← eval o X.env
   standAt apos.atName
   let (f,first) ← holding [ov] (getMethod ov m pl)
   callWith pos f first (backTo pos (starEach (e::es) X.env)) (backToKw pos (keywordEach [] X.env))):=by rfl) :
  PE X (.Call (.Attribute o m apos) (e::es) [] pos) (zlY C m sp dvs E ta t):=by
 intro pins s σ H Q I h;refine PySem.W.methodCall_KW (pl:=pl) (thn (he pins s σ H _ I h) fun u s1 ⟨x,H1,I1,rx,a,dx,fs,ex,ea,l,q⟩=>?_) ht;subst ex;obtain rfl:u=Value.ref a:=rx;refine zfB I1 ea c hm l ?_;refine PySem.W.callWith_K (first:=[.ref a]) (h₀:=X.base) I.ok.mod.kin hm.kp (thn (ha pos pins s1 σ H1 _ I1 q) fun us s2 ⟨vs,H2,I2,r,q2⟩=>⟨I2.kIn,?_⟩) hst hpl;exact zjs (us:=.ref a::us) (vs:=.ref a::vs) F hr hb hd hx I2 (.cons rfl r) q2
theorem zbt {pl:Sem Bool} (he:PE X o ta) (c:Cls X.K C) (hm:Meth X.K C m f) (F:FnOk X.prog X.w X.K X.mg X.base CX k f fd ps sp) (hr:Room k X.A) (hb:Binds X.K fd ps ds) (hd:Vals dvs ds) (hx:zep CX X E)
  (ht:eval (.Call (.Attribute o m apos) [] [] pos) X.env=(do
   let ov ← eval o X.env
   standAt apos.atName
   let (f,first) ← holding [ov] (getMethod ov m pl)
   callWith pos f first (backTo pos (starEach [] X.env)) (backToKw pos (keywordEach [] X.env))):=by rfl) :
  PE X (.Call (.Attribute o m apos) [] [] pos) (zlY C m sp dvs E ta tNil):=by
 intro pins s σ H Q I h;refine PySem.W.methodCall_KW (pl:=pl) (thn (he pins s σ H _ I h) fun u s1 ⟨x,H1,I1,rx,a,dx,fs,ex,ea,l,q⟩=>?_) ht;subst ex;obtain rfl:u=Value.ref a:=rx;refine zfB I1 ea c hm l ?_;exact PySem.W.callWith_K0 (first:=[.ref a]) I1.kIn hm.kp (zjs (us:=[.ref a]) (vs:=[.ref a]) F hr hb hd hx I1 (.cons rfl .nil) q)
structure Mk (K:PySem.W.Frag) (C f:Addr):Prop where
 makes:PySem.W.makesIn K C=true
 init:PySem.W.findIn K (.ref C) "__init__" = some (some (.ref f))
 fn:PySem.W.isFn K (.ref f)=true
 kp:PySem.W.keepIn K (.ref C)=true
theorem zhV {pins:List (Addr×Obj)} {σ:St} {H:Hp} {s:Shared} {Q:VK} {us:List Value} {vs:List V} (M:Mk X.K C f) (F:FnOk X.prog X.w X.K X.mg X.base CX k f fd ps sp) (hr:Room (k+1) X.A) (hb:Binds X.K fd ps ds) (hd:Vals dvs ds)
  (hx:zep CX X E) (I:Inv X pins σ H s) (r:Vals vs us)
  (h:∀ x dx,H x=none→H dx=none→dx≠x→sp (.ref x::(vs++dvs)) (upd (upd H dx (.own x)) x (.ins C dx [])) (fun v H2=>v=.non∧Q (.ref x) H2) E) :
  wpAny (model X.prog X.w) X.A (call (.ref C) us) (EP X pins σ Q) X.xe s:=by
 have hq:=h (s.heap.objs.size+1) s.heap.objs.size (I.hok.fresh (Nat.le_succ _)) (I.hok.fresh (Nat.le_refl _)) (Nat.ne_of_lt (Nat.lt_succ_self _));have I2:=Inv.made (C:=C) I;have r2:Vals (V.ref (s.heap.objs.size+1)::(vs++dvs)) (Value.ref (s.heap.objs.size+1)::(us++ds)):=.cons rfl (r.append hd);have hl:(Value.ref (s.heap.objs.size+1)::us++ds).length=ps.length:=by
  have e:=r2.length;rw [F.len _ _ _ _ hq] at e;exact e.symm
 refine wpAny_call (zkH (f:=f) I.kIn M.makes M.init (beq_iff_eq.mp M.fn) (codeAny_mono (F.run _ X.stack _ _ ⟨Value.ref (s.heap.objs.size+1)::us,[]⟩ (Value.ref (s.heap.objs.size+1)::(us++ds)) _ _ E (hr.make C us [])
  (I2.env0.make C us []) (hb _ (Value.ref (s.heap.objs.size+1)::us) I2.kIn hl) r2 hq) fun r s' hq'=>?_))
 cases r with
 | error e=>exact hx pins σ _ _ e s' I2 hq'
 | ok fl =>
   cases fl with
   | ret u =>
     obtain ⟨v,H',I3,rv,ev,q3⟩:=I2.after hq';subst ev;exact ⟨rv,⟨V.ref (s.heap.objs.size+1),H',I3,rfl,q3⟩⟩
   | next=>exact False.elim hq'
   | brk=>exact False.elim hq'
   | cont=>exact False.elim hq'
theorem zl0 (M:Mk X.K C f) (F:FnOk X.prog X.w X.K X.mg X.base CX k f fd ps sp) (hr:Room (k+1) X.A) (hg:Gl X x) (hm:X.mg x=some (.ref C)) (hb:Binds X.K fd ps ds) (hd:Vals dvs ds) (hx:zep CX X E)
  (ha:PA X (e::es) t) (hdb:(x == ("__debug__" : Str))=false:=by decide) (he:starEach (e::es) X.env=(false,eval e X.env)::starEach es X.env:=by rfl) (hpl:(backTo pos (starEach es X.env)).any (·.1)=false:=by rfl) :
  PE X (.Call (.Name x p) (e::es) [] pos) (zlZ C sp dvs E t):=by
 intro pins s σ H Q I h;refine wpAny_Call_Name_kw (zfS I hg hm ?_ hdb);refine PySem.W.callWith_K (h₀:=X.base) I.ok.mod.kin M.kp (thn (ha pos pins s σ H _ I h) fun us s1 ⟨vs,H1,I1,r,q⟩=>⟨I1.kIn,?_⟩) he hpl;exact zhV M F hr hb hd hx I1 r q
theorem zkI (M:Mk X.K C f) (F:FnOk X.prog X.w X.K X.mg X.base CX k f fd ps sp) (hr:Room (k+1) X.A) (hg:Gl X x) (hm:X.mg x=some (.ref C)) (hb:Binds X.K fd ps ds) (hd:Vals dvs ds) (hx:zep CX X E)
  (hdb:(x == ("__debug__" : Str))=false:=by decide):PE X (.Call (.Name x p) [] [] pos) (zlZ C sp dvs E tNil):=by
 intro pins s σ H Q I h;refine wpAny_Call_Name_kw (zfS I hg hm ?_ hdb);exact PySem.W.callWith_K0 I.kIn M.kp (zhV (us:=[]) M F hr hb hd hx I .nil h)
end
def PK (X:Cx) (kws:List Keyword) (t:TA):Prop :=
 ∀ (pos:Pos) (pins:List (Addr×Obj)) (s:Shared) (σ:St) (H:Hp) (Q:List V→Hp→Prop),Inv X pins σ H s→t σ H Q→wpAny (model X.prog X.w) X.A (evalAll ((backToKw pos (keywordEach kws X.env)).map (·.2))) (AP X pins σ Q) X.xe s
section
variable {X:Cx} {CX:CXT} {k:Nat} {f C:Addr} {fd:FuncData} {ps ks:List Str} {sp:Sp} {E:XK} {x m:Str} {p pos apos kpos:Pos} {e o:Expr} {es:List Expr} {kws:List Keyword} {te ta:TE} {t tk:TA} {nm:Option Str}
theorem pk_nil:PK X [] tNil:=fun _ _ _ _ H Q I h=>wpAny_evalAll_nil ⟨[],H,I,.nil,h⟩
theorem zl1 (ha:PE X e te) (hr:PK X kws t):PK X (⟨nm,e,kpos⟩::kws) (zgi te t):=by
 intro pos pins s σ H Q I h;show wpAny _ _ (evalAll ((do let v ← eval e X.env;standAt pos;pure v)::(backToKw pos (keywordEach kws X.env)).map (·.2))) _ _ s;refine wpAny_evalAll_cons (wpAny_bind (thn (ha pins s σ H _ I h) fun u s1 ⟨x,H1,I1,r1,q1⟩=>wpAny_bind (wpAny_standAt (wpAny_pure ?_))));exact thn (hr pos pins s1 σ H1 _ I1 q1) fun us s2 ⟨xs,H2,I2,r2,q2⟩=>⟨x::xs,H2,I2,.cons r1 r2,q2⟩
variable {g:List Value→List Value→List Value} {gV:List V→List V→List V}
end
structure zao (N P:List Str) (sc:Scope):Prop where
 kind:sc.kind=.function
 co:sc.isCoroutine=false
 gen:sc.isGenerator=false
 nd:N.Nodup
 pre:N.take P.length=P
 par:∀ x∈P,sc.names.lookup x=some .local∨sc.names.lookup x=some .cell
 nofree:∀ y∈sc.names,y.2≠.free
theorem zgj {kindOf:Str→Option NameKind} {x:Str}:∀ {binds:List (Str×Value)} {m:Str→Option Value},(∀ v,(x,v)∉binds)→bindL kindOf binds m x=m x
 | [],_,_=>rfl
 | (n,v)::r,m,h=>by
  unfold bindL;rw [zgj fun w hw=>h w (List.mem_cons_of_mem _ hw)];split
  ·have:x≠n:=by rintro rfl;exact h v List.mem_cons_self
   simp [this]
  ·rfl
theorem zgk {kindOf:Str→Option NameKind} {x:Str}:∀ {binds:List (Str×Value)} {m:Str→Option Value},(∀ v,(x,v)∉binds)→bindC kindOf binds m x=m x
 | [],_,_=>rfl
 | (n,v)::r,m,h=>by
  unfold bindC;rw [zgk fun w hw=>h w (List.mem_cons_of_mem _ hw)];split
  ·rfl
  ·have:x≠n:=by rintro rfl;exact h v List.mem_cons_self
   simp [this]
theorem zgl {kindOf:Str→Option NameKind} {x:Str} {v:Value}:∀ {P:List Str} {vs:List Value} {i:Nat} {m:Str→Option Value},P.Nodup→P[i]? = some x→vs[i]? = some v→kindOf x=some .local →
  bindL kindOf (P.zip vs) m x=some v
 | [],_,_,_,_,h,_,_=>by simp at h
 | _::_,[],_,_,_,_,h,_=>by simp at h
 | p::P,w::vs,0,m,nd,h1,h2,hk=>by
   simp at h1 h2;subst h1;subst h2;show bindL kindOf ((p,w)::P.zip vs) m p=_;unfold bindL;rw [zgj fun v hv=>(List.nodup_cons.mp nd).1 (List.of_mem_zip hv).1,if_pos hk];simp
 | p::P,w::vs,i+1,m,nd,h1,h2,hk=>by
   show bindL kindOf ((p,w)::P.zip vs) m x=_;unfold bindL;exact zgl (i:=i) (List.nodup_cons.mp nd).2 (by simpa using h1) (by simpa using h2) hk
theorem zgm {kindOf:Str→Option NameKind} {x:Str} {v:Value}:∀ {P:List Str} {vs:List Value} {i:Nat} {m:Str→Option Value},P.Nodup→P[i]? = some x→vs[i]? = some v→kindOf x≠some .local →
  bindC kindOf (P.zip vs) m x=some v
 | [],_,_,_,_,h,_,_=>by simp at h
 | _::_,[],_,_,_,_,h,_=>by simp at h
 | p::P,w::vs,0,m,nd,h1,h2,hk=>by
   simp at h1 h2;subst h1;subst h2;show bindC kindOf ((p,w)::P.zip vs) m p=_;unfold bindC;rw [zgk fun v hv=>(List.nodup_cons.mp nd).1 (List.of_mem_zip hv).1,if_neg hk];simp
 | p::P,w::vs,i+1,m,nd,h1,h2,hk=>by
   show bindC kindOf ((p,w)::P.zip vs) m x=_;unfold bindC;exact zgm (i:=i) (List.nodup_cons.mp nd).2 (by simpa using h1) (by simpa using h2) hk
def start (N:List Str) (vs:List V):St:=vs.map some++List.replicate (N.length-vs.length) none
def cxOf (CX:CXT) (P:Program) (w:World) (K:PySem.W.Frag) (mg:Str→Option Value) (base:Heap) (N:List Str) (qual:Str) (scope:Scope) (f:Addr) (cd:Value) (A:Around) (outer:List Env) (s:Shared) (H:Hp) (E:XK):Cx where
 prog:=P
 w:=w
 K:=K
 mg:=mg
 base:=base
 A:=A.deeper (envOfC qual scope s.heap.objs.size f cd)
 N:=N
 s₀:=s
 H₀:=H
 env:=envOfC qual scope s.heap.objs.size f cd
 outer:=outer
 stack:=envOfC qual scope s.heap.objs.size f cd::outer
 ex:=[]
 calm:=true
 fn:=fun _=>true
 pn:=[]
 xe:=fun e s'=>wpAny (model P w) (A.deeper (envOfC qual scope s.heap.objs.size f cd)) (leaving (envOfC qual scope s.heap.objs.size f cd) e) (fun _ s''=>CX outer H s E e s'') (fun e' s''=>CX outer H s E e' s'') s'
theorem zhW {sc:Scope} {n:Nat} {x:Str} (h:sc.names.lookup x=some .cell):∃ c,(cellsFrom n sc.names []).lookup x=some c:=by
 have q:=PySem.W.cellsFrom_some sc.names n [] (.inl h);exact Option.isSome_iff_exists.mp q
theorem zjt {CX:CXT} {P:Program} {w:World} {K:PySem.W.Frag} {mg:Str→Option Value} {base:Heap} {N ps:List Str} {qual:Str} {scope:Scope} {f:Addr} {cd:Value} {A:Around} {outer:List Env} {s s1:Shared} {H:Hp} {E:XK} {us:List Value} {vs:List V}
  (S:zao N ps scope) (hd:A.handled=none) (e0:Env0 P w K mg base A outer s H) (hl:vs.length=ps.length) (r:Vals vs us)
  (x:InCallC s s.heap.objs.size (bindL (envOfC qual scope s.heap.objs.size f cd).kindOf (ps.zip us) fun _=>none) (cellsFrom (s.heap.objs.size+1) scope.names []) (bindC (envOfC qual scope s.heap.objs.size f cd).kindOf (ps.zip us) fun _=>none) s1) :
  Inv (cxOf CX P w K mg base N qual scope f cd A outer s H E) [] (start N vs) H s1:=by
 have hpl:ps.length≤N.length:=by have:=congrArg List.length S.pre;rw [List.length_take] at this;omega
 obtain ⟨h1,tk,rfl,hk⟩:=x.done;have noA:∀ b:Addr,b∉(cxOf CX P w K mg base N qual scope f cd A outer s H E).ex:=fun b z=>absurd (show b∈([]:List Addr) from z) (by simp);refine ⟨⟨e0.mod,S.kind,rfl,rfl,Nat.le_refl _,fun y z c h1 h2=>?_,fun y hy=>?_,fun y c _ h=>?_,fun _=>hd,Around.frames_deeper e0.frames,.inr ⟨rfl,rfl⟩,fun b z=>absurd z (noA b),e0.bs,e0.bsz,fun b _ _=>noA b,fun b z=>absurd z (noA b),e0.funs,e0.frf⟩,
  rfl,e0.bare,Un.kept hk,⟨_,x.toInCall.ns,fun i y v h1 h2 h3=>?_⟩,fun y c h=>⟨_,x.cell y c h⟩,e0.hok.fresh (Nat.le_refl _),fun y c h=>?_,fun p hp=>absurd (show p∈([]:List (Addr×Obj)) from hp) (by simp),e0.hok.kept hk,?_⟩
 ·exact name_of_addr x.apart (PySem.mem_of_lookup h1) (PySem.mem_of_lookup h2)
 ·have hy:scope.names.lookup y=some .cell∨scope.names.lookup y=some .free:=hy;rcases hy with hy | hy
  ·exact zhW hy
  ·exact absurd rfl (S.nofree _ (PySem.mem_of_lookup hy))
 ·exact Nat.le_of_lt (x.above y c (PySem.mem_of_lookup h))
 ·have hi:i < vs.length:=by
   unfold start at h2
   by_cases hi:i < vs.length
   ·exact hi
   ·rw [List.getElem?_append_right (by simpa using hi)] at h2;rw [List.getElem?_replicate] at h2;split at h2 <;> cases h2
  have ha:vs[i]? = some v:=by
   unfold start at h2;rw [List.getElem?_append_left (by simpa using hi),List.getElem?_map] at h2
   cases e:vs[i]? with
   | none=>rw [e] at h2;cases h2
   | some a=>rw [e] at h2;cases h2;rfl
  obtain ⟨u,hu,rv⟩:=r.get ha;have hp:ps[i]? = some y:=by
   rw [← S.pre,List.getElem?_take_of_lt (by omega)];exact h1
  have ndP:ps.Nodup:=by rw [← S.pre];exact S.nd.sublist (List.take_sublist _ _)
  refine ⟨u,rv,?_⟩;rcases S.par y (List.mem_of_getElem? hp) with k | k
  ·exact .inl ⟨k,zgl ndP hp hu k⟩
  ·obtain ⟨c,e⟩:=zhW (n:=s.heap.objs.size+1) k;refine .inr ⟨.inl k,c,e,?_⟩;have q:=x.cell y c e;rw [zgm ndP hp hu (by show scope.names.lookup y≠_;rw [k];decide)] at q;exact q
 ·exact e0.hok.fresh (Nat.le_of_lt (x.above y c (PySem.mem_of_lookup h)))
 ·unfold start;show _=N.length;rw [List.length_append,List.length_map,List.length_replicate];omega
theorem zoa {CX:CXT} {P:Program} {w:World} {K:PySem.W.Frag} {mg:Str→Option Value} {base:Heap} {k:Nat} {f:Addr} {name qual:Str} {params:Arguments} {body:List Stmt} {scope:Scope} {dV kV doc pm cdv ct oc:Value} {an od:Option Addr}
  {osl:Array (Option Value)} {N ps:List Str} {sp:Sp} (lk:K.lookup f=some ⟨oc,od,.func (PySem.W.fnOf name qual params body scope dV kV doc pm an cdv ct),osl⟩) (hcd:PySem.W.codeIn K cdv qual=true) (S:zao N ps scope)
  (len:∀ vs H Q E,sp vs H Q E→vs.length=ps.length)
  (hbody:∀ (A:Around) (outer:List Env) (s:Shared) (H:Hp) (vs:List V) (Q:VK) (E:XK),Room k (A.deeper (envOfC qual scope s.heap.objs.size f cdv))→sp vs H Q E →
   ∃ t,PSs (cxOf CX P w K mg base N qual scope f cdv A outer s H E) body t∧t { nx:=fun _ H'=>Q .non H',rt:=Q } (start N vs) H) :
  FnOk P w K mg base CX (k+1) f (PySem.W.fnOf name qual params body scope dV kV doc pm an cdv ct) ps sp:=by
 refine ⟨len,fun A outer s H args us vs Q E hr e0 hb r hsp=>?_⟩;have hl:=len _ _ _ _ hsp;have KX:K.In s.heap:=e0.mod.kin.keeps fun b o e=>(e0.bs b o e).1;have lim:s.heap.NoLimit:=e0.mod.nolimit.keeps fun b o e=>(e0.bs b o e).1;have hkind:∀ y∈ps.zip us,scope.names.lookup y.1=some .local∨(scope.names.lookup y.1=some .cell∧((cellsFrom (s.heap.objs.size+1) scope.names []).lookup y.1).isSome=true):=fun ⟨n,v⟩ hy=>by
  rcases S.par n (List.of_mem_zip hy).1 with q | q
  ·exact .inl q
  ·exact .inr ⟨q,PySem.W.cellsFrom_some _ _ _ (.inl q)⟩
 refine codeAny_call_function hr.depth (KX _ _ lk) rfl S.co S.gen rfl (PySem.W.codeRec_of KX hcd) (hb _ _ _ _ ?_);refine wpAny_newFunctionEnv_cells S.kind hkind fun env he s1 x=>?_;subst he;refine ⟨lim.keeps x.toInCall.keep,codeAny_func ?_⟩;obtain ⟨t,ht,hq⟩:=hbody A outer s H vs Q E (hr.deeper _) hsp;have I:Inv (cxOf CX P w K mg base N qual scope f cdv A outer s H E) [] (start N vs) H s1:=zjt S hr.hd e0 hl r x;refine wpAny_mono (ht [] s1 (start N vs) H _ I hq) (fun fl s' hs=>?_) fun e s' hs=>hs;have fin:∀ {σ':St} {H':Hp} {v:V} {u:Value},Inv (cxOf CX P w K mg base N qual scope f cdv A outer s H E) [] σ' H' s'→RelV v u→Q v H'→CE outer P w H s Q u s' :=
  fun {σ' H' v u} J rv q=>⟨v,H',J.os,J.bare,J.base,J.hok,rv,q⟩
 cases fl with
 | ret u =>
   obtain ⟨v,σ',H',J,rv,q⟩:=hs;exact fin J rv q
 | next =>
   obtain ⟨σ',H',J,q⟩:=hs;exact fin (v:=V.non) (u:=Value.none) J rfl q
 | brk =>
   obtain ⟨_,_,_,q⟩:=hs;exact False.elim q
 | cont =>
   obtain ⟨_,_,_,q⟩:=hs;exact False.elim q
end L2
namespace L2
open PySem PySem.Spec PyProof.Rows
section
variable {X:Cx} {x:Str} {p pos:Pos} {e:Expr} {es:List Expr} {t:TA} {id T:String} {r:List V→Hp→VK→Prop}
def tCB (r:List V→Hp→VK→Prop) (t:TA):TE:=fun σ H Q=>t σ H fun vs H1=>r vs H1 Q
theorem zag (hc:zdm X (.builtin id) r) (hg:Gl X x) (hm:X.mg x=none) (hv:bootBuiltins x=some (.builtin id)) (ha:PA X (e::es) t) (hn:x≠"__name__":=by decide) (hdb:(x == ("__debug__" : Str))=false:=by decide)
  (he:starEach (e::es) X.env=(false,eval e X.env)::starEach es X.env:=by rfl) (hpl:(backTo pos (starEach es X.env)).any (·.1)=false:=by rfl):PE X (.Call (.Name x p) (e::es) [] pos) (tCB r t):=by
 intro pins s σ H Q I h;refine wpAny_Call_Name_kw (zeR I hg hm hv ?_ hn hdb);exact PyProof.Rows.callWith_builtin1 (thn (ha pos pins s σ H _ I h) fun us s1 ⟨vs,H1,I1,r1,q1⟩=>hc pins s1 σ H1 vs us Q I1 r1 q1) he hpl
end
end L2
namespace HT
open PySem PyProof.Rows
section
open PySem.SeqAt
open PySem.AutoSeq1 (wpAny_loadPart')
open PySem.MeetsSeq PySem.MeetsSeq2 PySem.MeetsSeq3
end
section
variable {prog:Program} {w:World} {A:Around} {E:Value→Shared→Prop} {s:Shared}
def sIx (n d:Nat):Option Int→Nat
 | none=>d
 | some v=>if v < 0 then (v+(n:Int)).toNat else min v.toNat n
theorem sIx_none (n d:Nat):sIx n d none=d:=rfl
theorem sIx_nat (n d k:Nat):sIx n d (some (k:Int))=min k n:=by
 show (if (k:Int) < 0 then ((k:Int)+(n:Int)).toNat else min (k:Int).toNat n)=min k n;rw [if_neg (by omega),Int.toNat_natCast]
end
end HT
namespace L2
open PySem PySem.Spec PyProof.Rows
abbrev TO:=St→Hp→(Option Int→Hp→Prop)→Prop
def PO (X:Cx) (e:Option Expr) (t:TO):Prop :=
 ∀ (pins:List (Addr×Obj)) (s:Shared) (σ:St) (H:Hp) (Q:Option Int→Hp→Prop),Inv X pins σ H s→t σ H Q →
  wpAny (model X.prog X.w) X.A (evalPart e X.env) (fun u s'=>∃ o H',Inv X pins σ H' s'∧IsPart u o∧Q o H') X.xe s
def tNoPart:TO:=fun _ H Q=>Q none H
def zm0 (t:TE):TO:=fun σ H Q=>t σ H fun x H1=>∃ i,x=.int i∧Q (some i) H1
theorem intsAre_of {ns:List Int}:∀ {us:List Value},Vals (ns.map V.int) us→IntsAre us ns:=by
 induction ns with
 | nil=>intro us r;rw [List.map_nil] at r;cases r;exact .nil
 | cons n ns ih =>
   intro us r;rw [List.map_cons] at r
   cases r with
   | cons r1 r2 =>
     obtain ⟨t,e⟩:=r1;subst e;exact .cons n t (ih r2)
section
variable {X:Cx} {e:Expr} {te:TE} {lo hi:Option Expr} {tl th:TO} {pos p2:Pos}
theorem po_none:PO X none tNoPart:=by
 intro pins s σ H Q I h;rw [evalPart_none];exact wpAny_pure ⟨none,H,I,.none,h⟩
theorem zeU (h:PE X e te):PO X (some e) (zm0 te):=by
 intro pins s σ H Q I hw;rw [evalPart_some];refine thn (h pins s σ H _ I hw) fun u s1 ⟨x,H1,I1,r1,q1⟩=>?_;obtain ⟨i,rfl,q⟩:=q1;obtain ⟨t,rfl⟩:=r1;exact ⟨some i,H1,I1,.int i t,q⟩
def SlR (X:Cx) (r:V→Option Int→Option Int→Hp→VK→Prop):Prop :=
 ∀ (pins:List (Addr×Obj)) (s:Shared) (σ:St) (H:Hp) (x:V) (v vl vu:Value) (lo hi:Option Int) (sl:Addr) (Q:VK),Inv X pins σ H s→RelV x v→s.heap.IsSliceOf sl vl vu .none→IsPart vl lo→IsPart vu hi→r x lo hi H Q →
  ∃ T id,typeLookup (.type T) "__getitem__" = pure (some (.builtin id))∧s.TypeIs v T∧wpAny (model X.prog X.w) X.A (getItem v (.ref sl)) (EP X pins σ Q) X.xe s
def tSl (r:V→Option Int→Option Int→Hp→VK→Prop) (te:TE) (tl th:TO):TE:=fun σ H Q=>te σ H fun x H1=>tl σ H1 fun l H2=>th σ H2 fun u H3=>r x l u H3 Q
theorem zdL {r:V→Option Int→Option Int→Hp→VK→Prop} (hr:SlR X r) (he:PE X e te) (hl:PO X lo tl) (hu:PO X hi th):PE X (.Subscript e (.Slice lo hi none p2) pos) (tSl r te tl th):=by
 intro pins s σ H Q I h;refine Subscript_ (thn (he pins s σ H _ I h) fun v s1 ⟨x,H1,I1,r1,q1⟩=>?_);refine wpAny_Slice (thn (hl pins s1 σ H1 _ I1 q1) fun vl s2 ⟨l,H2,I2,pl,q2⟩=>thn (hu pins s2 σ H2 _ I2 q2) fun vu s3 ⟨u,H3,I3,pu,q3⟩=>?_);rw [evalPart_none];refine wpAny_pure ?_;have I4:Inv X pins σ H3 { s3 with heap:=s3.heap.push { cls:=.type "slice",data:=.fields #[vl,vu,.none] } }:=I3.kept (t':=s3.toks) fun b ob q=>Heap.get?_push_of_some _ q;obtain ⟨T,id,hT,ht,hg⟩:=hr pins { s3 with heap:=s3.heap.push { cls:=.type "slice",data:=.fields #[vl,vu,.none] } } σ H3 x v vl vu l u s3.heap.objs.size Q I4 r1 (Heap.IsSliceOf.new ..) pl pu q3;show wpAny (model X.prog X.w) X.A (subscriptTail e (.Slice lo hi none p2) v (.ref s3.heap.objs.size)) (EP X pins σ Q) X.xe { s3 with heap:=s3.heap.push { cls:=.type "slice",data:=.fields #[vl,vu,.none] } };exact tail_any (ops:=[.ref s3.heap.objs.size,v]) ht hT hg (by with_unfolding_all rfl)
def cutV (xs:List V) (lo hi:Option Int):List V:=(xs.drop (HT.sIx xs.length 0 lo)).take (HT.sIx xs.length xs.length hi-HT.sIx xs.length 0 lo)
theorem zhc (xs:List V) (lo hi:Option Int):(cutV xs lo hi).length≤xs.length:=by
 unfold cutV;rw [List.length_take,List.length_drop];omega
end
end L2
namespace L2
open PySem PySem.Spec PyProof.Rows
def ixN (n:Nat) (i:Int):Option Nat:=if 0≤i then (if i < n then some i.toNat else none) else if -(n:Int)≤i then some (i+n).toNat else none
def atI {α:Type} (xs:List α) (i:Int):Option α:=(ixN xs.length i).bind fun j=>xs[j]?
theorem zhd {n:Nat} {i:Int} {j:Nat} (h:ixN n i=some j):seqIndex? i n=some j∧j < n∧-(n:Int)≤i∧i < n:=by
 unfold ixN at h
 by_cases h0:0≤i
 ·rw [if_pos h0] at h
  by_cases h1:i < n
  ·rw [if_pos h1] at h;have e:i.toNat=j:=Option.some.inj h;exact ⟨by rw [seqIndex_of h0 h1,e],by omega,by omega,h1⟩
  ·rw [if_neg h1] at h;cases h
 ·rw [if_neg h0] at h
  by_cases h1 : -(n:Int)≤i
  ·rw [if_pos h1] at h;have e:(i+n).toNat=j:=Option.some.inj h;exact ⟨by rw [seqIndex_neg (by omega) h1,e],by omega,h1,by omega⟩
  ·rw [if_neg h1] at h;cases h
theorem zl2 {α:Type} {xs:List α} {i:Int} {v:α} (h:atI xs i=some v):∃ j,seqIndex? i xs.length=some j∧xs[j]? = some v∧j < xs.length∧-(xs.length:Int)≤i∧i < xs.length:=by
 unfold atI at h
 cases e:ixN xs.length i with
 | none=>rw [e] at h;cases h
 | some j =>
   rw [e] at h;obtain ⟨h1,h2,h3,h4⟩:=zhd e;exact ⟨j,h1,h,h2,h3,h4⟩
theorem zfU {α:Type} {xs:List α} {j:Nat} {v:α} (h:xs[j]? = some v):atI xs (j:Int)=some v:=by
 have hj:j < xs.length:=(List.getElem?_eq_some_iff.mp h).1;have e:ixN xs.length (j:Int)=some j:=by
  unfold ixN;rw [if_pos (by omega),if_pos (by omega)];simp
 unfold atI;rw [e];exact h
def zl3 (b:Expr):Prop:=∀ o i,subscripted b false o i=operate [o,i] (getItem o i)
def IxR (X:Cx) (r:R2):Prop :=
 ∀ (value slice:Expr) (pins:List (Addr×Obj)) (s:Shared) (σ:St) (H:Hp) (x y:V) (v u:Value) (Q:VK),Inv X pins σ H s→RelV x v→RelV y u→r x y H Q →
  subscripted slice false v u=operate [v,u] (getItem v u)→wpAny (model X.prog X.w) X.A (subscriptTail value slice v u) (EP X pins σ Q) X.xe s
def MtR (X:Cx) (id:String) (r:V→List V→Hp→VK→Prop):Prop :=
 ∀ (pins:List (Addr×Obj)) (s:Shared) (σ:St) (H:Hp) (x:V) (xs:List V) (v:Value) (us:List Value) (Q:VK),Inv X pins σ H s→RelV x v→Vals xs us→r x xs H Q →
  wpAny (model X.prog X.w) X.A (call (.builtin id) (v::us)) (EP X pins σ Q) X.xe s
section
variable {X:Cx} {a b:Expr} {ta tb:TE} {pos:Pos}
theorem zaw {r:R2} (hr:IxR X r) (ha:PE X a ta) (hb:PE X b tb) (hs:zl3 b):PE X (.Subscript a b pos) (tOp r ta tb):=by
 intro pins s σ H Q I h;exact Subscript_ (binT ha hb I h fun v u s2 x y H2 I2 rx ry q=>hr a b pins s2 σ H2 x y v u Q I2 rx ry q (hs _ _))
def rIxL (K:PySem.W.Frag):R2:=fun x y H Q=>∃ p xs i v,x=.ref p∧y=.int i∧SqL K H p xs∧atI xs i=some v∧Q v H
theorem ix_list:IxR X (rIxL X.K):=by
 intro value slice pins s σ H x y v u Q I rx ry h hs;obtain ⟨p,xs,i,z,rfl,rfl,hq,he,q⟩:=h
 cases rx
 obtain ⟨t,rfl⟩:=ry;obtain ⟨its,r,pl,hz⟩:=I.list hq;obtain ⟨j,h1,h2,h3,h4,h5⟩:=zl2 he;obtain ⟨w,ew,rw'⟩:=r.get h2;have hl:=r.length;have hn:=line63;have fin:EP X pins σ Q w s:=⟨z,H,I,rw',q⟩
 by_cases h0:0≤i
 ·have hj:i.toNat=j:=by
   rw [seqIndex_of h0 h5] at h1;exact Option.some.inj h1
  exact item_listR pl.isList h0 (by omega) (by rw [hj];simpa using ew) fin hs
 ·have hj:(i+(its.toArray.size:Int)).toNat=j:=by
   rw [seqIndex_neg (by omega) h4] at h1;rw [List.size_toArray,← hl];exact Option.some.inj h1
  exact subscriptTail_builtinR (x:=w) pl.isList.typeIs slot_list_getitem.lookup
   (wpAny_getItem_list_neg (Q:=fun r s'=>r=w∧EP X pins σ Q r s') pl.isList (by omega) (by rw [List.size_toArray] <;> omega) (by omega) (by rw [hj];simpa using ew) ⟨rfl,fin⟩) hs
theorem zix (its:List Value) (n j:Nat) (u:Value):Obj.mapSeq (·.setIfInBounds j u) { cls:=.type "list",data:=.seq its.toArray n }={ cls:=.type "list",data:=.seq (its.set j u).toArray n }:=by
 simp [Obj.mapSeq]
theorem Inv.lst {pins:List (Addr×Obj)} {σ:St} {H:Hp} {s:Shared} {p:Addr} {xs:List V} (I:Inv X pins σ H s) (h:H p=some (.lst xs)) :
  ∃ (its:List Value) (n:Nat),Vals xs its∧s.heap.get? p=some { cls:=.type "list",data:=.seq its.toArray n }∧xs.length≤sizeLine:=by
 obtain ⟨z,its,n,r,e⟩:=I.hok p _ h;exact ⟨its,n,r,e,z⟩
theorem Inv.lstUpd {pins:List (Addr×Obj)} {σ:St} {H:Hp} {s:Shared} {p:Addr} {xs ys:List V} {its its':List Value} {n n':Nat} {f:Obj→Obj} (I:Inv X pins σ H s) (h:H p=some (.lst xs))
  (ho:s.heap.get? p=some { cls:=.type "list",data:=.seq its.toArray n }) (hf:f { cls:=.type "list",data:=.seq its.toArray n }={ cls:=.type "list",data:=.seq its'.toArray n' }) (r:Vals ys its') (hz:ys.length≤sizeLine) (t:Nat) :
  Inv X pins σ (upd H p (.lst ys)) { s with heap:=s.heap.update p f,toks:=t }:=by
 have e:(s.heap.update p f).get? p=some { cls:=.type "list",data:=.seq its'.toArray n' }:=by
  rw [Heap.get?_update_self f ho (by rw [hf] <;> rfl),hf]
 refine I.write (x:=p) (e:=p) (by rw [h];trivial) (.inl rfl) (fun b u hb q=>(Heap.get?_update_other _ _ (Ne.symm hb)).trans q) ⟨_,e⟩ ?_;exact ⟨hz,its',n',r,e⟩
def rSetL:V→V→V→Hp→(Hp→Prop)→Prop:=fun o i v H Q=>∃ p xs k j,o=.ref p∧i=.int k∧H p=some (.lst xs)∧ixN xs.length k=some j∧Q (upd H p (.lst (xs.set j v)))
theorem set_list:PSet X rSetL:=by
 intro pins s σ H o i v ov iv u Q I ro ri rv h;obtain ⟨p,xs,k,j,rfl,rfl,hp,hj,q⟩:=h
 cases ro
 obtain ⟨t,rfl⟩:=ri;obtain ⟨its,n,r,ho,hz⟩:=I.lst hp;obtain ⟨h1,h2,h3,h4⟩:=zhd hj;have hl:=r.length;have hn:=line63;have I':Inv X pins σ (upd H p (.lst (xs.set j v))) { s with heap:=s.heap.update p (Obj.mapSeq (·.setIfInBounds j u)) } :=
  I.lstUpd hp ho (zix its n j u) (r.set rv j) (by rw [List.length_set];exact hz) s.toks
 by_cases h0:0≤k
 ·have hk:k.toNat=j:=by
   rw [seqIndex_of h0 h4] at h1;exact Option.some.inj h1
  exact PySem.W.ki_setAt ho h0 (by omega) (by rw [List.size_toArray,← hl];exact h4) (by rw [hk];exact ⟨_,I',q⟩)
 ·have hk:(k+(its.toArray.size:Int)).toNat=j:=by
   rw [seqIndex_neg (by omega) h3] at h1;rw [List.size_toArray,← hl];exact Option.some.inj h1
  exact PySem.W.ki_setBack ho (by omega) (by rw [List.size_toArray,← hl];exact h3) (by omega) (by rw [hk];exact ⟨_,I',q⟩)
theorem zgn (lo hi:Option Int) (n:Nat):(sliceBounds lo hi none n).1=((HT.sIx n 0 lo:Nat):Int)∧(sliceBounds lo hi none n).2.1=((HT.sIx n n hi:Nat):Int)∧(sliceBounds lo hi none n).2.2=1:=by
 refine ⟨?_,?_,rfl⟩
 ·cases lo with
  | none=>simp [sliceBounds,HT.sIx]
  | some i =>
    simp only [sliceBounds,HT.sIx,Option.getD_none,show (1:Int) > 0 by decide,if_true]
    by_cases h:i < 0
    ·simp only [h,if_true] <;> omega
    ·simp only [h,if_false] <;> omega
 ·cases hi with
  | none=>simp [sliceBounds,HT.sIx]
  | some i =>
    simp only [sliceBounds,HT.sIx,Option.getD_none,show (1:Int) > 0 by decide,if_true]
    by_cases h:i < 0
    ·simp only [h,if_true] <;> omega
    ·simp only [h,if_false] <;> omega
theorem zfV (its:List Value) (lo hi:Option Int):slicePick its.toArray lo hi none=((its.drop (HT.sIx its.length 0 lo)).take (HT.sIx its.length its.length hi-HT.sIx its.length 0 lo)).toArray:=by
 obtain ⟨h1,h2,h3⟩:=zgn lo hi its.toArray.size;unfold slicePick;rw [h1,h2,h3];simp only [sliceRange_one,pick_run,List.size_toArray] <;> rfl
def rSlL (K:PySem.W.Frag):V→Option Int→Option Int→Hp→VK→Prop:=fun x lo hi H Q=>∃ a xs,x=.ref a∧SqL K H a xs∧∀ p,H p=none→Q (.ref p) (upd H p (.lst (cutV xs lo hi)))
theorem sl_list:SlR X (rSlL X.K):=by
 intro pins s σ H x v vl vu lo hi sl Q I rx hs pl pu h;obtain ⟨a,xs,rfl,hx,q⟩:=h
 cases rx
 obtain ⟨its,r,ht,hz⟩:=I.list hx;have hlen:=r.length;refine ⟨"list",_,slot_list_getitem.lookup,ht.isList.typeIs,?_⟩;refine wpAny_getItem_list_slice ht.isList hs pl pu .none (by simp) ?_ (by rw [List.size_toArray] <;> omega);rw [zfV,← hlen];refine ⟨.ref s.heap.objs.size,_,I.laid (t':=s.toks) (o:=.lst (cutV xs lo hi)) (fun b ob q=>Heap.get?_push_of_some _ q) (Nat.le_refl _) ?_,rfl,q _ (I.hok.fresh (Nat.le_refl _))⟩;exact ⟨Nat.le_trans (zhc xs lo hi) hz,_,0,(r.drop (HT.sIx xs.length 0 lo)).take (HT.sIx xs.length xs.length hi-HT.sIx xs.length 0 lo),Heap.get?_push_size _ rfl⟩
def flatV:V→Bool
 | .non=>true
 | .bl _=>true
 | .int _=>true
 | .str _=>true
 | _=>false
def eqV:V→V→Bool
 | .non,.non=>true
 | .bl a,.bl b=>a == b
 | .bl a,.int b=>(if a then 1 else 0) == b
 | .int a,.bl b=>a == (if b then 1 else 0)
 | .int a,.int b=>a == b
 | .str a,.str b=>a == b
 | _,_=>false
theorem zju {A:Around} {s:Shared} {y x:V} {u v:Value} (ry:RelV y u) (rx:RelV x v) (fy:flatV y=true) (fx:flatV x=true):SeqAt.EqAt A s u v (eqV y x):=by
 cases y with
 | non =>
   cases ry
   cases x with
   | non=>cases rx;exact SeqAt.EqAt.same _
   | bl b=>cases rx;exact SeqAt.EqAt.none_bool b
   | int b=>obtain ⟨t,rfl⟩:=rx;exact SeqAt.EqAt.none_int b t
   | str b=>obtain ⟨t,rfl⟩:=rx;exact SeqAt.EqAt.none_str b t
   | _=>exact absurd (show false=true from fx) Bool.false_ne_true
 | bl a =>
   cases ry
   cases x with
   | non=>cases rx;exact SeqAt.EqAt.bool_none a
   | bl b=>cases rx;exact SeqAt.EqAt.bool_bool a b
   | int b=>obtain ⟨t,rfl⟩:=rx;exact SeqAt.EqAt.bool_int a b t
   | str b=>obtain ⟨t,rfl⟩:=rx;exact SeqAt.EqAt.bool_str a b t
   | _=>exact absurd (show false=true from fx) Bool.false_ne_true
 | int a =>
   obtain ⟨t',rfl⟩:=ry
   cases x with
   | non=>cases rx;exact SeqAt.EqAt.int_none a t'
   | bl b=>cases rx;exact SeqAt.EqAt.int_bool a t' b
   | int b=>obtain ⟨t,rfl⟩:=rx;exact SeqAt.EqAt.int_int a t' b t
   | str b=>obtain ⟨t,rfl⟩:=rx;exact SeqAt.EqAt.int_str a t' b t
   | _=>exact absurd (show false=true from fx) Bool.false_ne_true
 | str a =>
   obtain ⟨t',rfl⟩:=ry
   cases x with
   | non=>cases rx;exact SeqAt.EqAt.str_none a t'
   | bl b=>cases rx;exact SeqAt.EqAt.str_bool a t' b
   | int b=>obtain ⟨t,rfl⟩:=rx;exact SeqAt.EqAt.str_int a t' b t
   | str b=>obtain ⟨t,rfl⟩:=rx;exact SeqAt.EqAt.str_str a t' b t
   | _=>exact absurd (show false=true from fx) Bool.false_ne_true
 | _=>exact absurd (show false=true from fy) Bool.false_ne_true
def eqU (x:V) (u:Value):Bool:=match u with
 | .none=>eqV .non x
 | .bool b=>eqV (.bl b) x
 | .int i _=>eqV (.int i) x
 | .str z _=>eqV (.str z) x
 | _=>false
theorem zly {x y:V} {u:Value} (r:RelV y u) (f:flatV y=true):eqU x u=eqV y x:=by
 cases y with
 | non=>cases r;rfl
 | bl b=>cases r;rfl
 | int i=>obtain ⟨t,rfl⟩:=r;rfl
 | str z=>obtain ⟨t,rfl⟩:=r;rfl
 | _=>exact absurd (show false=true from f) Bool.false_ne_true
theorem zeV {x:V}:∀ {xs:List V} {us:List Value},Vals xs us→xs.all flatV=true→us.any (eqU x)=xs.any fun y=>eqV y x
 | _,_,.nil,_=>rfl
 | y::xs,u::us,.cons r t,f=>by
   rw [List.all_cons,Bool.and_eq_true] at f;rw [List.any_cons,List.any_cons,zly r f.1,zeV t f.2]
theorem zdM {A:Around} {s:Shared} {x:V} {v:Value} (rx:RelV x v) (fx:flatV x=true):∀ {xs:List V} {us:List Value},Vals xs us→xs.all flatV=true→∀ u∈us,SeqAt.EqAt A s u v (eqU x u)
 | _,_,.nil,_=>fun u hu=>by cases hu
 | y::xs,u::us,.cons r t,f=>fun u' hu=>by
   rw [List.all_cons,Bool.and_eq_true] at f;rcases List.mem_cons.mp hu with rfl | hu
   ·rw [zly r f.1];exact zju r rx f.1 fx
   ·exact zdM rx fx t f.2 u' hu
def inV (x:V) (xs:List V):Bool:=xs.any fun y=>eqV y x
def rIn (K:PySem.W.Frag) (neg:Bool):R2:=fun x y H Q=>∃ p xs,y=.ref p∧(SqL K H p xs∨SqT K H p xs)∧flatV x=true∧xs.all flatV=true∧Q (.bl (if neg then !inV x xs else inV x xs)) H
theorem op_in_seq:OpR X (compareOp .In) (rIn X.K false):=by
 intro pins s σ H x y v u Q I rx ry h;obtain ⟨p,xs,rfl,hq,fx,fs,q⟩:=h
 cases ry
 rcases hq with hq | hq
 ·obtain ⟨its,r,pl,hz⟩:=I.list hq;refine SeqAt.in_listAt (eqU x) pl.isList (fun w hw=>zdM rx fx r fs w (by simpa using hw)) ⟨.bl _,H,I,rfl,?_⟩;rw [show its.toArray.any (eqU x)=its.any (eqU x) by simp,zeV r fs];exact q
 ·obtain ⟨its,r,pl,hz⟩:=I.tuple hq;refine SeqAt.in_tupleAt (eqU x) pl (fun w hw=>zdM rx fx r fs w (by simpa using hw)) ⟨.bl _,H,I,rfl,?_⟩;rw [show its.toArray.any (eqU x)=its.any (eqU x) by simp,zeV r fs];exact q
theorem op_notIn_seq:OpR X (compareOp .NotIn) (rIn X.K true):=by
 intro pins s σ H x y v u Q I rx ry h;obtain ⟨p,xs,rfl,hq,fx,fs,q⟩:=h
 cases ry
 rcases hq with hq | hq
 ·obtain ⟨its,r,pl,hz⟩:=I.list hq;refine SeqAt.notIn_listAt (eqU x) pl.isList (fun w hw=>zdM rx fx r fs w (by simpa using hw)) ⟨.bl _,H,I,rfl,?_⟩;rw [show its.toArray.any (eqU x)=its.any (eqU x) by simp,zeV r fs];exact q
 ·obtain ⟨its,r,pl,hz⟩:=I.tuple hq;refine SeqAt.notIn_tupleAt (eqU x) pl (fun w hw=>zdM rx fx r fs w (by simpa using hw)) ⟨.bl _,H,I,rfl,?_⟩;rw [show its.toArray.any (eqU x)=its.any (eqU x) by simp,zeV r fs];exact q
theorem call_len_seq:zdm X (.builtin "len") (fun xs H Q=>∃ p ys,xs=[.ref p]∧(SqL X.K H p ys∨SqT X.K H p ys)∧Q (.int ys.length) H):=by
 intro pins s σ H xs us Q I r h;obtain ⟨p,ys,rfl,hq,q⟩:=h;obtain ⟨u,rfl,rx⟩:=vals1 r
 cases rx
 have hn:=line63;rcases hq with hq | hq
 ·obtain ⟨its,r',pl,hz⟩:=I.list hq;have hlen:=r'.length;exact Calls.call_len_list pl.isList (by simp only [List.size_toArray] <;> omega) ⟨.int ys.length,H,I.tok _,⟨s.toks+1,by rw [List.size_toArray,hlen]⟩,q⟩
 ·obtain ⟨its,r',pl,hz⟩:=I.tuple hq;have hlen:=r'.length;exact len_tuple pl (by simp only [List.size_toArray] <;> omega) ⟨.int ys.length,H,I.tok _,⟨s.toks+1,by rw [List.size_toArray,hlen]⟩,q⟩
def tyV (K:PySem.W.Frag) (T:String) (x:V) (H:Hp):Prop:=match x with
 | .str _=>T = "str"
 | .int _=>T = "int"
 | .ref p=>(T = "list"∧∃ xs,SqL K H p xs)∨(T = "tuple"∧∃ o,K.lookup p=some o∧o.cls=.type "tuple"∧o.dict=none) ∨
    (T = "dict"∧((∃ kvs,H p=some (.dK kvs))∨∃ kvs,H p=some (.dT kvs)))∨(T = "set"∧∃ S n,H p=some (.set S n))
 | _=>False
theorem zm1 {pins:List (Addr×Obj)} {σ:St} {H:Hp} {s:Shared} {T:String} {x:V} {v:Value} (I:Inv X pins σ H s) (r:RelV x v) (ty:tyV X.K T x H) :
  s.TypeIs v T∧∀ a,v=.ref a→∃ ob,s.heap.get? a=some ob∧ob.dict=none:=by
 cases x with
 | str z =>
   obtain ⟨t,rfl⟩:=r
   cases (show T = "str" from ty)
   exact ⟨typeIs_str s z t,fun _ e=>nomatch e⟩
 | int i =>
   obtain ⟨t,rfl⟩:=r
   cases (show T = "int" from ty)
   exact ⟨typeIs_int s i t,fun _ e=>nomatch e⟩
 | ref p =>
   cases r
   rcases ty with ⟨rfl,xs,hq⟩ | ⟨rfl,o,hk,hc,hd⟩ | ⟨rfl,hk⟩ | ⟨rfl,S,n,hk⟩
   ·obtain ⟨its,_,pl,_⟩:=I.list hq;refine ⟨pl.isList.typeIs,fun a e=>?_⟩
    cases e
    obtain ⟨o,n,e,c,hd,_⟩:=pl;exact ⟨o,e,hd⟩
   ·refine ⟨⟨o,I.kIn p o hk,hc⟩,fun a e=>?_⟩
    cases e
    exact ⟨o,I.kIn _ o hk,hd⟩
   ·have z:∃ o,s.heap.get? p=some o∧o.ExactDict:=by
     rcases hk with ⟨kvs,hk⟩ | ⟨kvs,hk⟩
     ·obtain ⟨_,_,_,_,o,_,_,e,ex,_⟩:=I.hok p _ hk;exact ⟨o,e,ex⟩
     ·obtain ⟨_,_,_,_,o,_,_,e,ex,_⟩:=I.hok p _ hk;exact ⟨o,e,ex⟩
    obtain ⟨o,e,ex⟩:=z;refine ⟨⟨o,e,ex.1⟩,fun a e2=>?_⟩
    cases e2
    exact ⟨o,e,ex.2.1⟩
   ·obtain ⟨o,_,_,_,e,ex,_⟩:=I.hok p _ hk;refine ⟨⟨o,e,ex.1⟩,fun a e2=>?_⟩
    cases e2
    exact ⟨o,e,ex.2.1⟩
 | _=>exact False.elim ty
def tBM (K:PySem.W.Frag) (T:String) (r:V→List V→Hp→VK→Prop) (to:TE) (t:TA):TE:=fun σ H Q=>to σ H fun x H1=>tyV K T x H1∧t σ H1 fun xs H2=>r x xs H2 Q
variable {o e:Expr} {es:List Expr} {to:TE} {t:TA} {name:Str} {apos cpos:Pos} {T id:String} {r:V→List V→Hp→VK→Prop}
theorem zob (pa:PlainAttrs T) (slot:Slot T name id) (hty:typeOf (.builtin id)=pure (.type "method_descriptor")) (hm:MtR X id r) (ho:PE X o to) (ha:PA X (e::es) t)
  (hbase:attributeBase o name X.env (eval o X.env)=eval o X.env:=by rfl)
  (hfew:((backTo cpos (starEach (e::es) X.env)).all (fun x=>!x.1) && (backToKw cpos (keywordEach [] X.env)).all (fun x=>x.1.isSome)
   && decide ((e::es).length+([]:List Keyword).length+(if ([]:List Keyword).isEmpty then 0 else 1) < 30))=true:=by rfl)
  (hline:(apos.endLine == cpos.line)=true:=by rfl) (hs:starEach (e::es) X.env=(false,eval e X.env)::starEach es X.env:=by rfl) (hplain:(backTo cpos (starEach es X.env)).any (·.1)=false:=by rfl) :
  PE X (.Call (.Attribute o name apos) (e::es) [] cpos) (tBM X.K T r to t):=by
 intro pins s σ H Q I h;refine wpAny_Call_method_late hbase hfew hline rfl (thn (ho pins s σ H _ I h) fun v s1 ⟨x,H1,I1,r1,ty,q1⟩=>?_);obtain ⟨h1,h2⟩:=zm1 I1 r1 ty;refine ⟨T,id,pa,slot,hty,h1,h2,?_⟩;have hA:=ha cpos pins s1 σ H1 _ I1 q1;rw [hs] at hA ⊢;refine Calls.callWith_builtin (by show (false || (backTo cpos (starEach es X.env)).any (·.1))=false;rw [hplain] <;> rfl) (Calls.evalArgs_plain ?_);exact thn hA fun us s2 ⟨vs,H2,I2,r2,q2⟩=>hm pins s2 σ H2 x vs v us Q I2 r1 r2 q2
end
end L2
namespace L2
open PySem PySem.Spec PyProof.Rows
def MtM (X:Cx) (id:String) (r:V→List V→Hp→VK→Prop):Prop :=
 ∀ (pins:List (Addr×Obj)) (s:Shared) (σ:St) (H:Hp) (x:V) (xs:List V) (v:Value) (us:List Value) (Q:VK),Inv X pins σ H s→RelV x v→Vals xs us→r x xs H Q →
  wpAny (model X.prog X.w) X.A (call (.builtin id) (v::us)) (EP X pins σ Q) X.xe s
theorem Vals.one:∀ {x:V} {us:List Value},Vals [x] us→∃ u,us=[u]∧RelV x u
 | _,_,.cons r .nil=>⟨_,rfl,r⟩
theorem Vals.two:∀ {x y:V} {us:List Value},Vals [x,y] us→∃ u v,us=[u,v]∧RelV x u∧RelV y v
 | _,_,_,.cons r (.cons q .nil)=>⟨_,_,rfl,r,q⟩
theorem Vals.eraseIdx:∀ {xs:List V} {us:List Value} (i:Nat),Vals xs us→Vals (xs.eraseIdx i) (us.eraseIdx i)
 | _,_,_,.nil=>.nil
 | _,_,0,.cons _ t=>t
 | _,_,i+1,.cons r t=>.cons r (Vals.eraseIdx i t)
theorem zgo {α:Type}:∀ (l:List α) (i:Nat),(l.eraseIdx i).length≤l.length
 | [],_=>Nat.le_refl _
 | _::_,0=>Nat.le_succ _
 | _::r,i+1=>Nat.succ_le_succ (zgo r i)
section
variable {X:Cx} {pins:List (Addr×Obj)} {σ:St} {H:Hp} {s:Shared} {l b:Addr} {xs ys zs:List V}
theorem Inv.lset {its its':List Value} {n:Nat} {f:Array Value→Array Value} {t':Nat} (I:Inv X pins σ H s) (hH:H l=some (.lst xs))
  (e:s.heap.get? l=some { cls:=.type "list",data:=.seq its.toArray n }) (hf:f its.toArray=its'.toArray) (hv:Vals ys its') (hz:ys.length≤sizeLine) :
  Inv X pins σ (upd H l (.lst ys)) { s with heap:=s.heap.update l (Obj.mapSeq f),toks:=t' }:=by
 have q:=PySem.IsL.update e f;rw [hf] at q;refine I.write (x:=l) (e:=l) (by rw [hH];exact trivial) (.inl rfl) (fun b' u hb hu=>(Heap.get?_update_other s.heap (Obj.mapSeq f) (Ne.symm hb)).trans hu) ⟨_,q⟩ ?_;exact ⟨hz,its',_,hv,q⟩
theorem Inv.lnew {its:List Value} {t':Nat} (I:Inv X pins σ H s) (hv:Vals ys its) (hz:ys.length≤sizeLine) :
  Inv X pins σ (upd H s.heap.objs.size (.lst ys)) { s with heap:=s.heap.push { cls:=.type "list",data:=.seq its.toArray },toks:=t' } :=
 I.laid (fun _ _ q=>Heap.get?_push_of_some _ q) (Nat.le_refl _) ⟨hz,its,0,hv,Heap.get?_push_size _ rfl⟩
theorem Inv.fresh (I:Inv X pins σ H s):H s.heap.objs.size=none:=I.hok.fresh (Nat.le_refl _)
theorem Inv.lstM (I:Inv X pins σ H s) (hH:H l=some (.lst xs)):xs.length≤sizeLine∧∃ (its:List Value) (n:Nat),Vals xs its∧xs.length=its.length∧s.heap.get? l=some { cls:=.type "list",data:=.seq its.toArray n }:=by
 obtain ⟨z,its,n,r,e⟩:=I.hok l _ hH;exact ⟨z,its,n,r,r.length,e⟩
theorem zfW {n:Nat} (h:n≤sizeLine):Builtin.List.listTooLong n=false:=by
 unfold Builtin.List.listTooLong;exact decide_eq_false (by omega)
end
section
variable {X:Cx}
def rAppend:V→List V→Hp→VK→Prop:=fun x vs H Q=>∃ l xs y,x=.ref l∧vs=[y]∧H l=some (.lst xs)∧xs.length < sizeLine∧Q .non (upd H l (.lst (xs++[y])))
theorem mt_append:MtM X "list.append" rAppend:=by
 intro pins s σ H x vs v us Q I rx rv h;obtain ⟨l,xs,y,rfl,rfl,hH,hz,q⟩:=h
 cases rx
 obtain ⟨u,rfl,ru⟩:=rv.one;obtain ⟨z,its,n,r,hl,e⟩:=I.lstM hH;refine call_meets F.slot_list_append ⟨_,e,rfl⟩ F.entry_list_append (F.args_list_append_2 _ _) (PySem.list_append l its.toArray n u (by rw [List.size_toArray];omega)) ⟨e,?_⟩;refine ⟨.non,_,I.lset (its':=its++[u]) hH e (by simp) (r.append (.cons ru .nil)) ?_,rfl,q⟩;rw [List.length_append,List.length_singleton];omega
def rExtend:V→List V→Hp→VK→Prop:=fun x vs H Q=>∃ l b xs zs,x=.ref l∧vs=[.ref b]∧H l=some (.lst xs)∧H b=some (.lst zs)∧xs.length+zs.length≤sizeLine∧Q .non (upd H l (.lst (xs++zs)))
theorem mt_extend:MtM X "list.extend" rExtend:=by
 intro pins s σ H x vs v us Q I rx rv h;obtain ⟨l,b,xs,zs,rfl,rfl,hH,hB,hz,q⟩:=h
 cases rx
 obtain ⟨u,rfl,ru⟩:=rv.one
 cases ru
 obtain ⟨z,its,n,r,hl,e⟩:=I.lstM hH;obtain ⟨z2,its2,n2,r2,hl2,e2⟩:=I.lstM hB;have hsz:its.toArray.size+its2.toArray.size≤sizeLine:=by rw [List.size_toArray,List.size_toArray];omega
 have hlong:¬(!its.toArray.isEmpty && Builtin.List.listTooLong (its.toArray.size+its2.toArray.size))=true:=by
  rw [zfW hsz,Bool.and_false];exact Bool.false_ne_true
 refine call_meets F.slot_list_extend ⟨_,e,rfl⟩ F.entry_list_extend (F.args_list_extend_2 _ _)
  (AutoSeq1.list_extend_list_list_0 l its.toArray n b its2.toArray n2 hlong (by rw [List.size_toArray];omega) (by omega)) ⟨e,e2,?_⟩
 refine ⟨.non,_,I.lset (its':=its++its2) hH e (by simp) (r.append r2) ?_,rfl,q⟩;rw [List.length_append];omega
def rPopAt:V→List V→Hp→VK→Prop:=fun x vs H Q=>∃ l xs i k y,x=.ref l∧vs=[.int i]∧H l=some (.lst xs)∧-(2 ^ 63)≤i∧i < 2 ^ 63∧seqIndex? i xs.length=some k∧xs[k]? = some y∧Q y (upd H l (.lst (xs.eraseIdx k)))
theorem mt_popAt:MtM X "list.pop" rPopAt:=by
 intro pins s σ H x vs v us Q I rx rv h;obtain ⟨l,xs,i,k,y,rfl,rfl,hH,h1,h2,hk,hy,q⟩:=h
 cases rx
 obtain ⟨u,rfl,ru⟩:=rv.one;obtain ⟨t,rfl⟩:=ru;obtain ⟨z,its,n,r,hl,e⟩:=I.lstM hH;obtain ⟨w,hw,rw'⟩:=r.get hy;refine call_meets F.slot_list_pop ⟨_,e,rfl⟩ F.entry_list_pop (F.args_list_pop_2 _ _)
  (MeetsSeq.list_pop_at l its.toArray n i t k w (fitsIndex_both h1 h2) (by rw [List.size_toArray,← hl];exact hk) (by rw [← Array.getElem?_toList];exact hw) (by rw [List.size_toArray];omega)) ⟨e,?_⟩
 refine ⟨y,_,I.lset (its':=its.eraseIdx k) hH e ?_ (r.eraseIdx k) ?_,rw',q⟩
 ·show its.toArray.eraseIdxIfInBounds k=(its.eraseIdx k).toArray;rw [List.eraseIdxIfInBounds_toArray]
 ·have:=zgo xs k;omega
def rCat:R2:=fun x y H Q=>∃ l b xs zs,x=.ref l∧y=.ref b∧H l=some (.lst xs)∧H b=some (.lst zs)∧xs.length+zs.length≤sizeLine∧∀ p,H p=none→Q (.ref p) (upd H p (.lst (xs++zs)))
theorem op_cat:OpR X (binaryOp .Add) rCat:=by
 intro pins s σ H x y v u Q I rx ry h;obtain ⟨l,b,xs,zs,rfl,rfl,hH,hB,hz,q⟩:=h
 cases rx
 cases ry
 obtain ⟨z,its,n,r,hl,e⟩:=I.lstM hH;obtain ⟨z2,its2,n2,r2,hl2,e2⟩:=I.lstM hB;refine PySem.P.add_list e e2 ?_ (by rw [List.size_toArray,List.size_toArray];omega);have ea:its.toArray++its2.toArray=(its++its2).toArray:=by simp
 rw [ea];exact ⟨.ref _,_,I.lnew (t':=s.toks) (r.append r2) (by rw [List.length_append];omega),rfl,q _ I.fresh⟩
end
section
variable {prog:Program} {w:World} {A:Around} {E:Value→Shared→Prop} {s:Shared}
theorem ziy {a c n:Nat} (hac:a≤c) (hc:c≤n):sliceBounds (some (a:Int)) (some (c:Int)) none n=((a:Int),(c:Int),1):=by
 simp only [sliceBounds,Option.getD_none];have h1:¬((a:Int) < 0):=by omega
 have h2:¬((c:Int) < 0):=by omega
 simp only [h1,h2,if_false,show (1:Int) > 0 by decide,if_true]
 congr 1
 ·omega
 ·congr 1;omega
set_option maxRecDepth 100000 in
theorem zkJ {l b sl:Addr} {items new:Array Value} {n n2:Nat} {vl vu:Value} {a c:Nat} {Q:Unit→Shared→Prop}
  (e:s.heap.get? l=some { cls:=.type "list",data:=.seq items n }) (e2:s.heap.get? b=some { cls:=.type "list",data:=.seq new n2 }) (hne:l≠b)
  (hs:s.heap.IsSliceOf sl vl vu .none) (pl:IsPart vl (some (a:Int))) (pu:IsPart vu (some (c:Int))) (hac:a≤c) (hc:c≤items.size)
  (hsz:items.size+new.size≤sizeLine) (h:Q () { s with heap:=s.heap.update l (Obj.mapSeq fun xs=>xs.extract 0 a++new++xs.extract c xs.size) }) :
  wpAny (model prog w) A (setItem (.ref l) (.ref sl) (.ref b)) Q E s:=by
 have hl:s.heap.IsList l items:=PySem.IsL.isList e;have hb:s.heap.IsList b new:=PySem.IsL.isList e2;obtain ⟨os,hos,hcs,hds⟩:=id hs;have hTs:s.TypeIs (.ref sl) "slice":=⟨os,hos,hcs⟩
 have hstep:¬((rawPart none == rawInt 0)=true):=Bool.false_ne_true;have hsame:Builtin.List.listSameRef (.ref l) (.ref b)=false:=by
  unfold Builtin.List.listSameRef;exact beq_eq_false_iff_ne.mpr hne
 have hmax:(max (a:Int) (c:Int)).toNat=c:=by omega
 have hz':((fun xs:Array Value=>xs.extract 0 a++new++xs.extract c xs.size) items).size≤sizeLine+1:=by
  simp only [Array.size_append,Array.size_extract];omega
 unfold setItem
 try with_reducible refine wpAny_holding ?_
 first | refine wpAny_bind (wpAny_pure ?_) | skip
 refine wpAny_bind (wpAny_sequenceKey hl.typeIs (by decide) ?_);refine wpAny_bind (wpAny_callSpecial?_slot (name:=Str.ofString "__setitem__") hl.typeIs slot_list_setitem
  (wpAny_call_entry slot_list_setitem hl.typeIs entry_list_setitem ?_ (args_list_setitem _ _ _)))
 show wpAny _ _ (Builtin.List.listSubscript? (.ref sl) >>= _) _ _ s;refine wpAny_bind ?_;unfold Builtin.List.listSubscript?;refine wpAny_bind (wpAny_specialOf hTs slice_no_index ?_);simp only [Option.isNone_none,if_true];refine wpAny_pure ?_;show wpAny _ _ (typeOf (.ref sl) >>= _) _ _ s;refine wpAny_bind (wpAny_typeOf hTs ?_)
 first
  | rw [if_neg (by decide)]
  | refine PySem.W.KFB.if_not (by decide) ?_
 rw [listSliceParts_eq];refine wpAny_bind (wpAny_bind (wpAny_field hos hds (x:=.none) rfl (wpAny_bind (wpAny_listPart .none ?_))));rw [if_neg hstep];refine wpAny_bind (wpAny_field hos hds (x:=vl) rfl (wpAny_bind (wpAny_listPart pl ?_)));refine wpAny_bind (wpAny_field hos hds (x:=vu) rfl (wpAny_bind (wpAny_listPart pu (wpAny_pure ?_))))
 first
  | simp only [hsame,Bool.false_eq_true,if_false]
  | refine PySem.W.KFB.if_not hsame ?_
  | (dsimp only
     rw [if_neg (by rw [hsame];exact Bool.false_ne_true)])
 refine wpAny_bind (m:=Builtin.List.listAllItems (.ref b) "must assign iterable to extended slice") ?_;unfold Builtin.List.listAllItems;refine wpAny_bind (wpAny_typeOf hb.typeIs ?_)
 first
  | refine PySem.W.KFB.if_so (by decide) ?_
  | rw [if_pos (by decide)]
  | simp only [beq_self_eq_true,Bool.true_or,if_true]
 unfold Builtin.List.listItems;refine wpAny_bind (wpAny_seqItems e2 rfl (wpAny_pure ?_));refine wpAny_bind (wpAny_bind (wpAny_seqItems e rfl (wpAny_pure ?_)));refine wpAny_bind (wpAny_of_eq ((sliceIndices_raw (some (a:Int)) (some (c:Int)) none items.size (by simp)).trans (congrArg (pure:Int×Int×Int→Sem (Int×Int×Int)) (ziy hac hc))) ?_);show wpAny _ _ (if ((1:Int) == 1)=true then _ else _) _ _ s;rw [if_pos (by decide)];refine wpAny_bind (wpAny_rule ?_)
 first
  | simp only [zfW hsz,Bool.false_eq_true,if_false]
  | refine PySem.W.KFB.if_not (zfW hsz) ?_
 first | refine wpAny_bind (wpAny_pure ?_) | skip
 show wpAny _ _ (updateSeq l (fun xs=>xs.extract 0 ((a:Int)).toNat++new++xs.extract (max (a:Int) (c:Int)).toNat xs.size) >>= _) _ _ s;rw [hmax,Int.toNat_natCast];refine wpAny_bind (wpAny_updateSeq (hz:=Nat.le_trans (Nat.le_add_right _ _) hsz) (_hz':=hz') e rfl ?_);refine wpAny_bind (wpAny_letGo ?_)
 first
  | exact wpAny_bind (wpAny_pure (wpAny_pure ⟨.none,rfl,wpAny_pure h⟩))
  | exact wpAny_pure ⟨.none,rfl,wpAny_pure h⟩
end
section
variable {X:Cx}
end
end L2
namespace Att
open PySem PySem.W PySem.Calls PyProof.Rows
theorem zeW {P:Params} {h:Heap}:∀ (ns:List Int) (vs:List Value),WellAll P h vs (ns.map WData.int)→IntsAre vs ns:=by
 intro ns
 induction ns with
 | nil =>
   intro vs w;rw [List.map_nil] at w
   cases w
   exact .nil
 | cons n ns ih =>
   intro vs w;rw [List.map_cons] at w
   cases w with
   | cons a b =>
     cases a
     exact .cons _ _ (ih _ b)
theorem zjv {l:OpenLaw} {n:Nat} (hn:l.most=some n) {P:Params} {h:Heap} {args:List WData} {vals:List Value}
  (hpre:l.row.toRowW.claim.pre args=true) (hwl:WellAll P h vals args) :
  ∃ a vs ns,vals=[Value.ref a]∧args=[WData.list (ns.map WData.int)]∧h.get? a=some { cls:=.type "list",data:=.seq vs.toArray }∧IntsAre vs ns∧ns.length≤n:=by
 have hsh:WShape.hasAll [] args [.list .int]=true:=(pre_splitW hpre).1;have hc:l.pre.holds [] { args:=args }=true:=(pre_splitW hpre).2;obtain ⟨d,r,rfl,h1,h2⟩:=hasAllW_cons hsh;obtain rfl:=hasAllW_nil h2;obtain ⟨xs,rfl,h3⟩:=hasW_list h1;obtain ⟨ns,rfl⟩:=items_int h3;have hlen:ns.length≤n:=by
  unfold OpenLaw.pre at hc;have h4:(WTm.not (.lt (.lit (.int (n:Int))) (.len (.arg 0)))).holds [] { args:=[.list (ns.map .int)] }=true:=by
   have h4:=(holds_andW hc).1;rw [hn] at h4;exact h4
  have h5:=condW_of h4 (w_not (w_lt w_lit (w_len_list (w_arg rfl))));rw [List.length_map] at h5;refine Nat.le_of_not_lt fun q=>?_;have q':(n:Int) < ((ns.length:Nat):Int):=by omega
  first
   | (rw [decide_eq_true q'] at h5;exact absurd h5 (by decide))
   | (simp at h5;omega)
 cases hwl with
 | cons w1 w2 =>
   cases w2
   cases w1 with
   | list ho hall=>exact ⟨_,_,ns,rfl,rfl,ho,zeW ns _ hall,hlen⟩
theorem zjw (l:OpenLaw) (args:List WData):l.row.toRowW.claim.post args (.bool true) args=true :=
 postW_of (r:=l.row.toRowW) (X:=(true == true))
  (show WShape.has [] (.bool true) .bool=true by first | rfl | decide | simp [WShape.has,WShape.arms,WShape.armsAll])
  (show (WTm.eq .res (.lit (.bool true))).value [] { args:=args,res:=some (.bool true),after:=args }=some (.bool (true == true)) from w_eq_bool (w_res rfl) w_lit) rfl
theorem attach_call {l:OpenLaw} {n:Nat} {q:Program} {loose:List Str} {XP:(Str→Option Value)→Heap→Prop} {YP:World→Heap→Prop} {d:DefRec}
  (hn:l.most=some n) (hdf:d.params.defaults=[])
  (call:∀ (w:World) (s₀ s₁:Shared) (mg mb:Str→Option Value) (fa:Addr) (o:Obj) (pm cd doc:Value) (a:Addr) (vs:List Value) (ns:List Int),
   Ground q loose [] XP w s₀ mg mb s₁.heap→YP w s₁.heap →
   s₁.heap.get? fa=some o→o.data=.func (docDef d.name d.params d.body d.scope pm cd doc)→s₁.heap.CodeRec cd d.name→mg d.name=some (.ref fa) →
   s₁.heap.get? a=some { cls:=.type "list",data:=.seq vs.toArray }→IntsAre vs ns→ns.length≤n→s₁.gens=#[] →
   codeAny (model l.prog w) callerA (.call (.ref fa) ⟨[.ref a],[]⟩) (fun r s'=>r=.ok (.ret (.bool true))∧OldK s₁.heap s'.heap∧s'.os=s₁.os∧AllBare s'.gens) s₁) :
  WalkO q loose XP YP l.row.toRowW d [] (fun f vs=>PySem.call f vs):=by
 intro w s₀ s₁ mg mb G Y fa o pm cd doc dV kV ho hd hcd hD hmg hg args vals as hpre hlay hrd hwl hlo;obtain rfl:dV=.none:=Dflts.none hD hdf;obtain rfl:kV=.none:=Dflts.noKw hD;obtain ⟨a,vs,ns,rfl,rfl,hobj,hints,hlen⟩:=zjv hn hpre hwl;refine enter_call (codeAny_mono (call w s₀ s₁ mg mb fa o pm cd doc a vs ns G Y ho (fd_plain hd) hcd hmg hobj hints hlen hg) fun r s' hq=>?_);obtain ⟨rfl,h2,h3,h4⟩:=hq;exact ⟨.inl ⟨.bool true,.bool true,[],rfl,fun _=>rfl,.bool true,zjw l _,fun _=>⟨List.Pairwise.nil,fun _ hm=>(nomatch hm)⟩⟩,h2,h3,h4⟩
section
variable {prog:Program} {w:World} {A:Around} {E:Value→Shared→Prop} {s:Shared} {K:Frag}
end
end Att
namespace L2
open PySem PySem.Spec PyProof.Rows
theorem vals_ints:∀ {vs:List Value} {ns:List Int},IntsAre vs ns→Vals (ns.map V.int) vs
 | _,_,.nil=>.nil
 | _,_,.cons n t h=>.cons ⟨t,rfl⟩ (vals_ints h)
def Only (H:Hp):Prop:=∀ b,H b=none∨∃ o xs,H b=some (.frz o (.lst xs))
theorem zkK {P:Program} {w:World} {K:PySem.W.Frag} {mg mb:Str→Option Value} {CX:CXT} {k:Nat} {fa a:Addr} {fd:FuncData} {x:Str} {sp:Sp} {s₁:Shared} {vs:List Value} {ns:List Int}
  (KX:K.In s₁.heap) (hns:s₁.heap.Ns mainGlobals mg) (hb:s₁.heap.Ns builtinsNs mb) (hbb:∀ x:Str,x≠"__name__"→mb x=bootBuiltins x) (hlim:s₁.heap.NoLimit) (hg:s₁.gens=#[])
  (ha:s₁.heap.get? a=some { cls:=.type "list",data:=.seq vs.toArray }) (hi:IntsAre vs ns) (hl:ns.length≤sizeLine) (hr:Room k callerA)
  (F:∀ base:Heap,K.In base→base.Ns mainGlobals mg→FnOk P w K mg base CX k fa fd [x] sp) (hbind:∀ (s:Shared) (u:Value),BindsTo s fd ⟨[u],[]⟩ [(x,u)])
  (hsp:∀ H:Hp,Only H→SqL K H a (ns.map V.int)→sp [.ref a] H (fun v _=>v=.bl true) fun _ _ _=>False)
  (hCX:∀ H e s',CX [] H s₁ (fun _ _ _=>False) e s'→False) :
  codeAny (model P w) callerA (.call (.ref fa) ⟨[.ref a],[]⟩) (fun r s'=>r=.ok (.ret (.bool true))∧OldK s₁.heap s'.heap∧s'.os=s₁.os∧AllBare s'.gens) s₁:=by
 have rv:=vals_ints hi;have lenV:=hi.length;have core:∀ H:Hp,Only H→SqL K H a (ns.map V.int)→HOk P w H s₁.heap→(∀ b,H b≠none→b=a)→(H a≠none→K.lookup a=none) →
   codeAny (model P w) callerA (.call (.ref fa) ⟨[.ref a],[]⟩) (fun r s'=>r=.ok (.ret (.bool true))∧OldK s₁.heap s'.heap∧s'.os=s₁.os∧AllBare s'.gens) s₁:=by
  intro H hO hS hok hA hK;have base_of:∀ {b:Addr} {o:Obj},s₁.heap.get? b=some o→H b=none→(hidT s₁.heap H).get? b=some o:=fun e n=>zkB e n;have noA:∀ {b:Addr} {o:Obj} {es:Array DictEntry} {ep:Nat},s₁.heap.get? b=some o→o.data=.dict es ep→H b=none:=fun {b o es ep} e d=>by
   cases q:H b with
   | none=>rfl
   | some u =>
     have e':b=a:=hA b (by rw [q];simp);subst e';rw [ha] at e;cases e
     have d':Data.seq vs.toArray _=Data.dict es ep:=d
     cases d'
  have nsK:∀ {b:Addr} {m:Str→Option Value},s₁.heap.Ns b m→(hidT s₁.heap H).Ns b m:=fun {b m} ⟨o,es,ep,e,d,r⟩=>⟨o,es,ep,base_of e (noA e d),d,r⟩
  have hKb:K.In (hidT s₁.heap H):=fun b o e=>base_of (KX b o e) (by
   cases q:H b with
   | none=>rfl
   | some u =>
     have e':b=a:=hA b (by rw [q];simp);subst e';rw [hK (by rw [q];simp)] at e;cases e)
  have hM:Mod K mg (hidT s₁.heap H):=⟨hKb,nsK hns,⟨mb,nsK hb,hbb⟩,let ⟨mc,h1,h2⟩:=hlim;⟨mc,nsK h1,h2⟩⟩
  have e0:Env0 P w K mg (hidT s₁.heap H) callerA [] s₁ H:=⟨rfl,hM,fun b o e=>zlP e,Nat.le_of_eq (zje _ _),trivial,fun b hb=>absurd (show b∈([]:List Addr) from hb) (by simp),hok,.of_eq hg⟩
  refine codeAny_mono ((F _ hKb (nsK hns)).run callerA [] s₁ H ⟨[.ref a],[]⟩ [.ref a] [.ref a] _ _ hr e0 (hbind s₁ (.ref a)) (.cons rfl .nil) (hsp H hO hS)) fun r s' h=>?_
  cases r with
  | error e=>exact (hCX H e s' h).elim
  | ok fl =>
    cases fl with
    | next=>exact False.elim h
    | brk=>exact False.elim h
    | cont=>exact False.elim h
    | ret u =>
      obtain ⟨v,H',os,bare,un,hok',r',q⟩:=h;have q':v=.bl true:=q;subst q';obtain rfl:u=Value.bool true:=r';refine ⟨rfl,OldK.of_keep fun b o e=>?_,os,bare⟩
      cases q:H b with
      | none=>exact un.keep b o e q (by intro z;exact absurd (show b∈([]:List Addr) from z) (by simp)) (by simp)
      | some u =>
        rcases hO b with z | ⟨ob,xs,z⟩
        ·rw [q] at z;cases z
        ·have z2:=un.frzs b ob _ z;obtain ⟨e1,_⟩:=hok b _ z;obtain ⟨e2,_⟩:=hok' b _ z2;rw [e] at e1;cases e1
         exact e2
 cases hk:K.lookup a with
 | some o =>
   have e:=KX a o hk;rw [ha] at e
   cases e
   refine core (fun _=>none) (fun _=>.inl rfl) (.inr ⟨_,vs.toArray,_,hk,rfl,rfl,rfl,by rw [List.size_toArray,lenV];exact hl,by simpa using rv⟩) (fun b u z=>by have z':(none:Option HO)=some u:=z;cases z') (fun b z=>absurd rfl z) fun z=>absurd rfl z
 | none =>
   refine core (fun b=>if b=a then some (.frz { cls:=.type "list",data:=.seq vs.toArray } (.lst (ns.map V.int))) else none) (fun b=>?_) (.inl (.inr ⟨{ cls:=.type "list",data:=.seq vs.toArray },if_pos rfl⟩)) (fun b u z=>?_) (fun b z=>?_) fun _=>hk
   ·by_cases hb:b=a
    ·exact .inr ⟨_,_,if_pos hb⟩
    ·exact .inl (if_neg hb)
   ·by_cases hb:b=a
    ·have z':=(if_pos hb).symm.trans z
     cases z'
     subst hb;exact ⟨ha,by rw [List.length_map];exact hl,vs,_,rv,ha⟩
    ·have z':=(if_neg hb).symm.trans z
     cases z'
   ·by_cases hb:b=a
    ·exact hb
    ·exact absurd (if_neg hb) z
end L2
namespace L2
open PySem PySem.Spec PyProof.Rows
theorem zl4 {l:PySem.W.OpenLaw} {n k:Nat} {q:Program} {loose:List Str} {XP:(Str→Option Value)→Heap→Prop} {YP:World→Heap→Prop} {d:DefRec} {K:Params→PySem.W.Frag} {CX:World→CXT} {sp:World→Sp} {x:Str}
  (hn:l.most=some n) (hn2:n≤sizeLine) (hdf:d.params.defaults=[]) (hr:Room k callerA)
  (hY:∀ (w:World) (h:Heap),YP w h→(K w.params).In h)
  (F:∀ (w:World) (mg:Str→Option Value) (fa:Addr) (h:Heap),(K w.params).In h→h.Ns mainGlobals mg→mg d.name=some (.ref fa) →
   ∃ fd:FuncData,(∀ (s:Shared) (u:Value),BindsTo s fd ⟨[u],[]⟩ [(x,u)]) ∧
    ∀ base:Heap,(K w.params).In base→base.Ns mainGlobals mg→FnOk l.prog w (K w.params) mg base (CX w) k fa fd [x] (sp w))
  (hsp:∀ (w:World) (H:Hp) (a:Addr) (ns:List Int),ns.length≤n→Only H→SqL (K w.params) H a (ns.map V.int)→sp w [.ref a] H (fun v _=>v=.bl true) fun _ _ _=>False)
  (hCX:∀ (w:World) (H:Hp) (s:Shared) (e:Value) (s':Shared),CX w [] H s (fun _ _ _=>False) e s'→False) :
  PySem.W.WalkO q loose XP YP l.row.toRowW d [] (fun f vs=>PySem.call f vs):=by
 refine Att.attach_call hn hdf fun w s₀ s₁ mg mb fa o pm cd doc a vs ns G Y ho hd hcd hmg hobj hints hlen hg=>?_;have KX:=hY w _ Y;obtain ⟨fd,hb,hF⟩:=F w mg fa _ KX G.T.g hmg;exact zkK KX G.T.g G.T.b G.T.builtins G.T.nolimit hg hobj hints (Nat.le_trans hlen hn2) hr hF hb (fun H hO hS=>hsp w H a ns hlen hO hS) fun H e s'=>hCX w H s₁ e s'
end L2
namespace L2
open PySem PySem.Spec PyProof.Rows
def za2 (s:Stmt) (j:Nat):Stmt:=match s with
 | .ClassDef _ _ _ body _ _ _ _ _ _ _=>body.getD j (.Pass ⟨0,0,0,0⟩)
 | _=>.Pass ⟨0,0,0,0⟩
def zan (s:Stmt):Arguments:=match s with
 | .FunctionDef _ a _ _ _ _ _ _ _ _=>a
 | _=>{ posonlyargs:=[],args:=[],vararg:=none,kwonlyargs:=[],kw_defaults:=[],kwarg:=none,defaults:=[] }
def zam (s:Stmt):List Stmt:=match s with
 | .FunctionDef _ _ b _ _ _ _ _ _ _=>b
 | _=>[]
def zac (s:Stmt):Scope:=match s with
 | .FunctionDef _ _ _ _ _ _ sc _ _ _=>sc
 | _=>{ kind:=.function,names:=[],isGenerator:=false,isCoroutine:=false }
abbrev CX0:CXT:=fun _ _ _ _ _ _=>False
abbrev E0:XK:=fun _ _ _=>False
theorem zau {X:Cx}:zep CX0 X E0:=fun _ _ _ _ _ _ _ h=>h.elim
structure Fun (K:PySem.W.Frag) (x qual:Str) (st:Stmt) (f:Addr) (fd:FuncData):Prop where
 ex:∃ (oc:Value) (od:Option Addr) (kV doc pm:Value) (an:Option Addr) (cdv ct:Value) (osl:Array (Option Value)),
  fd=PySem.W.fnOf x qual (zan st) (zam st) (zac st) .none kV doc pm an cdv ct∧K.lookup f=some ⟨oc,od,.func fd,osl⟩∧PySem.W.codeIn K cdv qual=true
 kp:PySem.W.keepIn K (.ref f)=true
section
variable {P:Program} {w:World} {K:PySem.W.Frag} {mg:Str→Option Value} {base:Heap}
theorem Fun.ok {x qual:Str} {st:Stmt} {f:Addr} {fd:FuncData} {N ps:List Str} {k:Nat} {sp:Sp} (F:Fun K x qual st f fd) (S:zao N ps (zac st)) (len:∀ vs H Q E,sp vs H Q E→vs.length=ps.length)
  (hbody:∀ (cdv:Value) (A:Around) (outer:List Env) (s:Shared) (H:Hp) (vs:List V) (Q:VK) (E:XK),Room k (A.deeper (envOfC qual (zac st) s.heap.objs.size f cdv))→sp vs H Q E →
   ∃ t,PSs (cxOf CX0 P w K mg base N qual (zac st) f cdv A outer s H E).nox (zam st) t∧t { nx:=fun _ H'=>Q .non H',rt:=Q } (start N vs) H):FnOk P w K mg base CX0 (k+1) f fd ps sp:=by
 obtain ⟨oc,od,kV,doc,pm,an,cdv,ct,osl,rfl,lk,hcd⟩:=F.ex;refine zoa lk hcd S len fun A outer s H vs Q E hr hsp=>?_;obtain ⟨t,h,q⟩:=hbody cdv A outer s H vs Q E hr hsp;exact ⟨t,h.nox,q⟩
theorem Fun.binds {x qual:Str} {st:Stmt} {f:Addr} {fd:FuncData} {ps:List Str} (F:Fun K x qual st f fd)
  (h:∀ (kV doc pm:Value) (an:Option Addr) (cdv ct:Value) (us:List Value),us.length=ps.length→bindArgs (PySem.W.fnOf x qual (zan st) (zam st) (zac st) .none kV doc pm an cdv ct) ⟨us,[]⟩=pure (ps.zip us)):Binds K fd ps []:=by
 obtain ⟨oc,od,kV,doc,pm,an,cdv,ct,osl,rfl,lk,hcd⟩:=F.ex;exact .all (h kV doc pm an cdv ct)
theorem zaz {x qual:Str} {st:Stmt} {f:Addr} {oc:Value} {od an:Option Addr} {osl:Array (Option Value)} {kV doc pm cdv ct:Value} (l:K.lookup f=some ⟨oc,od,.func (PySem.W.fnOf x qual (zan st) (zam st) (zac st) .none kV doc pm an cdv ct),osl⟩)
  (c:PySem.W.codeIn K cdv qual=true) (k:PySem.W.keepIn K (.ref f)=true):Fun K x qual st f (PySem.W.fnOf x qual (zan st) (zam st) (zac st) .none kV doc pm an cdv ct):=⟨⟨oc,od,kV,doc,pm,an,cdv,ct,osl,rfl,l,c⟩,k⟩
end
theorem zcY {A:Around} {k:Nat} (hr:Room k A):A.units+1 < cLine:=Nat.lt_of_le_of_lt (Nat.add_le_add_left (by decide:1≤64) _) hr.units
theorem za1 {n:Nat} (h:n≤1000):n < sizeLine:=Nat.lt_of_le_of_lt h (by decide)
section
variable {X:Cx}
theorem pv (i:Nat) {x:Str} {pos:Pos} (hN:X.N[i]? = some x:=by rfl) (hv:Vis X.env.scope x:=by first | exact Or.inl rfl | exact Or.inr (Or.inl rfl) | exact Or.inr (Or.inr rfl)) (hd:(x == ("__debug__" : Str))=false:=by decide)
  (hcd:(x == ("__classdict__" : Str))=false:=by decide):PE X (.Name x pos) (tVar i):=zmN hN hv hd hcd
end
theorem iteF {A B:Prop} (h:B):if false=true then A else B:=by
 rw [if_neg Bool.false_ne_true];exact h
theorem iteT {A B:Prop} (h:A):if true=true then A else B:=by
 rw [if_pos rfl];exact h
def Same (H H':Hp):Prop:=∀ b o,H b=some o→H' b=some o
theorem Same.refl (H:Hp):Same H H:=fun _ _ h=>h
theorem Same.trans {H H1 H2:Hp} (a:Same H H1) (b:Same H1 H2):Same H H2:=fun c o h=>b c o (a c o h)
theorem Same.free {H H':Hp} (e:Same H H') {l:Addr} (h:H' l=Option.none):H l=Option.none:=by
 cases q:H l with
 | none=>rfl
 | some o =>
   rw [e l o q] at h
   cases h
theorem Same.seq {K:PySem.W.Frag} {H H':Hp} {a:Addr} {xs:List V} (e:Same H H') (h:SqL K H a xs):SqL K H' a xs:=by
 rcases h with (h | ⟨o,h⟩) | h
 ·exact .inl (.inl (e _ _ h))
 ·exact .inl (.inr ⟨o,e _ _ h⟩)
 ·exact .inr h
end L2
namespace L2
open PySem PySem.Spec PyProof.Rows
section
variable {κ:Type} [DecidableEq κ]
def valV (kvs:List (κ×V)) (k:κ):Option V:=(kvs.find? fun kv=>decide (kv.1=k)).map (·.2)
def putK (kvs:List (κ×V)) (k:κ) (v:V):List (κ×V) :=
 if (kvs.any fun kv=>decide (kv.1=k))=true then kvs.map (fun kv=>if kv.1=k then (kv.1,v) else kv) else kvs++[(k,v)]
theorem zbu {p:κ×V} {r:List (κ×V)} {k:κ} (e:p.1=k):valV (p::r) k=some p.2:=by simp [valV,List.find?_cons,e]
theorem zbv {p:κ×V} {r:List (κ×V)} {k:κ} (e:¬p.1=k):valV (p::r) k=valV r k:=by simp [valV,List.find?_cons,e]
theorem zdN (k:κ):∀ kvs:List (κ×V),(kvs.any fun kv=>decide (kv.1=k))=(valV kvs k).isSome
 | []=>rfl
 | p::r=>by
   rw [List.any_cons]
   by_cases e:p.1=k
   ·simp only [zbu e,decide_eq_true e,Bool.true_or,Option.isSome_some]
   ·rw [zbv e,decide_eq_false e,Bool.false_or];exact zdN k r
theorem zhX (k j:κ) (y:V):∀ kvs:List (κ×V),valV (kvs.map fun kv=>if kv.1=k then (kv.1,y) else kv) j=(valV kvs j).map fun x=>if j=k then y else x
 | []=>rfl
 | p::r=>by
   have ih:=zhX k j y r;rw [List.map_cons]
   by_cases h:p.1=k
   ·rw [if_pos h]
    by_cases e:p.1=j
    ·rw [zbu (p:=(p.1,y)) e,zbu e,Option.map_some,if_pos (e.symm.trans h)]
    ·rw [zbv (p:=(p.1,y)) e,zbv e,ih]
   ·rw [if_neg h]
    by_cases e:p.1=j
    ·rw [zbu (p:=p) e,zbu e,Option.map_some,if_neg (fun z=>h (e.trans z))]
    ·rw [zbv (p:=p) e,zbv e,ih]
theorem zgp (k j:κ) (y:V):∀ kvs:List (κ×V),valV kvs k=none→valV (kvs++[(k,y)]) j=if j=k then some y else valV kvs j
 | [],_=>by
   by_cases e:k=j
   ·rw [if_pos e.symm];exact zbu (p:=(k,y)) e
   ·rw [if_neg (fun z=>e z.symm)];exact zbv (p:=(k,y)) e
 | p::r,hn=>by
   rw [List.cons_append];have hk:¬p.1=k:=fun z=>by rw [zbu z] at hn;cases hn
   rw [zbv hk] at hn;have ih:=zgp k j y r hn
   by_cases e:p.1=j
   ·rw [zbu e,zbu e,if_neg (fun z=>hk (e.trans z))]
   ·rw [zbv e,zbv e,ih]
theorem zkL (kvs:List (κ×V)) (k j:κ) (y:V):valV (putK kvs k y) j=if j=k then some y else valV kvs j:=by
 unfold putK
 by_cases a:(kvs.any fun kv=>decide (kv.1=k))=true
 ·rw [if_pos a,zhX];rw [zdN] at a
  by_cases e:j=k
  ·obtain ⟨x,hx⟩:=Option.isSome_iff_exists.mp a;rw [if_pos e,e,hx,Option.map_some,if_pos rfl]
  ·rw [if_neg e]
   cases valV kvs j with
   | none=>rfl
   | some x=>rw [Option.map_some,if_neg e]
 ·rw [if_neg a];refine zgp k j y kvs ?_;rw [zdN] at a
  cases q:valV kvs k with
  | none=>rfl
  | some x=>rw [q] at a;exact (a rfl).elim
theorem zdy (kvs:List (κ×V)) (k:κ) (v:V):(putK kvs k v).length≤kvs.length+1:=by
 unfold putK;split
 ·rw [List.length_map];omega
 ·rw [List.length_append,List.length_cons,List.length_nil];omega
theorem zkM {kvs:List (κ×V)} {k:κ} (v:V) (h:valV kvs k=none):putK kvs k v=kvs++[(k,v)]:=by
 unfold putK;rw [zdN,h];exact if_neg (by decide)
theorem RelO.isSome_eq {o:Option V} {u:Option Value} (r:RelO o u):o.isSome=u.isSome:=by
 cases o with
 | none=>cases u with
   | none=>rfl
   | some _=>exact (show False from r).elim
 | some _=>cases u with
   | none=>exact (show False from r).elim
   | some _=>rfl
theorem KV.val {kvs:List (κ×V)} {vs:List (κ×Value)} (r:KV kvs vs) (k:κ):RelO (valV kvs k) (valueAt vs k):=by
 unfold KV at r
 induction r with
 | nil=>exact True.intro
 | @cons p q ps qs h t ih =>
   obtain ⟨h1,h2⟩:=h
   by_cases e:p.1=k
   ·have e':q.1=k:=h1.symm.trans e;have b:valueAt (q::qs) k=some q.2:=by simp [valueAt,List.find?_cons,e']
    rw [zbu e,b];exact h2
   ·have e':¬q.1=k:=fun z=>e (h1.trans z);have b:valueAt (q::qs) k=valueAt qs k:=by simp [valueAt,List.find?_cons,e']
    rw [zbv e,b];exact ih
theorem KV.any {kvs:List (κ×V)} {vs:List (κ×Value)} (r:KV kvs vs) (k:κ):(kvs.any fun kv=>decide (kv.1=k))=vs.any fun kv=>decide (kv.1=k):=by
 unfold KV at r
 induction r with
 | nil=>rfl
 | cons h t ih=>rw [List.any_cons,List.any_cons,ih,h.1]
theorem KV.repl {kvs:List (κ×V)} {vs:List (κ×Value)} (r:KV kvs vs) (k:κ) {y:V} {u:Value} (ry:RelV y u) :
  KV (kvs.map fun kv=>if kv.1=k then (kv.1,y) else kv) (vs.map fun kv=>if kv.1=k then (kv.1,u) else kv):=by
 unfold KV at r ⊢
 induction r with
 | nil=>exact .nil
 | @cons p q ps qs h t ih =>
   rw [List.map_cons,List.map_cons];refine .cons ?_ ih;obtain ⟨h1,h2⟩:=h
   by_cases e:p.1=k
   ·rw [if_pos e,if_pos (h1.symm.trans e)];exact ⟨h1,ry⟩
   ·rw [if_neg e,if_neg (fun z=>e (h1.trans z))];exact ⟨h1,h2⟩
theorem KV.put {kvs:List (κ×V)} {vs:List (κ×Value)} (r:KV kvs vs) (k:κ) {y:V} {u:Value} (ry:RelV y u):KV (putK kvs k y) (stored vs k u):=by
 unfold putK stored;rw [r.any k]
 by_cases e:(vs.any fun kv=>decide (kv.1=k))=true
 ·rw [if_pos e,if_pos e];exact r.repl k ry
 ·rw [if_neg e,if_neg e];exact Paired.snoc r ⟨rfl,ry⟩
theorem KV.length {kvs:List (κ×V)} {vs:List (κ×Value)} (r:KV kvs vs):kvs.length=vs.length:=Paired.length r
end
theorem zjx {P:Program} {w:World} {k:Key} {u:Value} (r:RelV (kV k) u):(zbD P w).is k u=true:=by
 cases k with
 | inl i=>obtain ⟨t,e⟩:=(show ∃ t,u=Value.int i t from r);subst e;exact zg9 P w i t
 | inr x=>obtain ⟨t,e⟩:=(show ∃ t,u=Value.str x t from r);subst e;exact zha P w x t
theorem zgq {P:Program} {w:World}:∀ {ks:List Key} {us:List Value},Vals (ks.map kV) us→ItemsAre (zbD P w) ks us
 | [],_,r=>by rw [List.map_nil] at r;cases r;exact .nil
 | k::ks,_,r=>by
   rw [List.map_cons] at r
   cases r with
   | cons h t=>exact .cons (zjx h) (zgq t)
abbrev KT (H:Hp):List (List Key×V)→List (List Key×Addr×Value)→Prop:=Paired fun p q=>p.1=q.1∧H q.2.1=some (.tup (p.1.map kV))∧RelV p.2 q.2.2
theorem KT.val {H:Hp} {kvs:List (List Key×V)} {xs:List (List Key×Addr×Value)} (r:KT H kvs xs) (k:List Key):RelO (valV kvs k) ((atKey xs k).map (·.2)):=by
 induction r with
 | nil=>exact True.intro
 | @cons p q ps qs h t ih =>
   obtain ⟨h1,_,h2⟩:=h
   by_cases e:p.1=k
   ·have e':q.1=k:=h1.symm.trans e;have b:atKey (q::qs) k=some q.2:=by simp [atKey,List.find?_cons,e']
    rw [zbu e,b];exact h2
   ·have e':¬q.1=k:=fun z=>e (h1.trans z);have b:atKey (q::qs) k=atKey qs k:=by simp [atKey,List.find?_cons,e']
    rw [zbv e,b];exact ih
theorem KT.repl {H:Hp} {kvs:List (List Key×V)} {xs:List (List Key×Addr×Value)} (r:KT H kvs xs) (k:List Key) {y:V} {u:Value} (ry:RelV y u) :
  KT H (kvs.map fun kv=>if kv.1=k then (kv.1,y) else kv) (xs.map (putAt k u)):=by
 induction r with
 | nil=>exact .nil
 | @cons p q ps qs h t ih =>
   rw [List.map_cons,List.map_cons];refine .cons ?_ ih;obtain ⟨h1,h2,h3⟩:=h;unfold putAt
   by_cases e:p.1=k
   ·rw [if_pos e,if_pos (h1.symm.trans e)];exact ⟨h1,h2,ry⟩
   ·rw [if_neg e,if_neg (fun z=>e (h1.trans z))];exact ⟨h1,h2,h3⟩
theorem KT.put {H:Hp} {kvs:List (List Key×V)} {xs:List (List Key×Addr×Value)} (r:KT H kvs xs) (k:List Key) {b:Addr} {y:V} {u:Value} (hb:H b=some (.tup (k.map kV))) (ry:RelV y u) :
  KT H (putK kvs k y) (storedH xs k b u):=by
 have e:(kvs.any fun kv=>decide (kv.1=k))=(atKey xs k).isSome:=by
  rw [zdN,(r.val k).isSome_eq,Option.isSome_map]
 unfold putK storedH;rw [e]
 by_cases q:(atKey xs k).isSome=true
 ·rw [if_pos q,if_pos q];exact r.repl k ry
 ·rw [if_neg q,if_neg q];exact Paired.snoc r ⟨rfl,hb,ry⟩
theorem KT.keeps {H H':Hp} {kvs:List (List Key×V)} {xs:List (List Key×Addr×Value)} (r:KT H kvs xs) (ht:∀ b ys,H b=some (.tup ys)→H' b=some (.tup ys)):KT H' kvs xs :=
 Paired.mapP r fun _ _ z=>⟨z.1,ht _ _ z.2.1,z.2.2⟩
section
variable {P:Program} {w:World} {H:Hp} {h:Heap} {a:Addr}
theorem zm2 {u:HO} (ok:HOk P w H h) (e:Rd H a u):zbR P w H h a u:=e.ok ok
theorem zjy {kvs:List (Key×V)} (ok:HOk P w H h) (e:Rd H a (.dK kvs)):kvs.length≤sizeLine∧(a == sysModules)=false∧∃ vs,KV kvs vs∧h.DictOf (zbD P w) a vs :=
 show zbR P w H h a (.dK kvs) from zm2 ok e
theorem zoc {kvs:List (Key×V)} (ok:HOk P w H h) (e:H a=some (.dK kvs)):kvs.length≤sizeLine∧(a == sysModules)=false∧∃ vs,KV kvs vs∧h.DictOf (zbD P w) a vs:=zjy ok (.inl e)
theorem zgr {ks:List Key} (ok:HOk P w H h) (e:H a=some (.tup (ks.map kV))):(tupleKind (zbD P w)).is h ks a:=by
 obtain ⟨_,its,r,o,h1,h2,n,h3⟩:=(show zbR P w H h a (.tup (ks.map kV)) from ok a _ e)
 exact ⟨o,its.toArray,n,h1,h2,h3,by simpa using zgq r⟩
theorem zjz {kvs:List (List Key×V)} (ok:HOk P w H h) (e:Rd H a (.dT kvs)):kvs.length≤sizeLine∧(a == sysModules)=false ∧
  ∃ xs,KT H kvs xs∧h.DictOfH (tupleKind (zbD P w)) a xs:=by
 obtain ⟨z,y,xs,r,o,es,ep,h1,h2,h3,h4,h5⟩:=(show zbR P w H h a (.dT kvs) from zm2 ok e)
 refine ⟨z,y,xs,r,o,es,ep,h1,h2,h3,h4,fun x hx=>?_,h5⟩;have all:∀ {l:List (List Key×V)} {m:List (List Key×Addr×Value)},KT H l m→∀ x∈m,(tupleKind (zbD P w)).is h x.1 x.2.1:=by
  intro l m q
  induction q with
  | nil=>intro x hx;exact nomatch hx
  | @cons p q ps qs hq t ih =>
    intro x hx;rcases List.mem_cons.mp hx with e | hx
    ·subst e;exact zgr ok (by rw [← hq.1];exact hq.2.1)
    ·exact ih x hx
 exact all r x hx
theorem zod {kvs:List (List Key×V)} (ok:HOk P w H h) (e:H a=some (.dT kvs)):kvs.length≤sizeLine∧(a == sysModules)=false ∧
  ∃ xs,KT H kvs xs∧h.DictOfH (tupleKind (zbD P w)) a xs:=zjz ok (.inl e)
end
def DGet (H:Hp) (a:Addr) (y:V) (r:Option V):Prop :=
 (∃ kvs k,Rd H a (.dK kvs)∧y=kV k∧r=valV kvs k)∨∃ kvs k b,Rd H a (.dT kvs)∧y=.ref b∧H b=some (.tup (k.map kV))∧r=valV kvs k
def DPut (H:Hp) (a:Addr) (y v:V) (H':Hp):Prop :=
 (∃ kvs k,H a=some (.dK kvs)∧y=kV k∧kvs.length < sizeLine∧H'=upd H a (.dK (putK kvs k v))) ∨
 ∃ kvs k b,H a=some (.dT kvs)∧y=.ref b∧H b=some (.tup (k.map kV))∧kvs.length < sizeLine∧H'=upd H a (.dT (putK kvs k v))
theorem DGet.k {H:Hp} {a:Addr} {kvs:List (Key×V)} {k:Key} (e:H a=some (.dK kvs)):DGet H a (kV k) (valV kvs k):=.inl ⟨kvs,k,.inl e,rfl,rfl⟩
theorem DPut.k {H:Hp} {a:Addr} {kvs:List (Key×V)} {k:Key} {v:V} (e:H a=some (.dK kvs)) (hl:kvs.length < sizeLine):DPut H a (kV k) v (upd H a (.dK (putK kvs k v))):=.inl ⟨kvs,k,e,rfl,hl,rfl⟩
section
variable {X:Cx} {pins:List (Addr×Obj)} {σ:St} {H:Hp} {s:Shared} {a:Addr} {y v:V} {u r:Value} {o:Option V} {A:Around} {E:Value→Shared→Prop}
theorem Inv.big (I:Inv X pins σ H s):sysModules < s.heap.objs.size:=by
 have h:mainGlobals < s.heap.objs.size:=(I.mod.glob.keeps I.bk).lt;exact Nat.lt_trans (by decide) h
theorem zjA {Q:Value→Shared→Prop} (hu:A.units+1 < cLine) (I:Inv X pins σ H s) (g:DGet H a y (some v)) (ry:RelV y u) (h:∀ w' s',Inv X pins σ H s'→RelV v w'→Q w' s') :
  wpAny (model X.prog X.w) A (getItem (.ref a) u) Q E s:=by
 rcases g with ⟨kvs,k,e,ey,l⟩ | ⟨kvs,k,b,e,ey,eb,l⟩
 ·subst ey;obtain ⟨z,hd,vs,rel,dd⟩:=zjy I.hok e;obtain ⟨w',hw,rw'⟩:=RelO.some_of (v:=v) (o:=valueAt vs k) (by rw [l];exact rel.val k);exact wpAny_getItem_of (zjx ry) dd.mapOf hw (h w' _ (I.tok _) rw')
 ·subst ey
  cases (show u=Value.ref b from ry)
  obtain ⟨z,hd,xs,rel,dd⟩:=zjz I.hok e;obtain ⟨w',hw,rw'⟩:=RelO.some_of (v:=v) (o:=(atKey xs k).map (·.2)) (by rw [l];exact rel.val k);obtain ⟨p,hp,hp2⟩:=Option.map_eq_some_iff.mp hw;refine wpAny_getItem_heap (tupleKind_room_in1 hu) (zgr I.hok eb) dd hp ?_;rw [hp2];exact h w' _ (I.tok _) rw'
theorem d_in {Q:Value→Shared→Prop} (hu:A.units+1 < cLine) (I:Inv X pins σ H s) (g:DGet H a y o) (ry:RelV y u) (h:∀ s',Inv X pins σ H s'→Q (.bool o.isSome) s') :
  wpAny (model X.prog X.w) A (compareOp .In u (.ref a)) Q E s:=by
 rcases g with ⟨kvs,k,e,ey,l⟩ | ⟨kvs,k,b,e,ey,eb,l⟩
 ·subst ey;obtain ⟨z,hd,vs,rel,dd⟩:=zjy I.hok e;refine wpAny_in_of (zjx ry) hd dd.mapOf ?_;rw [← (rel.val k).isSome_eq,← l];exact h _ (I.tok _)
 ·subst ey
  cases (show u=Value.ref b from ry)
  obtain ⟨z,hd,xs,rel,dd⟩:=zjz I.hok e;refine wpAny_in_heap (tupleKind_room_in1 hu) (zgr I.hok eb) hd dd ?_;have q:=(rel.val k).isSome_eq;rw [Option.isSome_map] at q;rw [← q,← l];exact h _ (I.tok _)
theorem zl6 {Q:Value→Shared→Prop} (hu:A.units+1 < cLine) (I:Inv X pins σ H s) (g:DGet H a y o) (ry:RelV y u) (h:∀ s',Inv X pins σ H s'→Q (.bool (!o.isSome)) s') :
  wpAny (model X.prog X.w) A (compareOp .NotIn u (.ref a)) Q E s:=by
 rcases g with ⟨kvs,k,e,ey,l⟩ | ⟨kvs,k,b,e,ey,eb,l⟩
 ·subst ey;obtain ⟨z,hd,vs,rel,dd⟩:=zjy I.hok e;refine wpAny_notIn_of (zjx ry) hd dd.mapOf ?_;rw [← (rel.val k).isSome_eq,← l];exact h _ (I.tok _)
 ·subst ey
  cases (show u=Value.ref b from ry)
  obtain ⟨z,hd,xs,rel,dd⟩:=zjz I.hok e;refine wpAny_notIn_heap (tupleKind_room_in1 hu) (zgr I.hok eb) hd dd ?_;have q:=(rel.val k).isSome_eq;rw [Option.isSome_map] at q;rw [← q,← l];exact h _ (I.tok _)
theorem zjB {h':Heap} {t':Nat} {ob:HO} (I:Inv X pins σ H s) (mu:Mut (H a)) (hs:Heap.SameBut a s.heap h') (he:∃ q,h'.get? a=some q) (new:zbR X.prog X.w (upd H a ob) h' a ob) :
  Inv X pins σ (upd H a ob) { s with heap:=h',toks:=t' } :=
 I.write (x:=a) (e:=a) mu (.inl rfl) (fun b q hb z=>(hs.2 b hb).trans z) he new
theorem zm3 {P:Program} {w:World} {H':Hp} {h':Heap} {kvs:List (Key×V)} {vs:List (Key×Value)} (z:kvs.length≤sizeLine) (hd:(a == sysModules)=false) (rel:KV kvs vs) (dd:h'.DictOf (zbD P w) a vs) :
  zbR P w H' h' a (.dK kvs):=⟨z,hd,vs,rel,dd⟩
theorem zjC {H':Hp} {Q:Unit→Shared→Prop} (hu:A.units+1 < cLine) (I:Inv X pins σ H s) (g:DPut H a y v H') (ry:RelV y u) (rv:RelV v r) (h:∀ s',Inv X pins σ H' s'→Q () s') :
  wpAny (model X.prog X.w) A (setItem (.ref a) u r) Q E s:=by
 rcases g with ⟨kvs,k,e,ey,l,eH⟩ | ⟨kvs,k,b,e,ey,eb,l,eH⟩
 ·subst ey eH;obtain ⟨z,hd,vs,rel,dd⟩:=zoc I.hok e;have hz:vs.length≤sizeLine:=by rw [← rel.length];exact z
  have hl:(putK kvs k v).length≤sizeLine:=by have:=zdy kvs k v;omega
  refine wpAny_setItem_pairs (hsz:=hz) (zjx ry) dd fun h' dd' hs=>h _ ?_;have he:∃ q,h'.get? a=some q:=let ⟨q,_,_,hq,_⟩:=dd';⟨q,hq⟩;exact zjB I (by rw [e];exact True.intro) hs he (zm3 hl hd (rel.put k rv) dd')
 ·subst ey eH
  cases (show u=Value.ref b from ry)
  obtain ⟨z,hd,xs,rel,dd⟩:=zod I.hok e;have hz:xs.length≤sizeLine:=by rw [← Paired.length rel];exact z
  have hl:(putK kvs k v).length≤sizeLine:=by have:=zdy kvs k v;omega
  refine wpAny_setItem_heap (hsz:=hz) (tupleKind_room_in1 hu) (zgr I.hok eb) dd fun h' dd' hs=>h _ ?_;obtain ⟨q,es,ep,hq,h2,h3,h4,_,h5⟩:=dd';refine zjB I (by rw [e];exact True.intro) hs ⟨q,hq⟩ ⟨hl,hd,_,(rel.put k eb rv).keeps fun c ys ec=>?_,q,es,ep,hq,h2,h3,h4,h5⟩;rw [zaR (zn9 ec e (fun z=>nomatch z))];exact ec
end
section
variable {X:Cx} {pins:List (Addr×Obj)} {σ:St} {H:Hp} {s:Shared} {a:Addr} {kvs:List (Key×V)} {k:Key} {u:Value} {A:Around} {E:Value→Shared→Prop}
end
def NoSl (i:Expr):Prop:=∀ ov iv,subscripted i false ov iv=operate [ov,iv] (getItem ov iv)
theorem zl7 {prog:Program} {w:World} {A:Around} {E:Value→Shared→Prop} {s:Shared} {env:Env} {value slice:Expr} {pos:Pos} {T id:String} {Q:Value→Shared→Prop}
  (hl:typeLookup (.type T) "__getitem__" = pure (some (.builtin id))) (hs:NoSl slice)
  (h:wpAny (model prog w) A (eval value env) (fun o s₁=>wpAny (model prog w) A (eval slice env) (fun i s₂=>s₂.TypeIs o T∧wpAny (model prog w) A (getItem o i) Q E s₂) E s₁) E s) :
  wpAny (model prog w) A (eval (.Subscript value slice pos) env) Q E s:=by
 refine Subscript_ (wpAny_mono h (fun o s₁ h₁=>wpAny_mono h₁ (fun i s₂ h₂=>?_) fun _ _ x=>x) fun _ _ x=>x);obtain ⟨hT,h₂⟩:=h₂;unfold subscriptTail;refine wpAny_bind ?_;rw [getitemInPython_of_ne hT.not_modules];refine wpAny_bind (wpAny_specialOf hT hl ?_);have fin:wpAny (model prog w) A (subscripted slice false o i) (fun r s₃=>wpAny (model prog w) A (letTemporaryGo value o r >>= fun _=>pure r) Q E s₃) E s₂:=by
  rw [hs o i];exact wpAny_operating (wpAny_mono h₂ (fun r s₃ h₃=>wpAny_bind (wpAny_letTemporaryGo (wpAny_pure h₃))) fun _ _ x=>x)
 first
  | exact wpAny_pure (wpAny_bind fin)
  | exact wpAny_bind (wpAny_pure (wpAny_bind fin))
  | exact wpAny_bind fin
theorem zhe {X:Cx} {pins:List (Addr×Obj)} {σ:St} {H:Hp} {s:Shared} {a:Addr} {y:V} {o:Option V} (I:Inv X pins σ H s) (g:DGet H a y o):s.TypeIs (.ref a) "dict":=by
 rcases g with ⟨kvs,k,e,_,_⟩ | ⟨kvs,k,b,e,_,_,_⟩
 ·obtain ⟨_,_,vs,_,dd⟩:=zjy I.hok e;exact dd.typeIs
 ·obtain ⟨_,_,xs,_,dd⟩:=zjz I.hok e;exact dd.typeIs
def zm4 (td ty:TE):TE:=fun σ H Q=>td σ H fun x H1=>ty σ H1 fun y H2=>∃ a v,x=.ref a∧DGet H2 a y (some v)∧Q v H2
def tDIn (ty td:TE):TE:=fun σ H Q=>ty σ H fun y H1=>td σ H1 fun x H2=>∃ a o,x=.ref a∧DGet H2 a y o∧Q (.bl o.isSome) H2
def zjD (ty td:TE):TE:=fun σ H Q=>ty σ H fun y H1=>td σ H1 fun x H2=>∃ a o,x=.ref a∧DGet H2 a y o∧Q (.bl (!o.isSome)) H2
def zm5 (td ty tv:TE):TS:=fun D σ H=>tv σ H fun v H1=>td σ H1 fun x H2=>ty σ H2 fun y H3=>∃ a H4,x=.ref a∧DPut H3 a y v H4∧D.nx σ H4
section
variable {X:Cx} {o i e value:Expr} {pos pos' tpos:Pos} {td ty tv:TE}
theorem zl8 (hu:X.A.units+1 < cLine) (ho:PE X o td) (hi:PE X i ty) (hs:NoSl i):PE X (.Subscript o i pos) (zm4 td ty):=by
 intro pins s σ H Q I h;refine zl7 PySem.F.slot_dict_getitem.lookup hs (thn (ho pins s σ H _ I h) fun u s1 ⟨x,H1,I1,rx,q1⟩=>thn (hi pins s1 σ H1 _ I1 q1) fun iv s2 ⟨y,H2,I2,ry,a,v,ex,g,q2⟩=>?_);subst ex;obtain rfl:u=Value.ref a:=rx;exact ⟨zhe I2 g,zjA hu I2 g ry fun w' s3 I3 rw'=>⟨v,H2,I3,rw',q2⟩⟩
theorem zm6 (hu:X.A.units+1 < cLine) (hi:PE X i ty) (ho:PE X o td):PC X .In i o (tDIn ty td):=by
 intro pins s σ H Q I h;refine thn (hi pins s σ H _ I h) fun iv s1 ⟨y,H1,I1,ry,q1⟩=>thn (ho pins s1 σ H1 _ I1 q1) fun u s2 ⟨x,H2,I2,rx,a,ov,ex,g,q2⟩=>?_;subst ex;obtain rfl:u=Value.ref a:=rx;exact d_in hu I2 g ry fun s3 I3=>⟨.bl ov.isSome,H2,I3,rfl,q2⟩
theorem zjE (hu:X.A.units+1 < cLine) (hi:PE X i ty) (ho:PE X o td):PC X .NotIn i o (zjD ty td):=by
 intro pins s σ H Q I h;refine thn (hi pins s σ H _ I h) fun iv s1 ⟨y,H1,I1,ry,q1⟩=>thn (ho pins s1 σ H1 _ I1 q1) fun u s2 ⟨x,H2,I2,rx,a,ov,ex,g,q2⟩=>?_;subst ex;obtain rfl:u=Value.ref a:=rx;exact zl6 hu I2 g ry fun s3 I3=>⟨.bl (!ov.isSome),H2,I3,rfl,q2⟩
theorem zjF (hu:X.A.units+1 < cLine) (ho:PE X o td) (hi:PE X i ty) (hv:PE X value tv) (hs:swapsWith value (some (.Subscript o i pos')) pos.line X.env=pure false) :
  PS X (.Assign [.Subscript o i pos'] value pos) (zm5 td ty tv):=by
 intro pins s σ H D I h;refine wpAny_Assign_Subscript (thn (hv pins s σ H _ I h) fun r s1 ⟨v,H1,I1,rv,q1⟩=>thn (ho pins s1 σ H1 _ I1 q1) fun u s2 ⟨x,H2,I2,rx,q2⟩=>thn (hi pins s2 σ H2 _ I2 q2) fun iv s3 ⟨y,H3,I3,ry,a,H4,ex,g,q3⟩=>?_) hs;subst ex;obtain rfl:u=Value.ref a:=rx;exact zjC hu I3 g ry rv fun s4 I4=>⟨σ,H4,I4,q3⟩
end
theorem zkN {P:Program} {w:World} {H:Hp} (h:Heap) (hb:sysModules < h.objs.size):zbR P w H (h.push { cls:=.type "dict",data:=.dict #[] }) h.objs.size (.dK []) :=
 ⟨Nat.zero_le _,beq_eq_false_iff_ne.mpr (Ne.symm (Nat.ne_of_lt hb)),[],.nil,Heap.DictOf.new h⟩
def tDNewK:TE:=fun _ H Q=>∀ p,H p=none→Q (.ref p) (upd H p (.dK []))
section
variable {X:Cx} {pos:Pos}
theorem pe_dnewK:PE X (.Dict [] [] pos) tDNewK:=fun pins s σ H Q I h =>
 wpAny_Dict_empty ⟨.ref s.heap.objs.size,_,I.laid (a:=s.heap.objs.size) (o:=.dK []) (t':=s.toks) (fun _ _ q=>Heap.get?_push_of_some _ q) (Nat.le_refl _) (zkN s.heap I.big),rfl,h _ (I.hok.fresh (Nat.le_refl _))⟩
end
end L2
namespace L2
open PySem PySem.Spec PyProof.Rows
section
variable {prog:Program} {w:World} {A:Around} {R:Result -> Shared -> Prop} {s:Shared}
theorem zgs {elt target iter:Expr} {ifs:List Expr} {scope:Scope} {pos:Pos} {it acc:Value} {env:Env} (I:Nat→Shared→Prop)
  (turn:∀ n s,I n s→wpAny (model prog w) A (pyNext it) (fun r s1=>match r with
   | none=>R (.ok .next) s1
   | some v=>wpAny (model prog w) A (letOwnedTupleGo target it v) (fun _ s1'=>wpAny (model prog w) A (assign target env v) (fun _ s2 =>
      wpAny (model prog w) A (forIn ifs true fun c r=>if r=true then do let ok ← isTrue c env (eval c env);pure (ForInStep.yield ok) else pure (ForInStep.yield r)) (fun ok s3 =>
       if ok=true then wpAny (model prog w) A (eval elt env) (fun x s4 =>
        wpAny (model prog w) A (call (.builtin "list.append") [acc,x]) (fun _ s5=>∃ m,m < n∧I m s5) (fun _ _=>False) s4) (fun _ _=>False) s3
       else ∃ m,m < n∧I m s3) (fun _ _=>False) s2) (fun _ _=>False) s1') (fun _ _=>False) s1) (fun _ _=>False) s)
  (n:Nat) (h:I n s) :
  codeAny (model prog w) A (.compLoop (.ListComp elt [⟨target,iter,ifs,0⟩] scope pos) 0 it acc env) R s:=by
 refine codeAny_loop rfl I (fun n s hI=>?_) n h;show wpAny _ A ((compTurn (.ListComp elt [⟨target,iter,ifs,0⟩] scope pos) 0 it acc env).onRaise (fun x=>do noteFrame x env;theTreesLotGoes x)) _ _ s;refine wpAny_noted ?_;rw [compTurn_list];refine wpAny_bind (wpAny_standAt (wpAny_bind (wpAny_mono (turn n s hI) (fun r s1 h1=>?_) fun _ _ z=>z.elim)))
 cases r with
 | none=>exact wpAny_pure h1
 | some v =>
   refine wpAny_bind (wpAny_mono h1 (fun _ s1' h1'=>?_) fun _ _ z=>z.elim);refine wpAny_bind (wpAny_mono h1' (fun _ s2 h2=>wpAny_bind (wpAny_mono h2 (fun ok s3 h3=>?_) fun _ _ z=>z.elim)) fun _ _ z=>z.elim)
   cases ok with
   | false=>exact wpAny_pure ⟨rfl,h3⟩
   | true =>
     exact wpAny_bind (wpAny_bind (wpAny_mono h3 (fun x s4 h4=>wpAny_bind (wpAny_mono h4 (fun _ s5 h5=>wpAny_pure (wpAny_pure ⟨rfl,h5⟩)) fun _ _ z=>z.elim)) fun _ _ z=>z.elim))
end
def PTs (X:Cx) (ifs:List Expr) (t:TT):Prop :=
 ∀ (pins:List (Addr×Obj)) (s:Shared) (σ:St) (H:Hp) (Q:Bool→Hp→Prop),Inv X pins σ H s→t σ H Q →
  wpAny (model X.prog X.w) X.A (forIn ifs true fun c r=>if r=true then do let ok ← isTrue c X.env (eval c X.env);pure (ForInStep.yield ok) else pure (ForInStep.yield r)) (TP X pins σ Q) X.xe s
def tTT:TT:=fun _ H Q=>Q true H
theorem zbx {X:Cx}:PTs X [] tTT:=fun pins s σ H Q I h=>wpAny_tests_nil ⟨H,I,h⟩
theorem zb5 {X:Cx} {c:Expr} {t:TT} (h:PT X c t):PTs X [c] t:=fun pins s σ H Q I q=>wpAny_tests_one (h pins s σ H Q I q)
def Cx.comp (X:Cx) (scope:Scope) (cl:List (Str×Addr)) (C:Addr) (N:List Str) (s:Shared) (H:Hp) (fp:List Addr):Cx where
 prog:=X.prog
 w:=X.w
 K:=X.K
 mg:=X.mg
 base:=X.base
 A:=X.A
 N:=N
 s₀:=s
 H₀:=H
 env:=compEnvC scope cl C X.env
 outer:=X.stack
 stack:=X.stack
 ex:=fp
 fn:=fun _=>false
 calm:=X.calm
 pn:=[]
 xe:=fun _ _=>False
def zbB (names:List (Str×NameKind)) (env:Env) (acc:List (Str×Addr)):List (Str×Addr) :=
 names.foldl (fun cs x=>if x.2 == .free then match env.cells.lookup x.1 with | some c=>(x.1,c)::cs | none=>cs else cs) acc
theorem zdO {scope:Scope} {env:Env} (h:∀ x∈scope.names,x.2=.free→∃ c,env.cells.lookup x.1=some c):closureFor scope env=pure (zbB scope.names env []):=by
 have go:∀ (names:List (Str×NameKind)) (acc:List (Str×Addr)),(∀ x∈names,x.2=.free→∃ c,env.cells.lookup x.1=some c) →
   (forIn (m:=Sem) names acc fun x r=>if (x.2 == NameKind.free)=true then do let y ← cellOf env x.1;pure (ForInStep.yield ((x.1,y)::r)) else pure (ForInStep.yield r))=pure (zbB names env acc):=by
  intro names
  induction names with
  | nil=>intro acc _;rfl
  | cons x r ih =>
    intro acc hx;obtain ⟨n,k⟩:=x;rw [List.forIn_cons];have ihr:=fun acc=>ih acc fun y hy=>hx y (List.mem_cons_of_mem _ hy)
    by_cases hk:k=.free
    ·subst hk;obtain ⟨c,hc⟩:=hx (n,.free) List.mem_cons_self rfl;have e:cellOf env n=pure c:=by unfold cellOf;rw [show env.cells.lookup n=some c from hc]
     have e2:zbB ((n,NameKind.free)::r) env acc=zbB r env ((n,c)::acc):=by
      unfold zbB;rw [List.foldl_cons];simp only [beq_self_eq_true,if_true];rw [show env.cells.lookup n=some c from hc]
     rw [e2,← ihr];simp only [beq_self_eq_true,if_true,e,pure_bind]
    ·have hb:(k == NameKind.free)=false:=by simpa using hk
     have e2:zbB ((n,k)::r) env acc=zbB r env acc:=by
      unfold zbB;rw [List.foldl_cons];simp only [hb,Bool.false_eq_true,if_false]
     rw [e2,← ihr];simp only [hb,Bool.false_eq_true,if_false,pure_bind]
 unfold closureFor;have:=go scope.names [] h;simp only [pure_bind,bind_pure] at this ⊢;exact this
theorem zfC {env:Env}:∀ (names:List (Str×NameKind)) (acc:List (Str×Addr)),(∀ x c,acc.lookup x=some c→env.cells.lookup x=some c)→∀ x c,(zbB names env acc).lookup x=some c→env.cells.lookup x=some c:=by
 intro names
 induction names with
 | nil=>intro acc h x c e;exact h x c e
 | cons y r ih =>
   intro acc h x c e;unfold zbB at e;rw [List.foldl_cons] at e;refine ih _ ?_ x c e;intro z d hz
   by_cases hk:(y.2 == NameKind.free)=true
   ·rw [if_pos hk] at hz
    cases hc:env.cells.lookup y.1 with
    | none=>rw [hc] at hz;exact h z d hz
    | some a =>
      rw [hc] at hz;simp only [List.lookup_cons] at hz
      by_cases hzy:(z == y.1)=true
      ·rw [hzy] at hz;have:z=y.1:=by simpa using hzy
       rw [this,hc];exact hz
      ·have:(z == y.1)=false:=by simpa using hzy
       rw [this] at hz;exact h z d hz
   ·rw [if_neg hk] at hz;exact h z d hz
theorem zfD {env:Env}:∀ (names:List (Str×NameKind)) (acc:List (Str×Addr)) (x:Str),((∃ c,acc.lookup x=some c)∨((x,NameKind.free)∈names∧∃ c,env.cells.lookup x=some c))→∃ c,(zbB names env acc).lookup x=some c:=by
 intro names
 induction names with
 | nil=>intro acc x h;rcases h with h | h;exact h;exact absurd h.1 (by simp)
 | cons y r ih =>
   intro acc x h;unfold zbB;rw [List.foldl_cons];refine ih _ x ?_
   by_cases hk:(y.2 == NameKind.free)=true
   ·rw [if_pos hk]
    cases hc:env.cells.lookup y.1 with
    | none =>
      rcases h with h | ⟨h,h2⟩
      ·exact .inl h
      ·rcases List.mem_cons.mp h with e | e
       ·subst e;rw [hc] at h2;obtain ⟨_,h2⟩:=h2;cases h2
       ·exact .inr ⟨e,h2⟩
    | some a =>
      simp only [List.lookup_cons]
      by_cases hzy:(x == y.1)=true
      ·exact .inl ⟨a,by rw [hzy]⟩
      ·have hf:(x == y.1)=false:=by simpa using hzy
       rw [hf];rcases h with h | ⟨h,h2⟩
       ·exact .inl h
       ·rcases List.mem_cons.mp h with e | e
        ·subst e;simp at hf
        ·exact .inr ⟨e,h2⟩
   ·rw [if_neg hk];rcases h with h | ⟨h,h2⟩
    ·exact .inl h
    ·rcases List.mem_cons.mp h with e | e
     ·subst e;simp at hk
     ·exact .inr ⟨e,h2⟩
def capS (own:Nat) (js:List Nat) (σ:St):St:=List.replicate own none++js.map fun j=>(σ[j]?).getD none
def zhf (wi:TI) (own:Nat) (js:List Nat) (g:TG) (tc:TT) (te:TE):TE:=fun σ H Q=>wi σ H fun J H1=>∀ p,H1 p=none →
 ∃ W:Nat→Nat→St→Hp→Prop,(∃ m,W 0 m (capS own js σ) (upd H1 p (.lst [])))∧∀ i m σc H,W i m σc H →
  (J.stop i H∧Q (.ref p) H)∨(J.go i H∧∃ N:St→Hp→Prop,(∀ σ' H',N σ' H'→∃ m',m' < m∧W (i+1) m' σ' H')∧∀ x H',J.yld i H x H' →
   g x σc H' fun σ2 H2=>tc σ2 H2 fun b H3=>if b=true then te σ2 H3 fun v H4=>∃ ys,H4 p=some (.lst ys)∧ys.length < sizeLine∧N σ2 (upd H4 p (.lst (ys++[v]))) else N σ2 H3)
structure zcZ (X:Cx) (scope:Scope) (N:List Str) (own:Nat) (js:List Nat):Prop where
 kind:scope.kind=.function
 nocell:∀ y∈scope.names,y.2≠.cell
 nodup:∀ y∈scope.names,y.2=.local→scope.names.lookup y.1=some .local
 free:∀ y∈scope.names,y.2=.free→X.env.kindOf y.1=some .cell∨X.env.kindOf y.1=some .free
 len:N.length=own+js.length
 cap:∀ (i:Nat) (j:Nat),js[i]? = some j→N[own+i]? = X.N[j]?∧∀ x,X.N[j]? = some x→scope.names.lookup x=some .free∧Vis X.env.scope x∧X.env.kindOf x≠some .local
section
variable {X:Cx} {tg elt iter:Expr} {ifs:List Expr} {scope:Scope} {pos:Pos} {N:List Str} {own:Nat} {js:List Nat} {wi:TI} {g:TG} {tc:TT} {te:TE}
theorem zcf {env:Env} {names:List (Str×NameKind)} {x:Str} {k:NameKind} (hk:k=.cell∨k=.free) (hnc:∀ y∈names,y.2≠.cell)
  (h:(names.map fun (n,k)=>if (k == NameKind.free && env.scope.kind == .function && env.kindOf n == some .cell) then (n,NameKind.cell) else (n,k)).lookup x=some k):(x,NameKind.free)∈names:=by
 have:=PySem.mem_of_lookup h;obtain ⟨⟨n,k'⟩,hm,e⟩:=List.mem_map.mp this;dsimp only at e;split at e
 ·rename_i hc
  cases e
  have:k'=.free:=by
   simp only [Bool.and_eq_true,beq_iff_eq] at hc;exact hc.1.1
  rw [← this];exact hm
 ·cases e
  rcases hk with rfl | rfl
  ·exact absurd rfl (hnc _ hm)
  ·exact hm
theorem zbT {env:Env}:∀ {names:List (Str×NameKind)} {x:Str},names.lookup x=some .free →
  (names.map fun (n,k)=>if (k == NameKind.free && env.scope.kind == .function && env.kindOf n == some .cell) then (n,NameKind.cell) else (n,k)).lookup x=some .local→False
 | [],_,h,_=>by simp at h
 | (n,k)::r,x,h,h'=>by
  have ih:=@zbT env r x
  cases hx:x == n with
  | true =>
    simp only [List.lookup_cons,hx] at h
    cases h
    rw [List.map_cons] at h';dsimp only at h';split at h' <;> simp [List.lookup_cons,hx] at h'
  | false =>
    simp only [List.lookup_cons,hx] at h;rw [List.map_cons] at h';dsimp only at h';split at h' <;> simp only [List.lookup_cons,hx] at h' <;> exact ih h h'
theorem zkO {pins:List (Addr×Obj)} {σ:St} {H:Hp} {s:Shared} {fp:List Addr} {h1:Heap} (S:zcZ X scope N own js) (I:Inv X pins σ H s) (hf:∀ b∈fp,FpOk X pins H b) (hfo:∀ b∈fp,b < s.heap.objs.size)
  (C p:Addr) (hp:p=s.heap.objs.size) (hC:C=s.heap.objs.size+1) (hns:h1.Ns C fun _=>none) (hkeep:∀ b o,s.heap.get? b=some o→h1.get? b=some o)
  (hacc:h1.get? p=some { cls:=.type "list",data:=.seq #[] 0 }) (tk:Nat) :
  Inv (X.comp scope (zbB scope.names X.env []) C N s H fp) [] (capS own js σ) (upd H p (.lst [])) { s with heap:=h1,toks:=tk }:=by
 have sub:=zfC (env:=X.env) scope.names [] (fun x c e=>by simp at e);have hHp:H p=none:=I.hok.fresh (by rw [hp];exact Nat.le_refl _);have hHC:H C=none:=I.hok.fresh (by rw [hC];exact Nat.le_succ _);have hpC:C≠p:=by rw [hp,hC];exact Nat.succ_ne_self _
 have cellLt:∀ x c,X.env.cells.lookup x=some c→c < s.heap.objs.size:=fun x c e=>by
  obtain ⟨v,q⟩:=I.cell x c e;exact q.lt
 have nop:∀ q:Addr×Obj,q∉(X.comp scope (zbB scope.names X.env []) C N s H fp).pn++([]:List (Addr×Obj)):=fun q z=>absurd (show q∈([]:List (Addr×Obj)) from z) (by simp);refine ⟨⟨I.ok.mod,S.kind,I.ok.glob,I.ok.blt,by rw [show (X.comp scope (zbB scope.names X.env []) C N s H fp).env.locals=C from rfl,hC];exact Nat.le_succ _,?_,?_,fun y c z=>absurd (show false=true from z) (by decide),I.ok.hd,I.ok.frames,.inl rfl,?_,fun b o e=>I.bs b o e,Nat.le_trans I.ok.bsz I.sz,?_,?_,I.stack,I.stkFree⟩,
  rfl,I.bare,Un.laid hkeep (by rw [hp];exact Nat.le_refl _) hHp,⟨_,hns,?_⟩,?_,?_,?_,fun q hq=>absurd hq (nop q),?_,?_⟩
 ·intro x y c e1 e2;exact I.ok.inj x y c (sub x c e1) (sub y c e2)
 ·intro x hx;have hm:(x,NameKind.free)∈scope.names:=by
   rcases hx with hx | hx
   ·exact zcf (.inl rfl) S.nocell hx
   ·exact zcf (.inr rfl) S.nocell hx
  exact zfD scope.names [] x (.inr ⟨hm,I.ok.has x (S.free _ hm rfl)⟩)
 ·intro b hb;obtain ⟨f0,f1,f2,f3,f4,f5⟩:=hf b hb;refine ⟨fun e=>?_,fun x c e=>f4 x c (sub x c e)⟩;have e':b=C:=e;have:=hfo b hb;rw [e',hC] at this;exact absurd this (Nat.not_lt.mpr (Nat.le_succ _))
 ·intro b o e hb;obtain ⟨f0,f1,f2,f3,f4,f5⟩:=hf b hb;rcases f3 with z | z
  ·exact I.ok.noex b o e z
  ·exact absurd (Nat.lt_of_lt_of_le (Heap.lt_size (I.ok.bs b o e).1) z) (Nat.lt_irrefl _)
 ·intro b hb z;obtain ⟨f0,f1,f2,f3,f4,f5⟩:=hf b hb;rcases List.mem_cons.mp (I.stkSub b z) with e | e
  ·exact f1 e
  ·exact f2 e
 ·intro i x v h1' h2 h3;have hlen:(capS own js σ).length=own+js.length:=by simp [capS]
  have hio:own≤i:=by
   by_cases hi:i < own
   ·unfold capS at h2;rw [List.getElem?_append_left (by simpa using hi),List.getElem?_replicate,if_pos hi] at h2
    cases h2
   ·omega
  obtain ⟨k,rfl⟩:∃ k,i=own+k:=⟨i-own,by omega⟩
  have e1:(js.map fun j=>(σ[j]?).getD none)[k]? = some (some v):=by
   unfold capS at h2;rw [List.getElem?_append_right (by simp)] at h2;simpa using h2
  rw [List.getElem?_map] at e1
  cases ej:js[k]? with
  | none=>rw [ej] at e1;cases e1
  | some j =>
    rw [ej] at e1;have e2:(σ[j]?).getD none=some v:=Option.some.inj e1;have e3:σ[j]? = some (some v):=by
     cases q:σ[j]? with
     | none=>rw [q] at e2;cases e2
     | some z=>rw [q] at e2;exact congrArg some e2
    obtain ⟨c1,c2⟩:=S.cap k j ej;have hN:X.N[j]? = some x:=by rw [← c1];exact h1'
    obtain ⟨d1,d2,d3⟩:=c2 x hN;obtain ⟨m,_,hl⟩:=I.loc;obtain ⟨u,r,l⟩:=hl j x v hN e3 d2;refine ⟨u,r,?_⟩;rcases l with ⟨l,_⟩ | ⟨_,c,ec,o,ho,hd⟩
    ·exact absurd l d3
    ·obtain ⟨c',hc'⟩:=zfD (env:=X.env) scope.names [] x (.inr ⟨PySem.mem_of_lookup d1,c,ec⟩);have e4:=sub x c' hc';rw [ec] at e4
     cases e4
     refine .inr ⟨?_,c,hc',o,hkeep c o ho,hd⟩;rcases h3 with z | z | z
     ·exact (zbT d1 z).elim
     ·exact .inl z
     ·exact .inr z
 ·intro x c e;obtain ⟨v,o,ho,hd⟩:=I.cell x c (sub x c e);exact ⟨v,o,hkeep c o ho,hd⟩
 ·rw [show (X.comp scope (zbB scope.names X.env []) C N s H fp).env.locals=C from rfl,zaR hpC];exact hHC
 ·intro x c e;rw [zaR (by rw [hp];exact Nat.ne_of_lt (cellLt x c (sub x c e)))];exact I.freeC x c (sub x c e)
 ·exact I.hok.laid hkeep (by rw [hp];exact Nat.le_refl _) ⟨Nat.zero_le _,[],0,.nil,hacc⟩
 ·show (capS own js σ).length=N.length;rw [S.len];simp [capS]
theorem zfE {pins:List (Addr×Obj)} {σ:St} {H:Hp} {s:Shared} {E:Value→Shared→Prop} {it:Addr} {fp:List Addr} {tn:Nat→Heap→Prop} {J:It} {Q:VK} {RR:Value→Addr→Result→Shared→Prop}
  (S:zcZ X scope N own js) (hc:X.calm=true) (I:Inv X pins σ H s) (T:Turn X.prog X.w X.K tg J fp it tn) (st:tn 0 s.heap) (hf:∀ b∈fp,FpOk X pins H b)
  (hg:∀ cl C s H fp,PG (X.comp scope cl C N s H fp) tg g) (hts:∀ cl C s H fp,PTs (X.comp scope cl C N s H fp) ifs tc) (he:∀ cl C s H fp,PE (X.comp scope cl C N s H fp) elt te)
  (hq:∀ p,H p=none→∃ W:Nat→Nat→St→Hp→Prop,(∃ m,W 0 m (capS own js σ) (upd H p (.lst [])))∧∀ i m σc H,W i m σc H →
   (J.stop i H∧Q (.ref p) H)∨(J.go i H∧∃ N:St→Hp→Prop,(∀ σ' H',N σ' H'→∃ m',m' < m∧W (i+1) m' σ' H')∧∀ x H',J.yld i H x H' →
    g x σc H' fun σ2 H2=>tc σ2 H2 fun b H3=>if b=true then te σ2 H3 fun v H4=>∃ ys,H4 p=some (.lst ys)∧ys.length < sizeLine∧N σ2 (upd H4 p (.lst (ys++[v]))) else N σ2 H3))
  (hRR:∀ p C s' H' m,C=s.heap.objs.size+1→s'.heap.Ns C m→Inv X pins σ H' s'→H' C=none→Q (.ref p) H'→RR (.ref p) C (.ok .next) s') :
  wpAny (model X.prog X.w) X.A (newList []) (fun acc s3=>wpAny (model X.prog X.w) X.A (newFunctionEnv scope X.env.globals (zbB scope.names X.env []) [] X.env.qual none .none (some X.env)) (fun cenv s4 =>
   codeAny (model X.prog X.w) X.A (.compStart (.ListComp elt [⟨tg,iter,ifs,0⟩] scope pos) 0 (.ref it) acc { cenv with scope:=relabel scope X.env }) (RR acc cenv.locals) s4) E s3) E s:=by
 refine wpAny_newObj_type (wpAny_newFunctionEnv S.nocell (by intro y hy;simp at hy) (fun h1 hns1 hsb1=>?_) S.kind);dsimp only at hns1 hsb1 ⊢;generalize hH2:s.heap.push { cls:=.type "list",dict:=none,data:=.seq ([]:List Value).toArray }=H2 at hns1 hsb1 ⊢;have hC:H2.objs.size=s.heap.objs.size+1:=by rw [← hH2,Heap.size_push]
 have old:∀ b o,s.heap.get? b=some o→h1.get? b=some o:=fun b o e=>hsb1.extBut b o (by rw [hC];exact Nat.ne_of_lt (Nat.lt_succ_of_lt (Heap.lt_size e))) (Heap.get?_push_of_some _ (hH2▸Heap.get?_push_of_some _ e));have hacc:h1.get? s.heap.objs.size=some { cls:=.type "list",data:=.seq #[] 0 }:=hsb1.extBut _ _ (by rw [hC];exact Nat.ne_of_lt (Nat.lt_succ_self _)) (Heap.get?_push_of_some _ (hH2▸Heap.get?_push_size _ rfl));have hfo:∀ b∈fp,b < s.heap.objs.size:=fun b hb=>by
  obtain ⟨o,e,_⟩:=T.obj 0 _ st b hb;exact Heap.lt_size e
 have st1:tn 0 h1:=T.keep _ _ _ st fun b _ o e=>old b o e;have I0:=zkO (fp:=fp) S I hf hfo H2.objs.size s.heap.objs.size rfl hC hns1 old hacc (s.toks+([]:List (Str×Value)).length);have hHp:H s.heap.objs.size=none:=I.hok.fresh (Nat.le_refl _);obtain ⟨W,⟨m0,w0⟩,turn⟩:=hq _ hHp;generalize hX:X.comp scope (zbB scope.names X.env []) H2.objs.size N s H fp=Y at I0;have eY:(Y.prog=X.prog∧Y.w=X.w∧Y.K=X.K∧Y.calm=true∧Y.A=X.A)∧Y.env=compEnvC scope (zbB scope.names X.env []) H2.objs.size X.env∧Y.fs=frs X.stack∧Y.ex=fp∧Y.s₀=s∧Y.H₀=H∧Y.pn=[]:=by
  subst hX;exact ⟨⟨rfl,rfl,rfl,hc,rfl⟩,rfl,rfl,rfl,rfl,rfl,rfl⟩
 have hgY:PG Y tg g:=by subst hX;exact hg _ _ _ _ _
 have htY:PTs Y ifs tc:=by subst hX;exact hts _ _ _ _ _
 have heY:PE Y elt te:=by subst hX;exact he _ _ _ _ _
 have hxe:Y.xe=fun _ _=>False:=by subst hX;rfl
 obtain ⟨⟨e1,e2,e3,e4,e5⟩,e6,e7,e8,e9,e10,e11⟩:=eY;have sub:=zfC (env:=X.env) scope.names [] (fun x c e=>by simp at e);have stat:∀ {H':Hp},(∀ b∈fp,H' b=none)→∀ b∈fp,FpOk Y [] H' b:=fun {H'} hn b hb=>by
  refine ⟨hn b hb,?_,?_,.inl (by rw [e8];exact hb),?_,?_⟩
  ·rw [e6];show b≠H2.objs.size;rw [hC];exact Nat.ne_of_lt (Nat.lt_succ_of_lt (hfo b hb))
  ·rw [e7];intro z;rcases List.mem_cons.mp (I.stkSub b z) with e | e
   ·exact (hf b hb).2.1 e
   ·exact (hf b hb).2.2.1 e
  ·intro x c e;rw [e6] at e;exact (hf b hb).2.2.2.2.1 x c (sub x c e)
  ·intro q hq;rw [e11] at hq;exact absurd hq (by simp)
 have noT:∀ b∈fp,b≠s.heap.objs.size:=fun b hb=>Nat.ne_of_lt (hfo b hb);have loop:∀ s3:Shared,s3={ s with heap:=h1,toks:=s.toks+([]:List (Str×Value)).length } →
   codeAny (model X.prog X.w) X.A (.compLoop (.ListComp elt [⟨tg,iter,ifs,0⟩] scope pos) 0 (.ref it) (.ref s.heap.objs.size) (compEnvC scope (zbB scope.names X.env []) H2.objs.size X.env))
    (RR (.ref s.heap.objs.size) H2.objs.size) s3:=by
  rintro s3 rfl;rw [← e1,← e2,← e5,← e6];refine zgs (fun n s'=>∃ i σ' H',Inv Y [] σ' H' s'∧tn i s'.heap∧(∀ b∈fp,H' b=none)∧W i n σ' H') ?_ m0 ⟨0,_,_,I0,st1,fun b hb=>by rw [zaR (noT b hb)];exact (hf b hb).1,w0⟩;rintro n s3 ⟨i,σ3,H3,I3,st3,fr3,w3⟩;rcases turn i n σ3 H3 w3 with ⟨stop,qn⟩ | ⟨go,N',hN,step⟩
  ·have tt:=T.done Y e1 e2 e3 e4 i [] s3 σ3 H3 (fun _ _=>False) I3 (stat fr3) st3 stop;rw [← e1,← e2] at tt;refine thn tt fun r s4 ⟨hr,I4⟩=>?_;subst hr;obtain ⟨m,hn4,_⟩:=I4.loc;have hl:Y.env.locals=H2.objs.size:=by rw [e6];rfl
   have u:=I4.base;rw [e7,e8,e9,e10] at u;refine hRR _ _ s4 H3 m hC (by rw [← hl];exact hn4) ?_ (by rw [← hl];exact I4.free) qn;refine I.call' (by rw [I4.os,e9]) u (by rw [← e1,← e2];exact I4.hok) I4.bare fun b hb=>?_;obtain ⟨f0,f1,f2,f3,f4,f5⟩:=hf b hb;exact ⟨f3,f1,f4,f5⟩
  ·have tt:=T.item Y e1 e2 e3 e4 i [] s3 σ3 H3 (fun _ _=>False) I3 (stat fr3) st3 go;rw [← e1,← e2] at tt;refine thn tt fun r s4 ⟨u,hr,h4⟩=>?_;subst hr;refine thn h4 fun _ s5 ⟨x,H5,I5,r5,y5,st5,fr5⟩=>?_;have I5':=I5.pinned (stat fr5) (T.obj _ _ st5);have a6:=hgY _ s5 σ3 H5 x u _ I5' r5 (step x H5 y5);rw [hxe] at a6;refine thn a6 fun _ s6 ⟨σ6,H6,I6,q6⟩=>?_;have a7:=htY _ s6 σ6 H6 _ I6 q6;rw [hxe] at a7;refine thn a7 fun ok s7 ⟨H7,I7,q7⟩=>?_;have again:∀ {H8:Hp} {s8:Shared},Inv Y ([]++zgh fp s5.heap) σ6 H8 s8→N' σ6 H8→∃ m,m < n∧∃ i σ' H',Inv Y [] σ' H' s8∧tn i s8.heap∧(∀ b∈fp,H' b=none)∧W i m σ' H':=fun {H8 s8} I8 n8=>by
    obtain ⟨m',hm,w8⟩:=hN σ6 H8 n8;refine ⟨m',hm,i+1,σ6,H8,I8.unpinned,T.keep _ _ _ st5 fun b hb o e=>(I8.pin (b,o) (List.mem_append_right _ (List.mem_append_right _ (zdh hb e)))).1,fun b hb=>?_,w8⟩;obtain ⟨o,e,d⟩:=T.obj _ _ st5 b hb;exact (I8.pin (b,o) (List.mem_append_right _ (List.mem_append_right _ (zdh hb e)))).2.1
   cases ok with
   | false =>
     rw [if_neg Bool.false_ne_true] at q7 ⊢;exact again I7 q7
   | true =>
     rw [if_pos rfl] at q7 ⊢;have a8:=heY _ s7 σ6 H7 _ I7 q7;rw [hxe] at a8;refine thn a8 fun y s8 ⟨v,H8,I8,r8,ys,q8,hz8,n8⟩=>?_;have a9:=mt_append (X:=Y) _ s8 σ6 H8 (.ref s.heap.objs.size) [v] (.ref s.heap.objs.size) [y] (fun _ H'=>N' σ6 H') I8 rfl (.cons r8 .nil) ⟨_,ys,v,rfl,rfl,q8,hz8,n8⟩;rw [hxe] at a9;refine thn a9 fun _ s9 ⟨_,H9,I9,_,n9⟩=>?_;exact again I9 n9
 exact codeAny_compStart_list (loop _ rfl) (T.self _ 0 _ _ _ st1 (loop _ rfl))
theorem ziz {pins:List (Addr×Obj)} {σ:St} {H H':Hp} {s s':Shared} {h':Heap} {C:Addr} (I:Inv X pins σ H s) (hC:C=s.heap.objs.size+1) (I':Inv X pins σ H' s') (hn:H' C=none) (hs:Heap.SameBut C s'.heap h'):Inv X pins σ H' { s' with heap:=h' }:=by
 have hlt:∀ b:Addr,b < s.heap.objs.size→b≠C:=fun b hb=>by rw [hC];exact Nat.ne_of_lt (Nat.lt_succ_of_lt hb)
 refine I'.turned (it:=C) (t':=s'.toks) (fun b o hb e=>(hs.2 b hb).trans e) hn ?_ (.inr ?_) ?_ ?_
 ·exact (hlt _ I.lt).symm
 ·rw [hC];exact Nat.le_succ_of_le I.sz
 ·intro x c e;obtain ⟨v,q⟩:=I.cell x c e;exact hlt _ q.lt
 ·intro p hp;exact hlt _ (Heap.lt_size (I.pin p hp).1)
theorem za7 (S:zcZ X scope N own js) (hc:X.calm=true) (hi:PI X tg iter wi)
  (hg:∀ cl C s H fp,PG (X.comp scope cl C N s H fp) tg g) (hts:∀ cl C s H fp,PTs (X.comp scope cl C N s H fp) ifs tc) (he:∀ cl C s H fp,PE (X.comp scope cl C N s H fp) elt te)
  (hs:∀ x,foldedSetIterable iter X.env x=pure x:=by intro _;rfl):PE X (.ListComp elt [⟨tg,iter,ifs,0⟩] scope pos) (zhf wi own js g tc te):=by
 intro pins s σ H Q I h;rw [eval_ListComp];refine wpAny_comprehension_free (use:=none) rfl hs (zdO fun x hx hk=>I.ok.has x.1 (S.free x hx hk)) S.kind S.nodup (thn (hi pins s σ H _ I h) fun v s1 h1=>thn h1 fun itv s2 h2=>?_);obtain ⟨it,fp,tn,J,H2,e,I2,T,st2,f2,q⟩:=h2;subst e;refine zfE (RR:=fun acc C=>compPost (model X.prog X.w) X.A X.xe none (EP X pins σ Q) acc C) S hc I2 T st2 f2 hg hts he q ?_;intro p C s' H' m hC hn I' hH' q';exact ⟨m,hn,fun h' hs'=>⟨.ref p,H',ziz I2 hC I' hH' hs',rfl,q'⟩⟩
theorem zb3 {i:Nat} {y:Str} {py spos:Pos} (hN:X.N.Nodup) (hi':X.N[i]? = some y) (hx:Loc X.env.scope y) (hsw:swapsWith (.ListComp elt [⟨tg,iter,ifs,0⟩] scope pos) (some (.Name y py)) spos.line X.env=pure true)
  (S:zcZ X scope N own js) (hc:X.calm=true) (hi:PI X tg iter wi)
  (hg:∀ cl C s H fp,PG (X.comp scope cl C N s H fp) tg g) (hts:∀ cl C s H fp,PTs (X.comp scope cl C N s H fp) ifs tc) (he:∀ cl C s H fp,PE (X.comp scope cl C N s H fp) elt te)
  (hs:∀ x,foldedSetIterable iter X.env x=pure x:=by intro _;rfl) (hf:X.fn y=true∨X.env.scope.names.lookup y=some .local:=by first | exact .inl rfl | exact .inr rfl | assumption) :
  PS X (.Assign [.Name y py] (.ListComp elt [⟨tg,iter,ifs,0⟩] scope pos) spos) (tAsg (zhf wi own js g tc te) (zcS i)):=by
 intro pins s σ H D I h;rw [exec_Assign_Name_used _ _ _ _ hsw];refine wpAny_bind (wpAny_standAt (wpAny_bind ?_));show wpAny _ X.A (do let _ ← comprehension (.ListComp elt [⟨tg,iter,ifs,0⟩] scope pos) scope X.env _ (newList []) false (eval iter X.env) (some (assign (.Name y py) X.env))) _ _ s;refine wpAny_bind (wpAny_mono (wpAny_comprehension_free (use:=some (assign (.Name y py) X.env)) (Q:=fun _ s'=>SP X pins D .next s') rfl hs (zdO fun x hx hk=>I.ok.has x.1 (S.free x hx hk)) S.kind S.nodup
  (thn (hi pins s σ H _ I h) fun v s1 h1=>thn h1 fun itv s2 h2=>?_)) (fun _ s' hq=>wpAny_pure (wpAny_pure hq)) fun _ _ e=>e)
 obtain ⟨it,fp,tn,J,H2,e,I2,T,st2,f2,q⟩:=h2;subst e;refine zfE (Q:=fun x H1=>zcS i x σ H1 D.nx) (RR:=fun acc C=>compPost (model X.prog X.w) X.A X.xe (some (assign (.Name y py) X.env)) (fun _ s'=>SP X pins D .next s') acc C) S hc I2 T st2 f2 hg hts he q ?_;intro p C s' H' m hC hn I' hH' q';show wpAny _ X.A (assign (.Name y py) X.env (.ref p)) _ _ _;refine wpAny_assign_Name (zgg (v:=.ref p) I' hN hi' hx rfl (fun s'' I'' hsb=>?_) hf);obtain ⟨a,hsb,ha⟩:=hsb;have hlt:∀ b:Addr,b < s2.heap.objs.size→b≠C:=fun b hb=>by rw [hC];exact Nat.ne_of_lt (Nat.lt_succ_of_lt hb)
 have hne:C≠a:=by
  rcases ha with rfl | ha
  ·exact (hlt _ I2.lt).symm
  ·obtain ⟨v,q⟩:=I2.cell y a ha;exact (hlt _ q.lt).symm
 refine ⟨m,hn.sameBut hsb hne,fun h' hs'=>⟨σ.set i (some (.ref p)),H',?_,q'⟩⟩;refine I''.turned (it:=C) (t':=s''.toks) (fun b o hb e=>(hs'.2 b hb).trans e) hH' ?_ (.inr ?_) ?_ ?_
 ·exact (hlt _ I2.lt).symm
 ·rw [hC];exact Nat.le_succ_of_le I2.sz
 ·intro x c e;obtain ⟨v,q⟩:=I2.cell x c e;exact hlt _ q.lt
 ·intro p hp;exact hlt _ (Heap.lt_size (I2.pin p hp).1)
end
end L2
namespace L2
open PySem PySem.Spec PyProof.Rows
theorem zhg {X:Cx}:zdm X (.builtin "isinstance") (fun xs H Q=>∃ x n t b,xs=[x,.ty n]∧TyOf X.K H x t∧PySem.W.kitOne X.K t (.type n)=some b∧Q (.bl b) H):=by
 intro pins s σ H xs us Q I r h;obtain ⟨x,n,t,b,rfl,ty,e,q⟩:=h;obtain ⟨u,v,rfl,r1,r2⟩:=Vals.two r;have e2:v=Value.type n:=r2;subst e2;exact zjr I r1 ty e fun tk=>⟨.bl b,H,I.tok _,rfl,q⟩
section
variable {X:Cx} {K:PySem.W.Frag}
theorem zaf (h:X.K=K):IxR X (rIxL K):=h▸ix_list
theorem zdP (h:X.K=K):SlR X (rSlL K):=h▸sl_list
theorem zm7 (h:X.K=K):OpR X (compareOp .In) (rIn K false):=h▸op_in_seq
theorem zjG (h:X.K=K):OpR X (compareOp .NotIn) (rIn K true):=h▸op_notIn_seq
def cLen (K:PySem.W.Frag):List V→Hp→VK→Prop:=fun xs H Q=>∃ p ys,xs=[.ref p]∧(SqL K H p ys∨SqT K H p ys)∧Q (.int ys.length) H
theorem zai (h:X.K=K):zdm X (.builtin "len") (cLen K):=h▸call_len_seq
def cIsi (K:PySem.W.Frag):List V→Hp→VK→Prop:=fun xs H Q=>∃ x n t b,xs=[x,.ty n]∧TyOf K H x t∧PySem.W.kitOne K t (.type n)=some b∧Q (.bl b) H
theorem zaP (h:X.K=K):zdm X (.builtin "isinstance") (cIsi K):=h▸zhg
theorem zaJ {tg l:Expr} {tl:TE} (h:X.K=K) (hl:PE X l tl):PI X tg l (zkD K tl):=h▸zlR hl
def zlz (K:PySem.W.Frag) (ta:TE):TT:=fun σ H Q=>ta σ H fun x H'=>∃ k,TruV K x H' k∧Q k H'
theorem zav {a:Expr} {ta:TE} (h:X.K=K) (ha:PE X a ta) (he:∀ whole,isTrue a X.env whole=(do let v ← whole;standAt a.pos;holding [v] (truthy v))):PT X a (zlz K ta):=h▸zkF ha he
theorem zbp {o e:Expr} {es:List Expr} {to:TE} {t:TA} {name:Str} {apos cpos:Pos} {T id:String} {r:V→List V→Hp→VK→Prop} (h:X.K=K)
  (pa:PlainAttrs T) (slot:Slot T name id) (hty:typeOf (.builtin id)=pure (.type "method_descriptor")) (hm:MtR X id r) (ho:PE X o to) (ha:PA X (e::es) t)
  (hbase:attributeBase o name X.env (eval o X.env)=eval o X.env:=by rfl)
  (hfew:((backTo cpos (starEach (e::es) X.env)).all (fun x=>!x.1) && (backToKw cpos (keywordEach [] X.env)).all (fun x=>x.1.isSome)
   && decide ((e::es).length+([]:List Keyword).length+(if ([]:List Keyword).isEmpty then 0 else 1) < 30))=true:=by rfl)
  (hline:(apos.endLine == cpos.line)=true:=by rfl) (hs:starEach (e::es) X.env=(false,eval e X.env)::starEach es X.env:=by rfl) (hplain:(backTo cpos (starEach es X.env)).any (·.1)=false:=by rfl) :
  PE X (.Call (.Attribute o name apos) (e::es) [] cpos) (tBM K T r to t):=h▸zob pa slot hty hm ho ha hbase hfew hline hs hplain
def rAddS:R2:=fun x y H Q=>∃ i j,x=.str i∧y=.str j∧i.length+j.length≤sizeLine∧Q (.str (i++j)) H
def rAddG:R2:=fun x y H Q=>rI0 (fun i j=>.int (i+j)) x y H Q∨rCat x y H Q∨rAddS x y H Q
theorem op_addG:OpR X (binaryOp .Add) rAddG:=op_add.or (op_cat.or op_add_str)
def rNeG (K:PySem.W.Frag):R2:=fun x y H Q=>rNe x y H Q
theorem zm8 (h:X.K=K):OpR X (compareOp .NotEq) (rNeG K):=op_ne
end
def zlA (scope:Scope) (xn:List (Str×NameKind)) (XN N:List Str) (own:Nat) (js:List Nat):Bool :=
 (scope.kind == .function) && scope.names.all (fun y=>y.2 != .cell) && scope.names.all (fun y=>y.2 != .local || scope.names.lookup y.1 == some .local) &&
 scope.names.all (fun y=>y.2 != .free || (xn.lookup y.1 == some .cell || xn.lookup y.1 == some .free)) && (N.length == own+js.length) &&
 (List.range js.length).all (fun i=>(N[own+i]? == XN[js.getD i 0]?) && match XN[js.getD i 0]? with
  | some x=>scope.names.lookup x == some .free && (xn.lookup x == some .cell || xn.lookup x == some .free)
  | none=>true)
theorem zas {X:Cx} {scope sc:Scope} {XN N:List Str} {own:Nat} {js:List Nat} (hs:X.env.scope=sc) (hN:X.N=XN) (h:zlA scope sc.names XN N own js=true):zcZ X scope N own js:=by
 subst hs hN;unfold zlA at h;simp only [Bool.and_eq_true,List.all_eq_true,beq_iff_eq,bne_iff_ne,Bool.or_eq_true,List.mem_range] at h;obtain ⟨⟨⟨⟨⟨h1,h2⟩,h3⟩,h4⟩,h5⟩,h6⟩:=h;refine ⟨h1,h2,fun y hy hk=>?_,fun y hy hk=>?_,h5,fun i j hj=>?_⟩
 ·rcases h3 y hy with z | z
  ·exact absurd hk z
  ·exact z
 ·rcases h4 y hy with z | z
  ·exact absurd hk z
  ·exact z
 ·have hi:i < js.length:=(List.getElem?_eq_some_iff.mp hj).1;have e:js.getD i 0=j:=by rw [List.getD_eq_getElem?_getD,hj];rfl
  obtain ⟨a,b⟩:=h6 i hi;rw [e] at a b;refine ⟨a,fun x hx=>?_⟩;rw [hx] at b;simp only [Bool.and_eq_true,beq_iff_eq,Bool.or_eq_true] at b;obtain ⟨b1,b2⟩:=b;refine ⟨b1,?_,?_⟩
  ·rcases b2 with z | z
   ·exact .inr (.inl z)
   ·exact .inr (.inr z)
  ·intro z;have z':X.env.scope.names.lookup x=some .local:=z;rcases b2 with q | q <;> rw [z'] at q <;> cases q
section
variable {σ σ':St} {H:Hp} {Q:VK} {QT:Bool→Hp→Prop} {QA:List V→Hp→Prop} {i j:Int} {v x y:V} {te ta tb:TE} {tc tc':TT} {tl tr:TA} {t u:TS} {K:PySem.W.Frag} {p:Addr} {xs:List V}
 {nx bk ct:St→Hp→Prop} {rt:VK} {D:Ends} {r r':R2} {n:Nat}
theorem zeE {i:Nat} (h:σ[i]? = some (some v)) (q:Q v H):tVar i σ H Q:=⟨v,h,q⟩
theorem r_c (q:Q v H):tC v σ H Q:=q
theorem r_op (h:ta σ H fun x H1=>tb σ H1 fun y H2=>r x y H2 Q):tOp r ta tb σ H Q:=h
theorem r_I0 {g:Int→Int→V} (q:Q (g i j) H):rI0 g (.int i) (.int j) H Q:=⟨i,j,rfl,rfl,q⟩
theorem zoe (q:Q (.bl (decide (i=j))) H):rEq (.int i) (.int j) H Q:=⟨rfl,by simpa using q⟩
theorem zof (q:Q (.bl (!decide (i=j))) H):rNe (.int i) (.int j) H Q:=⟨rfl,by simpa using q⟩
theorem zog {a b:Bool} (q:Q (.bl (decide (a=b))) H):rEq (.bl a) (.bl b) H Q:=⟨rfl,by simpa using q⟩
theorem zeX (h:SqL K H p xs) (e:atI xs i=some v) (q:Q v H):rIxL K (.ref p) (.int i) H Q:=⟨p,xs,i,v,rfl,rfl,h,e,q⟩
theorem r_cb {f:List V→Hp→VK→Prop} (h:tl σ H fun vs H1=>f vs H1 Q):tCB f tl σ H Q:=h
theorem zeF (q:QA [] H):tNil σ H QA:=q
theorem zfF (h:ta σ H fun x H1=>tl σ H1 fun xs H2=>QA (x::xs) H2):zgi ta tl σ H QA:=h
theorem zm9 {sp:Sp} {E:XK} (h:tl σ H fun vs H1=>sp vs H1 Q E):zlX sp [] E tl σ H Q:=by
 unfold zlX;simpa only [List.append_nil] using h
theorem zbi {c:Prop} {A B:Prop} [Decidable c] (h1:c→A) (h2:¬c→B):if decide c=true then A else B:=by
 by_cases h:c
 ·rw [if_pos (decide_eq_true h)];exact h1 h
 ·rw [if_neg (by simpa using h)];exact h2 h
theorem zeq {c:Prop} {A B:Prop} [Decidable c] (h1:¬c→A) (h2:c→B):if (!decide c)=true then A else B:=by
 by_cases h:c
 ·rw [if_neg (by simpa using h)];exact h2 h
 ·rw [if_pos (by simpa using h)];exact h1 h
theorem zna {b:Bool} {A B:Prop} (h1:b=false→A) (h2:b=true→B):if (!b)=true then A else B:=by
 cases b with
 | true=>exact h2 rfl
 | false=>exact h1 rfl
theorem zdi {ns:List Int} {k:Int} (h0:0≤k) (h1:k < ns.length):atI (ns.map V.int) k=some (.int (ns.getD k.toNat 0)):=by
 obtain ⟨n,rfl⟩:=Int.eq_ofNat_of_zero_le h0;have hn:n < ns.length:=by omega
 refine zfU ?_;rw [List.getElem?_map,List.getD_eq_getElem?_getD,Int.toNat_natCast,List.getElem?_eq_getElem hn];rfl
theorem zkP {ps:List Addr} {k:Int} (h0:0≤k) (h1:k < ps.length):atI (ps.map V.ref) k=some (.ref (ps.getD k.toNat 0)):=by
 obtain ⟨n,rfl⟩:=Int.eq_ofNat_of_zero_le h0;have hn:n < ps.length:=by omega
 refine zfU ?_;rw [List.getElem?_map,List.getD_eq_getElem?_getD,Int.toNat_natCast,List.getElem?_eq_getElem hn];rfl
def zjH (xs:List V) (H:Hp) (Q:VK):Prop:=xs.length≤sizeLine∧∀ p,H p=none→Q (.ref p) (upd H p (.lst xs))
theorem zoh (h:tl σ H fun xs H1=>zjH xs H1 Q):tLst tl σ H Q:=h
theorem r_bm {T:String} {f:V→List V→Hp→VK→Prop} (h:te σ H fun x H1=>tyV K T x H1∧tl σ H1 fun xs H2=>f x xs H2 Q):tBM K T f te tl σ H Q:=h
theorem znb (h:ta σ H fun x H1=>∃ c,x=.bl c∧if c=true then tb σ H1 Q else Q (.bl false) H1):zmO ta tb σ H Q:=h
theorem znc (h:ta σ H fun x H1=>∃ c,x=.bl c∧Q (.bl (!c)) H1):zmP ta σ H Q:=h
theorem znd {b:Bool} {P:Bool→Prop} (h:P b):∃ c,V.bl b=.bl c∧P c:=⟨b,rfl,h⟩
theorem zne (h:ta σ H fun x H'=>∃ k,x=.bl k∧QT k H'):zmX ta σ H QT:=h
theorem r_tB (h:ta σ H fun x H'=>∃ k,x=.bl k∧QT k H'):tB ta σ H QT:=h
theorem zoi (h:tc σ H fun c H1=>if c=true then tc' σ H1 QT else QT false H1):tAnd tc tc' σ H QT:=h
theorem r_or (h:tc σ H fun c H1=>if c=true then QT true H1 else tc' σ H1 QT):tOr tc tc' σ H QT:=h
theorem zoj (h:tc σ H fun c H1=>QT (!c) H1):tNot tc σ H QT:=h
theorem r_tt (h:QT true H):tTT σ H QT:=h
theorem zjI (h:t ⟨u ⟨nx,rt,bk,ct⟩,rt,bk,ct⟩ σ H):tSeq t u ⟨nx,rt,bk,ct⟩ σ H:=h
theorem zok (h:te σ H rt):tRet te ⟨nx,rt,bk,ct⟩ σ H:=h
theorem znf (h:te σ H fun _ H1=>nx σ H1):zmQ te ⟨nx,rt,bk,ct⟩ σ H:=h
theorem zng (h:nx σ H):tNext ⟨nx,rt,bk,ct⟩ σ H:=h
theorem zol {i:Nat} (h:te σ H fun x H1=>nx (σ.set i (some x)) H1):tAsg te (zcS i) ⟨nx,rt,bk,ct⟩ σ H:=h
theorem zom (h:tc σ H fun b H1=>if b=true then t D σ H1 else u D σ H1):tIfS tc t u D σ H:=h
theorem zl9 {i:Nat} {N:St→Hp→Prop} (h:N (σ.set i (some v)) H):zcS i v σ H N:=h
def ForR (lo:Int) (n:Nat) (g:TG) (tb:TS) (D:Ends) (σ:St) (H:Hp):Prop :=
 ∃ W:Nat→Nat→St→Hp→Prop,(∃ m,W 0 m σ H)∧∀ i m σ H,W i m σ H →
  ((Itr lo n).stop i H∧D.nx σ H)∨((Itr lo n).go i H∧∃ N:St→Hp→Prop,(∀ σ' H',N σ' H'→∃ m',m' < m∧W (i+1) m' σ' H')∧∀ x H',(Itr lo n).yld i H x H'→g x σ H' fun σ2 H2=>tb { D with nx:=N,ct:=N,bk:=D.nx } σ2 H2)
theorem znh {g:TG} {tb:TS} (h:tl σ H fun vs H1=>∃ j:Int,vs=[.int j]∧-(2 ^ 62)≤j∧j < 2 ^ 62∧ForR 0 j.toNat g tb D σ H1):tFor (zlS tl) g tb D σ H:=h
theorem zni {g:TG} {tb:TS} (h:tl σ H fun vs H1=>∃ i j:Int,vs=[.int i,.int j]∧(-(2 ^ 62)≤i∧i < 2 ^ 62∧-(2 ^ 62)≤j∧j < 2 ^ 62)∧ForR i (j-i).toNat g tb D σ H1):tFor (zlT tl) g tb D σ H:=h
theorem zbU {P:Int→Prop} (b1 : -(2 ^ 62)≤i) (b2:i < 2 ^ 62) (h:P i):∃ j:Int,[V.int i]=[.int j]∧-(2 ^ 62)≤j∧j < 2 ^ 62∧P j:=⟨i,rfl,b1,b2,h⟩
theorem zeY {P:Int→Int→Prop} (b : -(2 ^ 62)≤i∧i < 2 ^ 62∧-(2 ^ 62)≤j∧j < 2 ^ 62) (h:P i j):∃ i' j':Int,[V.int i,V.int j]=[.int i',.int j']∧(-(2 ^ 62)≤i'∧i' < 2 ^ 62∧-(2 ^ 62)≤j'∧j' < 2 ^ 62)∧P i' j':=⟨i,j,rfl,b,h⟩
theorem zon (h:SqL K H p xs) (q:Q (.int xs.length) H):cLen K [.ref p] H Q:=⟨p,xs,rfl,.inl h,q⟩
theorem znj {ns:List Int} (h:SqL K H p (ns.map V.int)) (q:Q (.int ns.length) H):cLen K [.ref p] H Q:=⟨p,_,rfl,.inl h,by rw [List.length_map];exact q⟩
theorem znk {ns:List Addr} (h:SqL K H p (ns.map V.ref)) (q:Q (.int ns.length) H):cLen K [.ref p] H Q:=⟨p,_,rfl,.inl h,by rw [List.length_map];exact q⟩
theorem zoo {T:String} {ty:Value} {b:Bool} (h:TyOf K H x ty) (e:PySem.W.kitOne K ty (.type T)=some b) (q:Q (.bl b) H):cIsi K [x,.ty T] H Q:=⟨x,T,ty,b,rfl,h,e,q⟩
theorem zma (h:ta σ H fun x H'=>∃ k,TruV K x H' k∧QT k H'):zlz K ta σ H QT:=h
theorem zmb {b:Bool} {P:Bool→Prop} (h:P b):∃ k,TruV K (.bl b) H k∧P k:=⟨b,rfl,h⟩
theorem znl (q:Q (.int (i+j)) H):rAddG (.int i) (.int j) H Q:=.inl ⟨i,j,rfl,rfl,q⟩
theorem zlB (q:Q (.bl (!decide (i=j))) H):rNeG K (.int i) (.int j) H Q:=zof q
theorem zbV {lo:Int} {g:TG} {tb:TS} (Pv:Nat→St→Hp→Prop) (h0:Pv 0 σ H)
  (hs:∀ i σ H,i < n→Pv i σ H→g (.int (lo+i)) σ H fun σ2 H2=>tb ⟨Pv (i+1),rt,nx,Pv (i+1)⟩ σ2 H2) (hd:∀ σ H,Pv n σ H→nx σ H):ForR lo n g tb ⟨nx,rt,bk,ct⟩ σ H :=
 zjj (D:=⟨nx,rt,bk,ct⟩) Pv h0 hs hd
end
end L2
namespace L2
open PySem PySem.Spec PyProof.Rows
section
variable {H:Hp} {Q:VK} {K:PySem.W.Frag} {p:Addr} {xs:List V} {y:V}
theorem za0 {H:Hp} {p:Addr} {o:HO} (hp:H p=none):Same H (upd H p o):=fun b u e=>by
 rw [zaR (zaj e hp)];exact e
def But (p:Addr) (H H':Hp):Prop:=∀ b,b≠p→H' b=H b
theorem But.upd {H:Hp} {p:Addr} {o:HO}:But p H (upd H p o):=fun b h=>zaR h
theorem Same.but {B H H':Hp} {p:Addr} (s:Same B H) (b:But p H H') (hp:B p=none):Same B H':=fun c o e=>by
 rw [b c (zaj e hp)];exact s c o e
theorem zat (hz:xs.length≤1000) (h:∀ p H2,H p=none→Same H H2→H2 p=some (.lst xs)→Q (.ref p) H2):zjH xs H Q :=
 ⟨Nat.le_of_lt (za1 hz),fun p hp=>h p _ hp (za0 hp) zay⟩
theorem zaI (h:H p=some (.lst xs)) (hz:xs.length≤1000000) (q:∀ H2,But p H H2→H2 p=some (.lst (xs++[y]))→Q .non H2):rAppend (.ref p) [y] H Q:=⟨p,xs,y,rfl,rfl,h,by rw [sizeLine_eq];omega,q _ But.upd zay⟩
theorem zfX {a b:Addr} {ys:List V} (h:H a=some (.lst xs)) (h':H b=some (.lst ys)) (hz:xs.length+ys.length≤1000) (q:∀ p H2,H p=none→Same H H2→H2 p=some (.lst (xs++ys))→Q (.ref p) H2):rAddG (.ref a) (.ref b) H Q :=
 .inr (.inl ⟨a,b,xs,ys,rfl,rfl,h,h',Nat.le_of_lt (za1 hz),fun p hp=>q p _ hp (za0 hp) zay⟩)
theorem zjJ {c d:Bool} {tb:TT} {σ:St} {QT:Bool→Hp→Prop} (hb:c=true→∀ Q':Bool→Hp→Prop,Q' d H→tb σ H Q') (q:QT (c && d) H):if c=true then tb σ H QT else QT false H:=by
 cases c with
 | false=>exact q
 | true=>exact hb rfl QT q
theorem zop {f:Int→Int→V} {i j:Int} (c:0 < j) (q:Q (f i j) H):rI (fun _ j=>0 < j) f (.int i) (.int j) H Q:=⟨i,j,rfl,rfl,c,q⟩
theorem zoq {P:Prop} (h:H p=some (.lst xs)) (q:P):tyV K "list" (.ref p) H∧P:=⟨.inl ⟨rfl,_,SqL.of h⟩,q⟩
end
end L2
namespace L2
open PySem PySem.Spec PyProof.Rows
section
variable {σ:St} {H:Hp} {Q:VK} {K:PySem.W.Frag} {js:List Nat} {te:TE} {tc:TT} {J:It} {n:Nat} {x:Nat→V}
structure Iter (J:It) (n:Nat) (x:Nat→V) (H:Hp):Prop where
 go:∀ i H',Same H H'→i < n→J.go i H'
 yld:∀ i H' v H2,Same H H'→i < n→J.yld i H' v H2→H2=H'∧v=x i
 stop:∀ H',Same H H'→J.stop n H'
theorem zbM (lo:Int) (n:Nat) (H:Hp):Iter (Itr lo n) n (fun i=>.int (lo+i)) H :=
 ⟨fun i H' _ h=>h,fun i H' v H2 _ _ h=>h,fun H' _=>Nat.le_refl n⟩
theorem zbq {a:Addr} {xs:List V} (h:SqL K H a xs):Iter (Itl K a) xs.length (fun i=>xs.getD i .non) H :=
 ⟨fun i H' s hi=>⟨xs,xs[i],s.seq h,List.getElem?_eq_getElem hi⟩,fun i H' v H2 s hi h'=>⟨h'.1,by
  have:=h'.2 xs (s.seq h);rw [List.getD_eq_getElem?_getD,this];rfl⟩,fun H' s=>⟨xs,s.seq h,Nat.le_refl _⟩⟩
def zfs (J:It) (js:List Nat) (tc:TT) (te:TE) (σ:St) (H:Hp) (Q:VK):Prop:=∀ p,H p=none →
 ∃ W:Nat→Nat→St→Hp→Prop,(∃ m,W 0 m (capS 1 js σ) (upd H p (.lst [])))∧∀ i m σc H,W i m σc H →
  (J.stop i H∧Q (.ref p) H)∨(J.go i H∧∃ N:St→Hp→Prop,(∀ σ' H',N σ' H'→∃ m',m' < m∧W (i+1) m' σ' H')∧∀ x H',J.yld i H x H' →
   zcS 0 x σc H' fun σ2 H2=>tc σ2 H2 fun b H3=>if b=true then te σ2 H3 fun v H4=>∃ ys,H4 p=some (.lst ys)∧ys.length < sizeLine∧N σ2 (upd H4 p (.lst (ys++[v]))) else N σ2 H3)
theorem zmc {tl:TA} (h:tl σ H fun vs H1=>∃ j:Int,vs=[.int j]∧-(2 ^ 62)≤j∧j < 2 ^ 62∧zfs (Itr 0 j.toNat) js tc te σ H1 Q):zhf (zlS tl) 1 js (zcS 0) tc te σ H Q:=h
theorem zmd {tl:TA} (h:tl σ H fun vs H1=>∃ i j:Int,vs=[.int i,.int j]∧(-(2 ^ 62)≤i∧i < 2 ^ 62∧-(2 ^ 62)≤j∧j < 2 ^ 62)∧zfs (Itr i (j-i).toNat) js tc te σ H1 Q):zhf (zlT tl) 1 js (zcS 0) tc te σ H Q:=h
theorem zme {tl:TE} (h:tl σ H fun x H1=>∃ a,x=.ref a∧(∃ xs,SqL K H1 a xs)∧zfs (Itl K a) js tc te σ H1 Q):zhf (zkD K tl) 1 js (zcS 0) tc te σ H Q:=h
def capV (js:List Nat) (σ:St):St:=js.map fun j=>(σ[j]?).getD none
theorem zgt (u:Option V) (v:V):(u::capV js σ).set 0 (some v)=some v::capV js σ:=rfl
theorem zeL {H H':Hp} {p:Addr} {o:HO} (s:Same H H') (hp:H p=none):Same H (upd H' p o):=fun b u e=>by
 rw [zaR (zaj e hp)];exact s b u e
theorem zc0 (it:Iter J n x H) (hz:n < sizeLine) (c:Nat→Bool) (f:Nat→V)
  (ht:∀ i H' Q',i < n→Same H H'→Q' (c i) H'→tc (some (x i)::capV js σ) H' Q')
  (he:∀ i H' Q',i < n→Same H H'→c i=true→Q' (f i) H'→te (some (x i)::capV js σ) H' Q')
  (hq:∀ p,H p=none→Q (.ref p) (upd H p (.lst (((List.range n).filter c).map f)))):zfs J js tc te σ H Q:=by
 intro p hp;refine ⟨fun i m σc H'=>m=n-i∧i≤n∧(∃ u,σc=u::capV js σ)∧H'=upd H p (.lst (((List.range i).filter c).map f)),⟨n,by simp,Nat.zero_le _,⟨none,rfl⟩,rfl⟩,?_⟩;rintro i m σc H' ⟨rfl,hi,⟨u,rfl⟩,rfl⟩;have s:∀ o,Same H (upd H p o):=fun o=>za0 hp;have hlen:(((List.range i).filter c).map f).length≤i:=by
  rw [List.length_map];exact Nat.le_trans (List.length_filter_le _ _) (by simp)
 by_cases hlt:i < n
 ·refine .inr ⟨it.go i _ (s _) hlt,fun σ' H'=>(∃ u,σ'=u::capV js σ)∧H'=upd H p (.lst (((List.range (i+1)).filter c).map f)),fun σ' H' ⟨h1,h2⟩=>⟨n-(i+1),by omega,rfl,hlt,h1,h2⟩,fun v H2 hy=>?_⟩;obtain ⟨rfl,rfl⟩:=it.yld i _ v H2 (s _) hlt hy;show tc ((u::capV js σ).set 0 (some (x i))) _ _;rw [zgt];have e:(List.range (i+1)).filter c=(List.range i).filter c++if c i=true then [i] else []:=by
   rw [List.range_succ,List.filter_append]
   cases hc:c i <;> simp [hc]
  refine ht i _ _ hlt (s _) ?_
  cases hc:c i with
  | false =>
    rw [if_neg Bool.false_ne_true];refine ⟨⟨_,rfl⟩,?_⟩;rw [e,hc];simp
  | true =>
    rw [if_pos rfl];refine he i _ _ hlt (s _) hc ⟨_,zay,by omega,⟨_,rfl⟩,?_⟩;rw [zlO,e,hc];simp
 ·have e:i=n:=by omega
  subst e;exact .inl ⟨it.stop _ (s _),hq p hp⟩
theorem ziA (it:Iter J n x H) (hz:n < sizeLine) (f:Nat→List V)
  (he:∀ i H' Q',i < n→Same H H'→(∀ q,H' q=none→Q' (.ref q) (upd H' q (.lst (f i))))→te (some (x i)::capV js σ) H' Q')
  (hq:∀ p (ps:List Addr) H',H p=none→Same H H'→ps.length=n→H' p=some (.lst (ps.map V.ref))→(∀ i,i < n→H' (ps.getD i 0)=some (.lst (f i))∧H (ps.getD i 0)=none∧ps.getD i 0≠p)→ps.Nodup→Q (.ref p) H'):zfs J js tTT te σ H Q:=by
 intro p hp;refine ⟨fun i m σc H'=>m=n-i∧i≤n∧(∃ u,σc=u::capV js σ)∧∃ ps:List Addr,Same H H'∧ps.length=i∧H' p=some (.lst (ps.map V.ref))∧(∀ j,j < i→H' (ps.getD j 0)=some (.lst (f j))∧H (ps.getD j 0)=none∧ps.getD j 0≠p)∧ps.Nodup,⟨n,by simp,Nat.zero_le _,⟨none,rfl⟩,[],za0 hp,rfl,zay,fun j hj=>absurd hj (by omega),List.nodup_nil⟩,?_⟩;rintro i m σc H' ⟨rfl,hi,⟨u,rfl⟩,ps,s,hl,hpp,hall,nd⟩
 by_cases hlt:i < n
 ·refine .inr ⟨it.go i _ s hlt,fun σ' H'=>(∃ u,σ'=u::capV js σ)∧∃ ps:List Addr,Same H H'∧ps.length=i+1∧H' p=some (.lst (ps.map V.ref))∧(∀ j,j < i+1→H' (ps.getD j 0)=some (.lst (f j))∧H (ps.getD j 0)=none∧ps.getD j 0≠p)∧ps.Nodup,
   fun σ' H' ⟨h1,h2⟩=>⟨n-(i+1),by omega,rfl,hlt,h1,h2⟩,fun v H2 hy=>?_⟩
  obtain ⟨rfl,rfl⟩:=it.yld i _ v H2 s hlt hy;show te ((u::capV js σ).set 0 (some (x i))) _ _;rw [zgt];refine he i _ _ hlt s fun q hq0=>?_;have hqp:p≠q:=zaj hpp hq0;have hHq:H q=none:=s.free hq0;refine ⟨ps.map V.ref,by rw [zaR hqp];exact hpp,by rw [List.length_map];omega,⟨_,rfl⟩,ps++[q],?_,by rw [List.length_append,hl];rfl,by rw [zay,List.map_append];rfl,fun j hj=>?_,?_⟩
  ·exact zeL (zeL s hHq) hp
  ·by_cases hji:j < i
   ·obtain ⟨a1,a2,a3⟩:=hall j hji;have e:(ps++[q]).getD j 0=ps.getD j 0:=by
     rw [List.getD_eq_getElem?_getD,List.getD_eq_getElem?_getD,List.getElem?_append_left (by omega)]
    rw [e];refine ⟨?_,a2,a3⟩;rw [zaR a3,zaR (zaj a1 hq0)];exact a1
   ·have e0:j=i:=by omega
    subst e0;have e:(ps++[q]).getD j 0=q:=by
     rw [List.getD_eq_getElem?_getD,List.getElem?_append_right (by omega)];simp [hl]
    rw [e];refine ⟨?_,hHq,hqp.symm⟩;rw [zaR hqp.symm,zay]
  ·refine List.nodup_append.mpr ⟨nd,by simp,fun a ha b hb=>?_⟩;have hb':b=q:=by simpa using hb
   subst hb';obtain ⟨k,hk,e⟩:=List.getElem_of_mem ha;have e2:ps.getD k 0=a:=by rw [List.getD_eq_getElem?_getD,List.getElem?_eq_getElem hk,e];rfl
   have:=(hall k (by omega)).1;rw [e2] at this;exact zaj this hq0
 ·have e:i=n:=by omega
  subst e;exact .inl ⟨it.stop _ s,hq p ps H' hp s hl hpp hall nd⟩
def ForI (J:It) (g:TG) (tb:TS) (D:Ends) (σ:St) (H:Hp):Prop :=
 ∃ W:Nat→Nat→St→Hp→Prop,(∃ m,W 0 m σ H)∧∀ i m σ H,W i m σ H →
  (J.stop i H∧D.nx σ H)∨(J.go i H∧∃ N:St→Hp→Prop,(∀ σ' H',N σ' H'→∃ m',m' < m∧W (i+1) m' σ' H')∧∀ x H',J.yld i H x H'→g x σ H' fun σ2 H2=>tb { D with nx:=N,ct:=N,bk:=D.nx } σ2 H2)
theorem znm {tl:TE} {g:TG} {tb:TS} {D:Ends} (h:tl σ H fun x H1=>∃ a,x=.ref a∧(∃ xs,SqL K H1 a xs)∧ForI (Itl K a) g tb D σ H1):tFor (zkD K tl) g tb D σ H:=h
theorem zaT {a:Addr} {P:Addr→Prop} {xs:List V} (h:SqL K H a xs) (q:P a):∃ b,V.ref a=.ref b∧(∃ xs,SqL K H b xs)∧P b:=⟨a,rfl,⟨xs,h⟩,q⟩
theorem zbN {a:Addr} {xs:List V} {g:TG} {tb:TS} {nx bk ct:St→Hp→Prop} {rt:VK} (Pv:Nat→St→Hp→Prop) (h0:Pv 0 σ H) (hl:∀ i σ H,i≤xs.length→Pv i σ H→SqL K H a xs)
  (hs:∀ i x σ H,xs[i]? = some x→Pv i σ H→g x σ H fun σ2 H2=>tb ⟨Pv (i+1),rt,nx,Pv (i+1)⟩ σ2 H2) (hd:∀ σ H,Pv xs.length σ H→nx σ H):ForI (Itl K a) g tb ⟨nx,rt,bk,ct⟩ σ H :=
 zkE (D:=⟨nx,rt,bk,ct⟩) Pv h0 hl hs hd
theorem zkQ {xs ys:List Int} (hl:xs.length=ys.length) (h:∀ j,j < xs.length→xs.getD j 0=ys.getD j 0):xs=ys:=by
 refine List.ext_getElem hl fun i h1 h2=>?_;have:=h i h1;rw [List.getD_eq_getElem?_getD,List.getD_eq_getElem?_getD,List.getElem?_eq_getElem h1,List.getElem?_eq_getElem h2] at this;exact this
theorem zgu (it:Iter J n x H) (hz:n≤1000) (f:Nat→Int)
  (he:∀ i H' Q',i < n→Same H H'→Q' (.int (f i)) H'→te (some (x i)::capV js σ) H' Q')
  (hq:∀ p H2,H p=none→Same H H2→H2 p=some (.lst (((List.range n).map f).map V.int))→Q (.ref p) H2):zfs J js tTT te σ H Q:=by
 refine zc0 it (za1 hz) (fun _=>true) (fun i=>.int (f i)) (fun i H' Q' _ _ q=>q) (fun i H' Q' hi s _ q=>he i H' Q' hi s q) fun p hp=>hq p _ hp (za0 hp) ?_;rw [zay,List.filter_eq_self.mpr (fun _ _=>rfl),List.map_map];rfl
theorem zeZ (it:Iter J n x H) (hz:n≤1000) (c:Nat→Bool) (f:Nat→Int)
  (ht:∀ i H' Q',i < n→Same H H'→Q' (c i) H'→tc (some (x i)::capV js σ) H' Q')
  (he:∀ i H' Q',i < n→Same H H'→c i=true→Q' (.int (f i)) H'→te (some (x i)::capV js σ) H' Q')
  (hq:∀ p H2,H p=none→Same H H2→H2 p=some (.lst ((((List.range n).filter c).map f).map V.int))→Q (.ref p) H2):zfs J js tc te σ H Q:=by
 refine zc0 it (za1 hz) c (fun i=>.int (f i)) ht (fun i H' Q' hi s hc q=>he i H' Q' hi s hc q) fun p hp=>hq p _ hp (za0 hp) ?_;rw [zay,List.map_map];rfl
end
end L2
namespace L2
open PySem PySem.Spec PyProof.Rows
def LL (K:PySem.W.Frag) (H:Hp) (a:Addr) (rs:List (List Int)):Prop :=
 ∃ ps:List Addr,SqL K H a (ps.map V.ref)∧ps.length=rs.length∧∀ i,i < rs.length→H (ps.getD i 0)=some (.lst ((rs.getD i []).map V.int))
theorem LL.same {K:PySem.W.Frag} {H H':Hp} {a:Addr} {rs:List (List Int)} (h:LL K H a rs) (s:Same H H'):LL K H' a rs:=by
 obtain ⟨ps,h1,h2,h3⟩:=h;exact ⟨ps,s.seq h1,h2,fun i hi=>s _ _ (h3 i hi)⟩
structure RowsAt (B:Hp) (p:Addr) (rs:List (List Int)) (H:Hp):Prop where
 same:Same B H
 new:B p=none
 rows:∃ ps:List Addr,H p=some (.lst (ps.map V.ref))∧ps.length=rs.length∧ps.Nodup∧∀ i,i < rs.length→H (ps.getD i 0)=some (.lst ((rs.getD i []).map V.int))∧B (ps.getD i 0)=none∧ps.getD i 0≠p
theorem RowsAt.start {B H:Hp} {p:Addr} (hp:B p=none) (s:Same B H) (e:H p=some (.lst [])):RowsAt B p [] H :=
 ⟨s,hp,[],e,rfl,List.nodup_nil,fun i hi=>absurd hi (by simp)⟩
theorem zaD {α:Type} {xs ys:List α} {d:α} {i:Nat} (h:i < xs.length):(xs++ys).getD i d=xs.getD i d:=by
 rw [List.getD_eq_getElem?_getD,List.getD_eq_getElem?_getD,List.getElem?_append_left h]
theorem zaA {α:Type} {xs:List α} {y d:α}:(xs++[y]).getD xs.length d=y:=by
 rw [List.getD_eq_getElem?_getD,List.getElem?_append_right (Nat.le_refl _)];simp
theorem mem_getD {α:Type} {xs:List α} {d a:α} (h:a∈xs):∃ i,i < xs.length∧xs.getD i d=a:=by
 obtain ⟨k,hk,e⟩:=List.getElem_of_mem h;exact ⟨k,hk,by rw [List.getD_eq_getElem?_getD,List.getElem?_eq_getElem hk,e];rfl⟩
theorem RowsAt.push {B H H2 H3:Hp} {p q:Addr} {rs:List (List Int)} {r:List Int} {zs:List V} (R:RowsAt B p rs H) (hq:H q=none) (s:Same H H2) (e:H2 q=some (.lst (r.map V.int))) (hz:H2 p=some (.lst zs)) (b:But p H2 H3) (e3:H3 p=some (.lst (zs++[.ref q]))):RowsAt B p (rs++[r]) H3:=by
 obtain ⟨sb,hp,ps,h1,h2,nd,h3⟩:=R;have ez:zs=ps.map V.ref:=by
  have:=s p _ h1;rw [hz] at this;exact (HO.lst.inj (Option.some.inj this))
 subst ez;have hBq:B q=none:=sb.free hq;have hqp:q≠p:=(zaj h1 hq).symm;refine ⟨(sb.trans s).but b hp,hp,ps++[q],by rw [e3,List.map_append];rfl,by simp [h2],?_,fun i hi=>?_⟩
 ·refine List.nodup_append.mpr ⟨nd,by simp,fun a ha c hc=>?_⟩;have hc':c=q:=by simpa using hc
  subst hc';obtain ⟨k,hk,ek⟩:=mem_getD (d:=0) ha;have:=(h3 k (by omega)).1;rw [ek] at this;exact zaj this hq
 ·rw [List.length_append,List.length_singleton] at hi
  by_cases hlt:i < rs.length
  ·obtain ⟨a1,a2,a3⟩:=h3 i hlt;rw [zaD (by omega),zaD hlt];refine ⟨?_,a2,a3⟩;rw [b _ a3];exact s _ _ a1
  ·have ei:i=rs.length:=by omega
   subst ei;rw [zaA,← h2,zaA];refine ⟨?_,hBq,hqp⟩;rw [b _ hqp];exact e
theorem RowsAt.ll {K:PySem.W.Frag} {B H:Hp} {p:Addr} {rs:List (List Int)} (R:RowsAt B p rs H):LL K H p rs:=by
 obtain ⟨sb,hp,ps,h1,h2,nd,h3⟩:=R;exact ⟨ps,SqL.of h1,h2,fun i hi=>(h3 i hi).1⟩
theorem RowsAt.lst {B H:Hp} {p:Addr} {rs:List (List Int)} (R:RowsAt B p rs H):∃ zs:List V,H p=some (.lst zs)∧zs.length=rs.length:=by
 obtain ⟨sb,hp,ps,h1,h2,nd,h3⟩:=R;exact ⟨_,h1,by rw [List.length_map,h2]⟩
theorem zaB {α:Type} {f:Nat→α} {n i:Nat} {d:α} (h:i < n):((List.range n).map f).getD i d=f i:=by
 rw [List.getD_eq_getElem?_getD,List.getElem?_map,List.getElem?_range h];rfl
theorem zgv {xs ys:List (List Int)} (hl:xs.length=ys.length) (h:∀ j,j < xs.length→xs.getD j []=ys.getD j []):xs=ys:=by
 refine List.ext_getElem hl fun i h1 h2=>?_;have:=h i h1;rw [List.getD_eq_getElem?_getD,List.getD_eq_getElem?_getD,List.getElem?_eq_getElem h1,List.getElem?_eq_getElem h2] at this;exact this
end L2
namespace L2
open PySem PySem.Spec PyProof.Rows
section
variable {X:Cx} {tg:Expr}
end
section
variable {σ:St} {H:Hp} {i j:Int} {D:Ends} {nx bk ct:St→Hp→Prop} {rt:VK} {n:Nat} {Q:VK}
end
end L2
namespace L2
open PySem PySem.Spec PyProof.Rows
section
variable {X:Cx} {pins:List (Addr×Obj)} {σ:St} {H:Hp} {s:Shared} {h':Heap}
theorem Inv.turnedNew {ch:List Addr} {T:Addr} {o:HO} {t':Nat} (I:Inv X pins σ H s) (k:∀ b ob,b∉ch→s.heap.get? b=some ob→h'.get? b=some ob) (hf:∀ b∈ch,FpOk X pins H b∧∃ ob,h'.get? b=some ob) (hT:s.heap.objs.size≤T)
  (new:zbR X.prog X.w (upd H T o) h' T o):Inv X pins σ (upd H T o) { s with heap:=h',toks:=t' }:=by
 have hn:H T=none:=I.hok.fresh hT;have ne:∀ b ob,s.heap.get? b=some ob→b≠T:=fun b ob e=>Nat.ne_of_lt (Nat.lt_of_lt_of_le (Heap.lt_size e) hT);have nch:∀ b u,H b=some u→b∉ch:=fun b u e z=>by rw [(hf b z).1.1] at e;cases e
 refine I.step (g':=s.gens) (d':=s.drawn) (ch:=ch) (fun b hb=>?_) (fun b ob _ _ hc e _=>k b ob hc e) (fun b ob _ _ hc e _=>⟨ob.slots,k b ob hc e⟩) (fun b ob _ e n=>by rw [zaR (ne b ob e)];exact n)
  (fun b ob hc e=>⟨ob,k b ob hc e⟩) (fun b xs e=>by rw [zaR (zaj e hn)];exact e) (fun b ob u e=>by rw [zaR (zaj e hn)];exact e) (fun b ps e=>⟨#[],by rw [zaR (zaj e hn),e];simp⟩) (fun m hm=>?_) (fun b u e=>?_) I.bare
 ·obtain ⟨⟨f0,f1,f2,f3,f4,f5⟩,_⟩:=hf b hb;exact ⟨f3,f1,f4,f5⟩
 ·obtain ⟨ob,es,ep,ho,r⟩:=hm;exact ⟨ob,es,ep,k _ ob (fun z=>(hf _ z).1.2.1 rfl) ho,r⟩
 ·by_cases hb:b=T
  ·subst hb;rw [zay] at e;cases e;exact new
  ·rw [zaR hb] at e;refine (I.hok b u e).stay (fun c v hc q=>k c v ?_ q) (fun c q=>by rw [zaR (zaj q hn)];exact q) fun c xs q=>by rw [zaR (zaj q hn)];exact q
   rcases hc with z | z
   ·rw [z];exact nch b u e
   ·exact nch c _ z
theorem Inv.turnedL {ch:List Addr} {t':Nat} (I:Inv X pins σ H s) (k:∀ b ob,b∉ch→s.heap.get? b=some ob→h'.get? b=some ob) (hf:∀ b∈ch,FpOk X pins H b):Inv X pins σ H { s with heap:=h',toks:=t' }:=by
 have nch:∀ b u,H b=some u→b∉ch:=fun b u e z=>by rw [(hf b z).1] at e;cases e
 refine I.step (g':=s.gens) (d':=s.drawn) (ch:=ch) (fun b hb=>?_) (fun b ob _ _ hc e _=>k b ob hc e) (fun b ob _ _ hc e _=>⟨ob.slots,k b ob hc e⟩) (fun b ob _ e n=>n)
  (fun b ob hc e=>⟨ob,k b ob hc e⟩) (fun b xs e=>e) (fun b ob u e=>e) (fun b ps e=>⟨#[],by rw [e];simp⟩) (fun m hm=>?_) (fun b u e=>?_) I.bare
 ·obtain ⟨f0,f1,f2,f3,f4,f5⟩:=hf b hb;exact ⟨f3,f1,f4,f5⟩
 ·obtain ⟨ob,es,ep,ho,r⟩:=hm;exact ⟨ob,es,ep,k _ ob (fun z=>(hf _ z).2.1 rfl) ho,r⟩
 ·refine (I.hok b u e).stay (fun c v hc q=>k c v ?_ q) (fun c q=>q) fun c xs q=>q;rcases hc with z | z
  ·rw [z];exact nch b u e
  ·exact nch c _ z
end
def Itz (K:PySem.W.Frag) (a b:Addr):It :=
 ⟨fun i H=>∃ xs ys x y,SqL K H a xs∧SqL K H b ys∧xs[i]? = some x∧ys[i]? = some y,
  fun i H v H'=>∃ T,H T=none∧v=.ref T∧∀ xs ys,SqL K H a xs→SqL K H b ys→∃ x y,xs[i]? = some x∧ys[i]? = some y∧H'=upd H T (.tup [x,y]),
  fun i H=>∃ xs ys,SqL K H a xs∧SqL K H b ys∧(xs.length≤i∨ys.length≤i)⟩
theorem zkR {P:Program} {w:World} {K:PySem.W.Frag} {elts:List Expr} {x1:Nat} {tpos:Pos} {l1 l2 z TI TO i1 i2:Addr} (D:ZipApart z TI TO i1 i2 l1 l2) :
  Turn P w K (.Tuple elts x1 tpos) (Itz K l1 l2) [z,TI,TO,i1,i2] z (fun i h=>IsZip h z TI TO .none∧IsPair h TI (.ref i1) (.ref i2)∧(∃ a b,IsPair h TO a b)∧h.IsListIter i1 l1 i∧h.IsListIter i2 l2 i) where
 mem:=by simp
 obj:=fun i h st b hb=>by
  obtain ⟨h1,h2,⟨_,_,h3⟩,⟨o4,h4,c4,d4⟩,⟨o5,h5,c5,d5⟩⟩:=st;simp only [List.mem_cons,List.not_mem_nil,or_false] at hb;rcases hb with rfl | rfl | rfl | rfl | rfl
  ·exact ⟨_,h1,fun v z=>by cases z⟩
  ·exact ⟨_,h2,fun v z=>by cases z⟩
  ·exact ⟨_,h3,fun v z=>by cases z⟩
  ·exact ⟨_,h4,fun v z=>by rw [d4] at z;cases z⟩
  ·exact ⟨_,h5,fun v z=>by rw [d5] at z;cases z⟩
 keep:=fun i h h' st k=>by
  obtain ⟨h1,h2,⟨a,b,h3⟩,h4,h5⟩:=st;exact ⟨k z (by simp) _ h1,k TI (by simp) _ h2,⟨a,b,k TO (by simp) _ h3⟩,h4.at fun o e=>k i1 (by simp) o e,h5.at fun o e=>k i2 (by simp) o e⟩
 item:=by
  intro X hP hw hK hc i pins s σ H E I hf st hg;subst hP hw hK;obtain ⟨xs,ys,x,y,hq1,hq2,hx,hy⟩:=hg;obtain ⟨its1,rv1,p1,hz1⟩:=I.list hq1;obtain ⟨its2,rv2,p2,hz2⟩:=I.list hq2;obtain ⟨u1,hu1,ru1⟩:=rv1.get hx;obtain ⟨u2,hu2,ru2⟩:=rv2.get hy;obtain ⟨g1,g2,⟨ta,tb,g3⟩,g4,g5⟩:=st;refine wpAny_pyNext_zip_item D g1 g2 g3 g4 g5 p1.isList p2.isList (x:=u1) (y:=u2) (by simpa using hu1) (by simpa using hu2) fun h' a1 a2 a3 a4 a5 a6 hk=>?_;refine ⟨_,rfl,?_⟩;refine wpAny_letOwnedTupleGo_zip a1 fun h2 b1 hs2=>?_;have hTn:H s.heap.objs.size=none:=I.hok.fresh (Nat.le_refl _);have ltz:∀ b∈[z,TI,TO,i1,i2],b≠s.heap.objs.size:=fun b hb=>by
   obtain ⟨⟨o,e⟩⟩:∃ o,s.heap.get? b=some o:=by
    obtain ⟨o4,e4,_⟩:=g4;obtain ⟨o5,e5,_⟩:=g5;simp only [List.mem_cons,List.not_mem_nil,or_false] at hb;rcases hb with rfl | rfl | rfl | rfl | rfl
    ·exact ⟨_,g1⟩
    ·exact ⟨_,g2⟩
    ·exact ⟨_,g3⟩
    ·exact ⟨_,e4⟩
    ·exact ⟨_,e5⟩
   exact Nat.ne_of_lt (Heap.lt_size ‹_›)
  have keep:∀ b ob,b∉[z,TO,i1,i2]→s.heap.get? b=some ob→h2.get? b=some ob:=fun b ob hb e=>by
   simp only [List.mem_cons,List.not_mem_nil,or_false,not_or] at hb;obtain ⟨n1,n2,n3,n4⟩:=hb;exact hs2.extBut b ob n1 (hk b ob n1 n2 n3 n4 e)
  have pT:IsPair h2 s.heap.objs.size u1 u2:=hs2.extBut _ _ (ltz z (by simp)).symm a5;have c4:h2.IsListIter i1 l1 (i+1):=a3.extBut hs2.extBut D.i1z;have c5:h2.IsListIter i2 l2 (i+1):=a4.extBut hs2.extBut D.i2z;have c3:IsPair h2 TO u1 u2:=hs2.extBut _ _ D.TOz a2;have c2:IsPair h2 TI (.ref i1) (.ref i2):=hs2.extBut _ _ D.TIz (hk _ _ D.TIz D.TITO D.TIi1 D.TIi2 g2);refine ⟨.ref s.heap.objs.size,upd H s.heap.objs.size (.tup [x,y]),?_,rfl,⟨_,hTn,rfl,fun xs' ys' q1' q2'=>?_⟩,⟨b1,c2,⟨_,_,c3⟩,c4,c5⟩,fun b hb=>?_⟩
  ·refine I.turnedNew (t':=s.toks) (ch:=[z,TO,i1,i2]) keep (fun b hb=>⟨hf b ?_,?_⟩) (Nat.le_refl _) ?_
   ·simp only [List.mem_cons,List.not_mem_nil,or_false] at hb ⊢;rcases hb with rfl | rfl | rfl | rfl <;> simp
   ·obtain ⟨o4,e4,_⟩:=c4;obtain ⟨o5,e5,_⟩:=c5;simp only [List.mem_cons,List.not_mem_nil,or_false] at hb;rcases hb with rfl | rfl | rfl | rfl
    ·exact ⟨_,b1⟩
    ·exact ⟨_,c3⟩
    ·exact ⟨_,e4⟩
    ·exact ⟨_,e5⟩
   ·exact ⟨by show 2≤sizeLine;rw [sizeLine_eq];decide,[u1,u2],.cons ru1 (.cons ru2 .nil),_,pT,rfl,_,rfl⟩
  ·rw [I.list_inj q1' hq1,I.list_inj q2' hq2];exact ⟨x,y,hx,hy,rfl⟩
  ·rw [zaR (ltz b hb)];exact (hf b hb).1
 done:=by
  intro X hP hw hK hc i pins s σ H E I hf st hg;subst hP hw hK;obtain ⟨xs,ys,hq1,hq2,hx⟩:=hg;obtain ⟨its1,rv1,p1,hz1⟩:=I.list hq1;obtain ⟨its2,rv2,p2,hz2⟩:=I.list hq2;obtain ⟨g1,g2,⟨ta,tb,g3⟩,g4,g5⟩:=st;have hl1:=rv1.length;have hl2:=rv2.length;refine wpAny_pyNext_zip_end (I.ok.hd hc) D g1 g2 g3 g4 g5 p1.isList p2.isList ?_ fun h' hk=>⟨rfl,I.turnedL (t':=s.toks) (ch:=[z,TI,TO,i1,i2]) (fun b ob hb e=>?_) hf⟩
  ·rcases hx with hx | hx
   ·exact .inl (Array.getElem?_eq_none (by simp;omega))
   ·exact .inr (Array.getElem?_eq_none (by simp;omega))
  ·simp only [List.mem_cons,List.not_mem_nil,or_false,not_or] at hb;obtain ⟨n1,n2,n3,n4,n5⟩:=hb;exact hk b ob n1 n3 n4 n5 e
 self:=fun _ _ _ _ _ st h=>wpAny_pyIter_zip st.1 h
section
variable {X:Cx} {K:PySem.W.Frag}
def iZip (K:PySem.W.Frag) (ta:TA):TI:=fun σ H R=>ta σ H fun vs H1=>∃ a b xs ys,vs=[.ref a,.ref b]∧SqL K H1 a xs∧SqL K H1 b ys∧R (Itz K a b) H1
theorem zjK {a b:Expr} {ta:TA} {p pos tpos:Pos} {elts:List Expr} {x1:Nat} (hK:X.K=K) (hg:Gl X "zip") (hm:X.mg "zip" = none) (ha:PA X [a,b] ta) (hs:starEach [a,b] X.env=(false,eval a X.env)::starEach [b] X.env:=by rfl)
  (hs2:(backTo pos (starEach [b] X.env)).any (·.1)=false:=by rfl):PI X (.Tuple elts x1 tpos) (.Call (.Name "zip" p) [a,b] [] pos) (iZip K ta):=by
 subst hK;intro pins s σ H R I h;refine Call_ (zeR I hg hm boot_zip (PyProof.Rows.callWith_type1 (thn (ha pos pins s σ H _ I h) fun us s1 ⟨vs,H1,I1,r1,q1⟩=>?_) hs hs2));obtain ⟨l1,l2,xs,ys,e,q1,q2,q⟩:=q1;subst e;obtain ⟨v1,v2,rfl,r1,r2⟩:=Vals.two r1
 cases r1
 cases r2
 obtain ⟨its1,rv1,p1,hz1⟩:=I1.list q1;obtain ⟨its2,rv2,p2,hz2⟩:=I1.list q2;refine call_zip_2 p1.isList p2.isList fun h' hz hTI hTO hi1 hi2 hsz hk=>?_;refine wpAny_pyIter_zip hz ?_;obtain ⟨o1,e1,_⟩:=p1.isList;obtain ⟨o2,e2,_⟩:=p2.isList;have L1:=Heap.lt_size e1;have L2:=Heap.lt_size e2;have I2:Inv X pins σ H1 { s1 with heap:=h' }:=I1.kept (t':=s1.toks) hk;have nn:∀ k l:Nat,k≠l→s1.heap.objs.size+k≠s1.heap.objs.size+l:=fun k l hkl z=>hkl (Nat.add_left_cancel z);have n0:∀ k:Nat,0 < k→s1.heap.objs.size≠s1.heap.objs.size+k:=fun k hk=>by omega
 have D:ZipApart (s1.heap.objs.size+4) (s1.heap.objs.size+2) (s1.heap.objs.size+3) s1.heap.objs.size (s1.heap.objs.size+1) l1 l2:=by
  have m1:∀ k:Nat,l1≠s1.heap.objs.size+k:=fun k=>Nat.ne_of_lt (Nat.lt_of_lt_of_le L1 (Nat.le_add_right _ _));have m2:∀ k:Nat,l2≠s1.heap.objs.size+k:=fun k=>Nat.ne_of_lt (Nat.lt_of_lt_of_le L2 (Nat.le_add_right _ _));exact ⟨nn 2 4 (by decide),nn 3 4 (by decide),n0 4 (by decide),nn 1 4 (by decide),nn 2 3 (by decide),(n0 2 (by decide)).symm,nn 2 1 (by decide),(n0 3 (by decide)).symm,nn 3 1 (by decide),n0 1 (by decide),m1 4,m1 3,m1 0,m1 1,m2 4,m2 3,m2 0,m2 1⟩
 refine ⟨s1.heap.objs.size+4,_,_,Itz X.K l1 l2,H1,rfl,I2,zkR D,⟨hz,hTI,⟨_,_,hTO⟩,hi1,hi2⟩,fun b hb=>?_,q⟩;have hge:s1.heap.objs.size≤b:=by
  simp only [List.mem_cons,List.not_mem_nil,or_false] at hb;rcases hb with rfl | rfl | rfl | rfl | rfl
  ·exact Nat.le_add_right _ _
  ·exact Nat.le_add_right _ _
  ·exact Nat.le_add_right _ _
  ·exact Nat.le_refl _
  ·exact Nat.le_add_right _ _
 exact I1.fpOk hge (I1.hok.fresh hge)
theorem zfY {es:List Expr} {k:Nat} {t:TGs} {n:Nat} {pos:Pos} (hK:X.K=K) (hc:X.calm=true) (h:PGs X es t)
  (hn:(assignEach es X.env).length=n:=by rfl) (hst:(assignEach es X.env).findIdx? (·.1)=none:=by rfl):PG X (.Tuple es k pos) (gTup K n t):=hK▸zmR hc h hn hst
end
section
variable {σ:St} {H:Hp} {D:Ends} {nx bk ct:St→Hp→Prop} {rt:VK} {K:PySem.W.Frag} {Q:VK}
theorem zjL {a b:Addr} {xs ys:List V} {P:Addr→Addr→Prop} (h1:SqL K H a xs) (h2:SqL K H b ys) (q:P a b):∃ a' b' xs ys,[V.ref a,V.ref b]=[.ref a',.ref b']∧SqL K H a' xs∧SqL K H b' ys∧P a' b':=⟨a,b,xs,ys,rfl,h1,h2,q⟩
end
theorem znn {b:Bool} {t u:TS} {nx bk ct:St→Hp→Prop} {rt:VK} {σ:St} {H:Hp} (M:St→Hp→Prop) (h1:b=true→∀ nx':St→Hp→Prop,(∀ σ' H',M σ' H'→nx' σ' H')→t ⟨nx',rt,bk,ct⟩ σ H)
  (h2:b=false→∀ nx':St→Hp→Prop,(∀ σ' H',M σ' H'→nx' σ' H')→u ⟨nx',rt,bk,ct⟩ σ H) (rest:∀ σ' H',M σ' H'→nx σ' H'):if b=true then t ⟨nx,rt,bk,ct⟩ σ H else u ⟨nx,rt,bk,ct⟩ σ H:=by
 cases b with
 | true=>exact h1 rfl nx rest
 | false=>exact h2 rfl nx rest
theorem ze0 {t u:TS} {nx bk ct:St→Hp→Prop} {rt:VK} {σ:St} {H:Hp} (M:St→Hp→Prop) (h1:∀ nx':St→Hp→Prop,(∀ σ' H',M σ' H'→nx' σ' H')→t ⟨nx',rt,bk,ct⟩ σ H)
  (h2:∀ σ' H',M σ' H'→u ⟨nx,rt,bk,ct⟩ σ' H'):tSeq t u ⟨nx,rt,bk,ct⟩ σ H:=h1 _ h2
section
variable {X:Cx} {K:PySem.W.Frag}
def eqVs:List V→List V→Bool
 | [],[]=>true
 | x::xs,y::ys=>eqV x y && eqVs xs ys
 | _,_=>false
theorem eqVs_len:∀ {xs ys:List V},xs.length≠ys.length→eqVs xs ys=false
 | [],[],h=>absurd rfl h
 | [],_::_,_=>rfl
 | _::_,[],_=>rfl
 | x::xs,y::ys,h=>by
   unfold eqVs;rw [eqVs_len (xs:=xs) (ys:=ys) (fun e=>h (by simp [e])),Bool.and_false]
theorem eqVs_all:∀ {xs ys:List V},xs.length=ys.length→(List.range xs.length).all (fun j=>eqV (xs.getD j .non) (ys.getD j .non))=eqVs xs ys
 | [],[],_=>rfl
 | x::xs,y::ys,h=>by
   have ih:=eqVs_all (xs:=xs) (ys:=ys) (by simpa using h);rw [List.length_cons,List.range_succ_eq_map,List.all_cons,List.all_map];unfold eqVs;rw [← ih];rfl
theorem eqVs_ints:∀ {xs ys:List Int},eqVs (xs.map V.int) (ys.map V.int)=decide (xs=ys)
 | [],[]=>rfl
 | [],_::_=>rfl
 | _::_,[]=>rfl
 | x::xs,y::ys=>by
   rw [List.map_cons,List.map_cons];unfold eqVs;rw [eqVs_ints]
   by_cases h:x=y
   ·subst h;simp [eqV]
   ·simp [eqV,h]
def rEqL (K:PySem.W.Frag):R2:=fun x y H Q=>∃ a b xs ys,x=.ref a∧y=.ref b∧SqL K H a xs∧SqL K H b ys∧xs.all flatV=true∧ys.all flatV=true∧Q (.bl (eqVs xs ys)) H
theorem zno (hu:X.A.units < cLine):OpR X (compareOp .Eq) (rEqL X.K):=by
 intro pins s σ H x y v u Q I rx ry h;obtain ⟨a,b,xs,ys,rfl,rfl,h1,h2,f1,f2,q⟩:=h
 cases rx
 cases ry
 obtain ⟨its1,r1,p1,z1⟩:=I.list h1;obtain ⟨its2,r2,p2,z2⟩:=I.list h2;have l1:=r1.length;have l2:=r2.length
 by_cases hl:xs.length=ys.length
 ·refine SeqAt.eq_listAt (e:=fun j=>eqV (xs.getD j .non) (ys.getD j .non)) p1.isList p2.isList (by simp;omega) hu (fun j h1 h2=>?_) ⟨.bl _,H,I,rfl,?_⟩
  ·simp only [List.size_toArray] at h1 h2;have e1:xs[j]? = some (xs.getD j .non):=by rw [List.getD_eq_getElem?_getD,List.getElem?_eq_getElem (by omega)];rfl
   have e2:ys[j]? = some (ys.getD j .non):=by rw [List.getD_eq_getElem?_getD,List.getElem?_eq_getElem (by omega)];rfl
   obtain ⟨u1,a1,b1⟩:=r1.get e1;obtain ⟨u2,a2,b2⟩:=r2.get e2;have c1:its1.toArray[j]=u1:=by simpa [List.getElem?_eq_getElem h1] using a1
   have c2:its2.toArray[j]=u2:=by simpa [List.getElem?_eq_getElem h2] using a2
   rw [c1,c2];exact zju b1 b2 (List.all_eq_true.mp f1 _ (List.mem_of_getElem? e1)) (List.all_eq_true.mp f2 _ (List.mem_of_getElem? e2))
  ·have e:its1.toArray.size=xs.length:=by simp;omega
   rw [e,eqVs_all hl];exact q
 ·refine SeqAt.eq_list_lengthsAt p1.isList p2.isList (by simp;omega) hu ⟨.bl false,H,I,rfl,?_⟩;rw [← eqVs_len hl];exact q
def zkS (K:PySem.W.Frag):R2:=fun x y H Q=>rEq x y H Q∨rEqL K x y H Q
theorem zmf (h:X.K=K) (hu:X.A.units < cLine):OpR X (compareOp .Eq) (zkS K):=op_eq.or (h▸zno hu)
end
section
variable {H:Hp} {K:PySem.W.Frag} {Q:VK} {i j:Int}
theorem zmg (q:Q (.bl (decide (i=j))) H):zkS K (.int i) (.int j) H Q:=.inl (zoe q)
theorem zmh {a b:Bool} (q:Q (.bl (decide (a=b))) H):zkS K (.bl a) (.bl b) H Q:=.inl (zog q)
theorem zjM {x:Int} {xs:List Int}:inV (.int x) (xs.map V.int)=decide (x∈xs):=by
 unfold inV;rw [Bool.eq_iff_iff,List.any_eq_true];simp only [List.mem_map,decide_eq_true_eq];constructor
 ·rintro ⟨v,⟨y,hy,rfl⟩,e⟩;have e':y=x:=by simpa [eqV] using e
  rw [← e'];exact hy
 ·intro h;exact ⟨_,⟨x,h,rfl⟩,by simp [eqV]⟩
theorem zor {a:Addr} {xs:List Int} (h:SqL K H a (xs.map V.int)) (q:Q (.bl (decide (i∈xs))) H):rIn K false (.int i) (.ref a) H Q :=
 ⟨a,_,rfl,.inl h,rfl,by simp [flatV],by rw [zjM];exact q⟩
theorem zkT {a:Addr} {xs:List Int} (h:SqL K H a (xs.map V.int)) (q:Q (.bl (!decide (i∈xs))) H):rIn K true (.int i) (.ref a) H Q :=
 ⟨a,_,rfl,.inl h,rfl,by simp [flatV],by rw [zjM];exact q⟩
end
end L2
namespace L2
open PySem PySem.Spec PyProof.Rows
section
variable {prog:Program} {w:World} {A:Around} {R:Result→Shared→Prop}
end
section
variable {X:Cx} {K:PySem.W.Frag}
end
section
variable {σ:St} {H:Hp} {Q:VK} {K:PySem.W.Frag} {ta td:TE}
end
end L2
namespace Prf
open PySem PySem.Spec PyProof.Rows L2
def zbJ (ns:List Int) (k:Int):Int:=if (ns.length:Int)=0 then 0 else ns.getD (k % ns.length).toNat 0+k / ns.length
structure SetM (m:Int) (xs:List Int):Prop where
 up:xs.Pairwise (· < ·)
 rng:∀ x∈xs,1≤x∧x≤m
def zcg (hs:List Int) (r:List Int) (n:Int) (x:Int):Int:=if r.getD 0 0≠hs.getD (x-1).toNat 0∧n < r.getD 1 0 then n+1 else n
def zhY (hs:List Int) (r:List Int) (xs:List Int):Int:=xs.foldl (zcg hs r) 0
def zfG (hs:List Int) (rs:List (List Int)) (xs:List Int):Int:=(rs.map fun r=>zhY hs r xs).sum
theorem zhh (hs:List Int) (rs:List (List Int)) (xs:List Int) (i:Nat) (h:i < rs.length):zfG hs (rs.take (i+1)) xs=zfG hs (rs.take i) xs+zhY hs (rs.getD i []) xs:=by
 unfold zfG;rw [List.take_add_one,List.getElem?_eq_getElem h,List.map_append,List.sum_append,List.getD_eq_getElem?_getD,List.getElem?_eq_getElem h];simp
theorem zcz {xs:List Int} {i:Nat} {x:V} (hx:(xs.map V.int)[i]? = some x):i < xs.length∧x=.int (xs.getD i 0):=by
 have hi:i < xs.length:=by
  have:=(List.getElem?_eq_some_iff.mp hx).1;simpa using this
 refine ⟨hi,?_⟩;rw [List.getElem?_map,List.getElem?_eq_getElem hi] at hx;rw [List.getD_eq_getElem?_getD,List.getElem?_eq_getElem hi];exact (Option.some.inj hx).symm
theorem zfZ {xs:List Addr} {i:Nat} {x:V} (hx:(xs.map V.ref)[i]? = some x):i < xs.length∧x=.ref (xs.getD i 0):=by
 have hi:i < xs.length:=by
  have:=(List.getElem?_eq_some_iff.mp hx).1;simpa using this
 refine ⟨hi,?_⟩;rw [List.getElem?_map,List.getElem?_eq_getElem hi] at hx;rw [List.getD_eq_getElem?_getD,List.getElem?_eq_getElem hi];exact (Option.some.inj hx).symm
theorem getD_mem {α:Type} {xs:List α} {d:α} {i:Nat} (h:i < xs.length):xs.getD i d∈xs:=by
 rw [List.getD_eq_getElem?_getD,List.getElem?_eq_getElem h];exact List.getElem_mem h
end Prf
namespace L2
open PySem PySem.Spec PyProof.Rows
section
variable {X:Cx} {K:PySem.W.Frag}
def cMin2:List V→Hp→VK→Prop:=fun xs H Q=>∃ i j,xs=[.int i,.int j]∧Q (.int (if j < i then j else i)) H
def cMax2:List V→Hp→VK→Prop:=fun xs H Q=>∃ i j,xs=[.int i,.int j]∧Q (.int (if j > i then j else i)) H
theorem zfH (hc:X.calm=true):zdm X (.builtin "min") cMin2:=zjo hc
theorem ziB (hc:X.calm=true):zdm X (.builtin "max") cMax2:=zjn hc
def CBig (i j:Int):Prop:=0 < j∧j < 2 ^ 200
theorem op_fdivB:OpR X (binaryOp .FloorDiv) (rI CBig fun i j=>.int (i / j)):=opI fun i j _ _ _ _ _ hc q=>by
 obtain ⟨h1,h2⟩:=hc;have hl:j.natAbs.log2 < 9000:=by
  have h3:j.natAbs < 2 ^ 200:=by
   have e:(j.natAbs:Int)=j:=Int.natAbs_of_nonneg (by omega);have:(j.natAbs:Int) < ((2 ^ 200:Nat):Int):=by rw [e];exact h2
   exact Int.ofNat_lt.mp this
  have h4:j.natAbs.log2 < 200:=(Nat.log2_lt (by omega)).mpr h3;omega
 refine floordiv_int (by omega) ?_ (.inl (PyProof.noPylong_of_log2 hl));rw [Int.fdiv_eq_ediv_of_nonneg i (by omega)];exact q
end
section
variable {σ:St} {H:Hp} {Q:VK} {K:PySem.W.Frag} {i j:Int} {p:Addr} {xs:List V} {ta:TA} {te:TE} {tl th:TO}
theorem znp (q:Q (.int (if j < i then j else i)) H):cMin2 [.int i,.int j] H Q:=⟨i,j,rfl,q⟩
theorem znq (q:Q (.int (if j > i then j else i)) H):cMax2 [.int i,.int j] H Q:=⟨i,j,rfl,q⟩
theorem znr {f:Int→Int→V} (c1:0 < j) (c2:j < 2 ^ 200) (q:Q (f i j) H):rI CBig f (.int i) (.int j) H Q:=⟨i,j,rfl,rfl,⟨c1,c2⟩,q⟩
theorem r_sl {r:V→Option Int→Option Int→Hp→VK→Prop} (h:te σ H fun x H1=>tl σ H1 fun l H2=>th σ H2 fun u H3=>r x l u H3 Q):tSl r te tl th σ H Q:=h
theorem zmi {QO:Option Int→Hp→Prop} (h:QO none H):tNoPart σ H QO:=h
theorem zns {QO:Option Int→Hp→Prop} (h:te σ H fun x H1=>∃ i,x=.int i∧QO (some i) H1):zm0 te σ H QO:=h
theorem zmj {P:Int→Prop} (h:P i):∃ k,V.int i=.int k∧P k:=⟨i,rfl,h⟩
theorem zct {lo hi:Option Int} (h:SqL K H p xs) (q:∀ l H2,H l=none→Same H H2→H2 l=some (.lst (cutV xs lo hi))→Q (.ref l) H2):rSlL K (.ref p) lo hi H Q:=⟨p,xs,rfl,h,fun l hl=>q l _ hl (za0 hl) zay⟩
theorem zhi (k:Nat):cutV xs none (some (k:Int))=xs.take k:=by
 unfold cutV;rw [HT.sIx_none,HT.sIx_nat,List.drop_zero,Nat.sub_zero]
 by_cases h:k≤xs.length
 ·rw [Nat.min_eq_left h]
 ·rw [Nat.min_eq_right (by omega),List.take_of_length_le (Nat.le_refl _),List.take_of_length_le (by omega)]
theorem zgw (k:Nat):cutV xs (some (k:Int)) none=xs.drop k:=by
 unfold cutV;rw [HT.sIx_none,HT.sIx_nat]
 by_cases h:k≤xs.length
 ·rw [Nat.min_eq_left h,List.take_of_length_le (by rw [List.length_drop];omega)]
 ·rw [Nat.min_eq_right (by omega),List.drop_eq_nil_of_le (Nat.le_refl _),List.drop_eq_nil_of_le (by omega)];simp
theorem zkU {nx bk ct:St→Hp→Prop} {rt:VK} {to ti:TE} (h:te σ H fun x H1=>gSub to ti rSetL x σ H1 nx):tAsg te (gSub to ti rSetL) ⟨nx,rt,bk,ct⟩ σ H:=h
theorem znt {to ti:TE} {v:V} {N:St→Hp→Prop} (h:to σ H fun o H1=>ti σ H1 fun i H2=>rSetL o i v H2 fun H3=>N σ H3):gSub to ti rSetL v σ H N:=h
theorem zlC {n:Nat} {k:Int} (h0:0≤k) (h1:k < n):ixN n k=some k.toNat:=by
 unfold ixN;rw [if_pos h0,if_pos h1]
theorem zhZ {v:V} {N:Hp→Prop} (h:H p=some (.lst xs)) (h0:0≤i) (h1:i < xs.length) (q:∀ H2,But p H H2→H2 p=some (.lst (xs.set i.toNat v))→N H2):rSetL (.ref p) (.int i) v H N:=⟨p,xs,i,_,rfl,rfl,h,zlC h0 h1,q _ But.upd zay⟩
theorem zdj (h:H p=some (.lst xs)) (h0:0≤i) (h1:i < xs.length) (hb:i < 2 ^ 63) (q:∀ H2,But p H H2→H2 p=some (.lst (xs.eraseIdx i.toNat))→Q (xs.getD i.toNat .non) H2):rPopAt (.ref p) [.int i] H Q:=by
 have hi:i.toNat < xs.length:=by omega
 refine ⟨p,xs,i,i.toNat,xs.getD i.toNat .non,rfl,rfl,h,by omega,hb,(zhd (zlC h0 h1)).1,?_,q _ But.upd zay⟩;rw [List.getD_eq_getElem?_getD,List.getElem?_eq_getElem hi];rfl
end
end L2
namespace Prf
open PySem PySem.Spec PyProof.Rows L2
def cntB (rows:List (List Int)) (x:Int):Nat:=(rows.filter fun r=>decide (x∈r)).length
theorem zgx (rows:List (List Int)) (x:Int):((List.range rows.length).filter fun i=>decide (x∈rows.getD i [])).length=cntB rows x:=by
 unfold cntB
 induction rows with
 | nil=>rfl
 | cons r rs ih =>
   rw [List.length_cons,List.range_succ_eq_map,List.filter_cons,List.filter_cons,List.filter_map,];have e:((fun i=>decide (x∈(r::rs).getD i []))∘Nat.succ)=fun i=>decide (x∈rs.getD i []):=by funext i;rfl
   rw [e]
   by_cases h:x∈r
   ·simp only [List.getD_cons_zero,h,decide_true,if_true,List.length_cons,List.length_map];rw [ih]
   ·simp only [List.getD_cons_zero,h,decide_false,Bool.false_eq_true,if_false,List.length_map];exact ih
theorem zeM {K:PySem.W.Frag} {σ:L2.St} {H:Hp} {Q:VK} {js:List Nat} {tc:TT} {a:Addr} {ps:List Addr} {rows:List (List Int)} {x:Int} (h1:SqL K H a (ps.map V.ref)) (h2:ps.length=rows.length) (hz:rows.length≤1000)
  (ht:∀ i H' (Q':Bool→Hp→Prop),i < rows.length→Same H H'→Q' (decide (x∈rows.getD i [])) H'→tc (some (.ref (ps.getD i 0))::capV js σ) H' Q')
  (hq:∀ p H2 zs,H p=none→Same H H2→H2 p=some (.lst zs)→zs.length=cntB rows x→Q (.ref p) H2):zfs (Itl K a) js tc (tVar 0) σ H Q:=by
 have ex:∀ i,i < rows.length→(ps.map V.ref).getD i .non=.ref (ps.getD i 0):=fun i hi=>by
  rw [List.getD_eq_getElem?_getD,List.getElem?_map,List.getElem?_eq_getElem (by omega),List.getD_eq_getElem?_getD,List.getElem?_eq_getElem (by omega)];rfl
 have hl:(ps.map V.ref).length=rows.length:=by rw [List.length_map,h2]
 refine zc0 (zbq h1) (by rw [hl];exact za1 hz) (fun i=>decide (x∈rows.getD i [])) (fun i=>.ref (ps.getD i 0)) (fun i H' Q' hi s q=>?_) (fun i H' Q' hi s _ q=>?_) fun p hp=>?_
 ·show tc (some ((ps.map V.ref).getD i .non)::capV js σ) H' Q';rw [hl] at hi;rw [ex i hi];exact ht i H' Q' hi s q
 ·show tVar 0 (some ((ps.map V.ref).getD i .non)::capV js σ) H' Q';rw [hl] at hi;rw [ex i hi];exact zeE (i:=0) rfl q
 ·refine hq p _ _ hp (za0 hp) zay ?_;rw [List.length_map,hl,zgx]
end Prf
namespace L2
open PySem PySem.Spec PyProof.Rows
section
variable {X:Cx} {K:PySem.W.Frag}
def rIsN:R2:=fun x y H Q=>y=.non∧Q (.bl (decide (x=.non))) H
def rNotN:R2:=fun x y H Q=>y=.non∧Q (.bl (!decide (x=.non))) H
theorem op_isNN:OpR X (compareOp .Is) rIsN:=op_isN
theorem op_notNN:OpR X (compareOp .IsNot) rNotN:=op_notN
end
section
variable {σ:St} {H:Hp} {Q:VK} {K:PySem.W.Frag} {x:V}
theorem zos (q:Q (.bl (decide (x=.non))) H):rIsN x .non H Q:=⟨rfl,q⟩
theorem znu (q:Q (.bl (!decide (x=.non))) H):rNotN x .non H Q:=⟨rfl,q⟩
theorem zgy (xs:List V) (c:V→Bool):((List.range xs.length).filter fun i=>c (xs.getD i .non)).map (fun i=>xs.getD i .non)=xs.filter c:=by
 induction xs with
 | nil=>rfl
 | cons y ys ih =>
   rw [List.length_cons,List.range_succ_eq_map,List.filter_cons,List.filter_map,List.filter_cons];have e:((fun i=>c ((y::ys).getD i .non))∘Nat.succ)=fun i=>c (ys.getD i .non):=by funext i;rfl
   have e2:∀ l:List Nat,(l.map Nat.succ).map (fun i=>(y::ys).getD i .non)=l.map fun i=>ys.getD i .non:=fun l=>by rw [List.map_map];rfl
   rw [e]
   cases h:c y with
   | true =>
     simp only [List.getD_cons_zero,h,if_true,List.map_cons];rw [e2,ih]
   | false =>
     simp only [List.getD_cons_zero,h,Bool.false_eq_true,if_false];rw [e2,ih]
theorem zdQ {js:List Nat} {tc:TT} {a:Addr} {xs:List V} (h:SqL K H a xs) (hz:xs.length≤1000) (c:V→Bool)
  (ht:∀ i H' (Q':Bool→Hp→Prop),i < xs.length→Same H H'→Q' (c (xs.getD i .non)) H'→tc (some (xs.getD i .non)::capV js σ) H' Q')
  (hq:∀ p H2,H p=none→Same H H2→H2 p=some (.lst (xs.filter c))→Q (.ref p) H2):zfs (Itl K a) js tc (tVar 0) σ H Q:=by
 refine zc0 (zbq h) (za1 hz) (fun i=>c (xs.getD i .non)) (fun i=>xs.getD i .non) ht (fun i H' Q' _ _ _ q=>zeE (i:=0) rfl q) fun p hp=>hq p _ hp (za0 hp) ?_;rw [zay,zgy]
end
end L2
namespace Prf
open PySem PySem.Spec PyProof.Rows L2
def encO:Option Int→V
 | none=>.non
 | some i=>.int i
theorem ziC (gs:List (Option Int)):(gs.map encO).filter (fun x=>!decide (x=V.non))=(gs.filterMap id).map V.int:=by
 induction gs with
 | nil=>rfl
 | cons g gs ih =>
   rw [List.map_cons,List.filter_cons]
   cases g with
   | none=>simpa [encO] using ih
   | some i=>simpa [encO] using ih
def zhj (c:Int):Int:=if c % 3=0 then c / 3 % 101 else if c % 3=1 then c / 3 % 12 else ([0,1,99,100]:List Int).getD (c / 3 % 4).toNat 0
theorem zjN (c:Int):0≤zhj c∧zhj c≤100:=by
 unfold zhj;split
 ·omega
 ·split
  ·omega
  ·have:c / 3 % 4=0∨c / 3 % 4=1∨c / 3 % 4=2∨c / 3 % 4=3:=by omega
   rcases this with e | e | e | e <;> rw [e] <;> decide
def zkV (c st k:Int):Int:=k+([st,0-st,st+1,0-st-1]:List Int).getD (c / 303 % 4).toNat 0
def ptsB (c st:Int) (gs:List (Option Int)):Int :=
 if c / 101 % 3=1∧(gs.filterMap id).length=1∧0≤zkV c st ((gs.filterMap id).getD 0 0)∧zkV c st ((gs.filterMap id).getD 0 0)≤100 then zkV c st ((gs.filterMap id).getD 0 0) else c % 101
theorem zkW (c st:Int) (gs:List (Option Int)):0≤ptsB c st gs∧ptsB c st gs≤100:=by
 unfold ptsB;split
 ·rename_i h;exact ⟨h.2.2.1,h.2.2.2⟩
 ·omega
def zcu (rs:List (List Int)) (h:Int) (row:List Int):Bool :=
 decide (row.length=2) && row.all (fun x=>decide (1≤x) && decide (x≤(rs.length:Int)) && !decide ((rs.getD (x-1).toNat []).getD 0 0=h)) && decide (row.getD 0 0 < row.getD 1 0)
def zaX (hs:List Int) (rs rows:List (List Int)):Bool :=
 decide (rows.length=hs.length) && (List.range hs.length).all (fun k=>zcu rs (hs.getD k 0) (rows.getD k [])) && (List.range rs.length).all (fun k=>decide ((cntB rows (0+(k:Int)+1):Int)≤(rs.getD k []).getD 1 0))
theorem zc1 {n:Nat} {c:Nat→Bool} {k:Nat} (h:k < n) (hc:c k=false):(List.range n).all c=false:=by
 rw [Bool.eq_false_iff];intro z;have:=List.all_eq_true.mp z k (List.mem_range.mpr h);rw [hc] at this
 cases this
theorem zbe {n:Nat} {c:Nat→Bool} (h:∀ k,k < n→c k=true):(List.range n).all c=true:=List.all_eq_true.mpr fun k hk=>h k (List.mem_range.mp hk)
theorem zjO {xs:List Int} {c:Int→Bool} {i:Nat} (h:i < xs.length) (hc:c (xs.getD i 0)=false):xs.all c=false:=by
 rw [Bool.eq_false_iff];intro z;have:=List.all_eq_true.mp z _ (getD_mem (d:=0) h);rw [hc] at this
 cases this
theorem zkX {xs:List Int} {c:Int→Bool} (h:∀ i,i < xs.length→c (xs.getD i 0)=true):xs.all c=true:=List.all_eq_true.mpr fun x hx=>by
 obtain ⟨i,hi,e⟩:=mem_getD (d:=0) hx;rw [← e];exact h i hi
structure InB (hs:List Int) (rs:List (List Int)):Prop where
 lp:hs.length≤10
 lr:rs.length≤8
 hh:∀ i,i < hs.length→1≤hs.getD i 0∧hs.getD i 0≤6
 r2:∀ i,i < rs.length→(rs.getD i []).length=2
 rh:∀ i,i < rs.length→0≤(rs.getD i []).getD 0 0∧(rs.getD i []).getD 0 0≤6
 rl:∀ i,i < rs.length→0≤(rs.getD i []).getD 1 0∧(rs.getD i []).getD 1 0≤30
def fitB (a b:Int):List Int:=((List.range 6).filter fun i:Nat=>!decide (1+(i:Int)=a) && !decide (1+(i:Int)=b)).map fun i:Nat=>1+(i:Int)
theorem zkY {a b x:Int} (h:x∈fitB a b):1≤x∧x≤6∧x≠a∧x≠b:=by
 unfold fitB at h;obtain ⟨i,hi,rfl⟩:=List.mem_map.mp h;obtain ⟨h1,h2⟩:=List.mem_filter.mp hi;have:=List.mem_range.mp h1;simp only [Bool.and_eq_true,Bool.not_eq_true',decide_eq_false_iff_not] at h2;exact ⟨by omega,by omega,h2.1,h2.2⟩
theorem zh0 (a b:Int):0 < (fitB a b).length:=by
 have key:∃ i:Nat,i < 6∧1+(i:Int)≠a∧1+(i:Int)≠b:=by
  by_cases h0:(1:Int)≠a∧(1:Int)≠b
  ·exact ⟨0,by omega,by omega,by omega⟩
  ·by_cases h1:(2:Int)≠a∧(2:Int)≠b
   ·exact ⟨1,by omega,by omega,by omega⟩
   ·exact ⟨2,by omega,by omega,by omega⟩
 obtain ⟨i,h1,h2,h3⟩:=key;have:1+(i:Int)∈fitB a b:=by
  unfold fitB;refine List.mem_map.mpr ⟨i,List.mem_filter.mpr ⟨List.mem_range.mpr h1,?_⟩,rfl⟩;rw [decide_eq_false h2,decide_eq_false h3];rfl
 exact List.length_pos_of_mem this
theorem zmk (a b:Int):(fitB a b).length≤6:=by
 unfold fitB;rw [List.length_map];exact Nat.le_trans (List.length_filter_le _ _) (by simp)
structure PRow (c:Nat) (hB:Nat→Int) (h:Int) (row:List Int):Prop where
 ex:∃ x y:Nat,x < y∧y < c∧row=[(x:Int)+1,(y:Int)+1]∧h≠hB x∧h≠hB y
 rng:1≤h∧h≤6
structure zhk (least:Int) (hs:List Int) (rs rows:List (List Int)):Prop where
 inb:InB hs rs
 two:2≤rs.length
 len:rows.length=hs.length
 low:least≤hs.length
 row2:∀ i,i < rows.length→(rows.getD i []).length=2
 right:zaX hs rs rows=true
theorem PRow.pair {c:Nat} {hB:Nat→Int} {h:Int} {row:List Int} {rs:List (List Int)} (P:PRow c hB h row) (hl:rs.length=c) (hh:∀ j,j < c→(rs.getD j []).getD 0 0=hB j):zcu rs h row=true:=by
 obtain ⟨⟨x,y,h1,h2,rfl,h3,h4⟩,_⟩:=P;unfold zcu;have ex:((x:Int)+1-1).toNat=x:=by omega
 have ey:((y:Int)+1-1).toNat=y:=by omega
 simp only [List.length_cons,List.length_nil,decide_true,Bool.true_and,List.all_cons,List.all_nil,Bool.and_true,ex,ey,hh x (by omega),hh y h2,List.getD_cons_zero,List.getD_cons_succ];rw [decide_eq_true (show 1≤(x:Int)+1 by omega),decide_eq_true (show (x:Int)+1≤(rs.length:Int) by omega),decide_eq_false (fun z=>h3 z.symm),decide_eq_true (show 1≤(y:Int)+1 by omega),decide_eq_true (show (y:Int)+1≤(rs.length:Int) by omega),decide_eq_false (fun z=>h4 z.symm),decide_eq_true (show (x:Int)+1 < (y:Int)+1 by omega)];rfl
theorem zml (rows:List (List Int)) (x:Int):cntB rows x≤rows.length:=List.length_filter_le _ _
end Prf
namespace Hall
def sm:Nat→(Nat→Nat)→Nat
 | 0,_=>0
 | n+1,f=>sm n f+f n
theorem sm_congr {n:Nat} {f g:Nat→Nat} (h:∀ i,i < n→f i=g i):sm n f=sm n g:=by
 induction n with
 | zero=>rfl
 | succ n ih=>simp only [sm];rw [ih (fun i hi=>h i (by omega)),h n (by omega)]
theorem sm_add {n:Nat} {f g:Nat→Nat}:sm n (fun i=>f i+g i)=sm n f+sm n g:=by
 induction n with
 | zero=>rfl
 | succ n ih=>simp only [sm];rw [ih];omega
theorem sm_le {n:Nat} {f g:Nat→Nat} (h:∀ i,i < n→f i≤g i):sm n f≤sm n g:=by
 induction n with
 | zero=>exact Nat.le_refl _
 | succ n ih =>
   simp only [sm];have:=ih (fun i hi=>h i (by omega));have:=h n (by omega);omega
theorem sm_zero {n:Nat}:sm n (fun _=>0)=0:=by
 induction n with
 | zero=>rfl
 | succ n ih=>simp only [sm];omega
theorem sm_swap {n m:Nat} {f:Nat→Nat→Nat} :
  sm n (fun i=>sm m (fun j=>f i j))=sm m (fun j=>sm n (fun i=>f i j)):=by
 induction n with
 | zero=>simp only [sm];rw [sm_zero]
 | succ n ih=>simp only [sm];rw [ih,sm_add]
theorem zc2 {n:Nat} {f g:Nat→Nat} (h:∀ i,i < n→f i≤g i) (e:sm n g≤sm n f) :
  ∀ i,i < n→f i=g i:=by
 induction n with
 | zero=>intro i hi;omega
 | succ n ih =>
   simp only [sm] at e;have h1:=sm_le (fun i hi=>h i (by omega):∀ i,i < n→f i≤g i);have h2:=h n (by omega);intro i hi
   by_cases hn:i=n
   ·subst hn;omega
   ·exact ih (fun i hi=>h i (by omega)) (by omega) i (by omega)
theorem zdo {n p:Nat} {f:Nat→Nat} (hp:p < n) (h:∀ i,i < n→i≠p→f i=0):sm n f=f p:=by
 induction n with
 | zero=>omega
 | succ n ih =>
   simp only [sm]
   by_cases hn:p=n
   ·subst hn;have:sm p f=sm p (fun _=>0):=sm_congr (fun i hi=>h i (by omega) (by omega));rw [this,sm_zero];omega
   ·rw [ih (by omega) (fun i hi hne=>h i (by omega) hne),h n (by omega) (by omega)];omega
theorem znv {n:Nat} {f:Nat→Nat} (h:0 < sm n f):∃ i,i < n∧0 < f i:=by
 induction n with
 | zero=>simp [sm] at h
 | succ n ih =>
   simp only [sm] at h
   by_cases hn:0 < f n
   ·exact ⟨n,by omega,hn⟩
   ·obtain ⟨i,hi,hf⟩:=ih (by omega);exact ⟨i,by omega,hf⟩
theorem sm_lt {n p:Nat} {f g:Nat→Nat} (hp:p < n) (h:∀ i,i < n→f i≤g i) (hl:f p < g p) :
  sm n f < sm n g:=by
 have h1:=sm_le h;rcases Nat.lt_or_ge (sm n f) (sm n g) with h2 | h2
 ·exact h2
 ·have:=zc2 h h2 p hp;omega
def b2 (b:Bool):Nat:=if b then 1 else 0
@[simp] theorem b2_t:b2 true=1:=rfl
@[simp] theorem b2_f:b2 false=0:=rfl
def deg (n:Nat) (A:Nat→Nat→Bool) (S:Nat→Bool) (r:Nat):Nat:=sm n fun p=>b2 (S p && A p r)
def room (n m:Nat) (L:Nat→Nat) (A:Nat→Nat→Bool) (S:Nat→Bool):Nat:=sm m fun r=>min (L r) (deg n A S r)
def need (n:Nat) (d:Nat→Nat) (S:Nat→Bool):Nat:=sm n fun p=>if S p then d p else 0
def Ok (n m:Nat) (L d:Nat→Nat) (A:Nat→Nat→Bool):Prop:=∀ S,need n d S≤room n m L A S
variable {n m:Nat} {L d:Nat→Nat} {A:Nat→Nat→Bool}
theorem zmm {S T:Nat→Bool} {r:Nat} :
  deg n A (fun p=>S p && T p) r+deg n A (fun p=>S p || T p) r=deg n A S r+deg n A T r:=by
 unfold deg;rw [← sm_add,← sm_add];apply sm_congr;intro i _;show b2 ((S i && T i) && A i r)+b2 ((S i || T i) && A i r)=b2 (S i && A i r)+b2 (T i && A i r)
 cases S i <;> cases T i <;> cases A i r <;> rfl
theorem zkZ {S T:Nat→Bool} :
  need n d (fun p=>S p && T p)+need n d (fun p=>S p || T p)=need n d S+need n d T:=by
 unfold need;rw [← sm_add,← sm_add];apply sm_congr;intro i _;show (if S i && T i then d i else 0)+(if S i || T i then d i else 0)=(if S i then d i else 0)+(if T i then d i else 0)
 cases S i <;> cases T i <;> simp
theorem zeN {S T:Nat→Bool} (h:∀ p,S p=true→T p=true) {r:Nat}:deg n A S r≤deg n A T r:=by
 apply sm_le;intro i _;have h':=h i;show b2 (S i && A i r)≤b2 (T i && A i r)
 revert h'
 cases S i <;> cases T i <;> cases A i r <;> simp
theorem zk0 {S T:Nat→Bool} :
  room n m L A (fun p=>S p && T p)+room n m L A (fun p=>S p || T p)≤room n m L A S+room n m L A T:=by
 unfold room;rw [← sm_add,← sm_add];apply sm_le;intro r _;have h1:=zmm (n:=n) (A:=A) (S:=S) (T:=T) (r:=r);have h2:deg n A (fun p=>S p && T p) r≤deg n A S r:=zeN (fun p h=>by simp at h;exact h.1);have h3:deg n A (fun p=>S p && T p) r≤deg n A T r:=zeN (fun p h=>by simp at h;exact h.2);omega
theorem zjP (hA:Ok n m L d A) {S T:Nat→Bool} (hS:room n m L A S=need n d S)
  (hT:room n m L A T=need n d T) :
  room n m L A (fun p=>S p && T p)=need n d (fun p=>S p && T p):=by
 have h1:=zk0 (n:=n) (m:=m) (L:=L) (A:=A) (S:=S) (T:=T);have h2:=zkZ (n:=n) (d:=d) (S:=S) (T:=T);have h3:=hA (fun p=>S p && T p);have h4:=hA (fun p=>S p || T p);omega
def cut (A:Nat→Nat→Bool) (p r:Nat):Nat→Nat→Bool:=fun q s=>A q s && !(q == p && s == r)
theorem zmn {p r q s:Nat} (h:cut A p r q s=true):A q s=true:=by
 unfold cut at h;simp at h;exact h.1
theorem zfI {p r s:Nat} (h:s≠r) {S:Nat→Bool}:deg n (cut A p r) S s=deg n A S s:=by
 unfold deg cut;apply sm_congr;intro i _;have:(s == r)=false:=by simp [h]
 simp [this]
theorem zfJ {p r:Nat} (hp:p < n) {S:Nat→Bool} :
  deg n (cut A p r) S r+b2 (S p && A p r)=deg n A S r:=by
 unfold deg;have:b2 (S p && A p r)=sm n (fun q=>b2 (q == p && (S p && A p r))):=by
  rw [zdo hp]
  ·simp
  ·intro i _ hi;have:(i == p)=false:=by simp [hi]
   simp [this]
 rw [this,← sm_add];apply sm_congr;intro i _;unfold cut
 by_cases hi:i=p
 ·subst hi
  cases S i <;> cases A i r <;> simp
 ·have:(i == p)=false:=by simp [hi]
  simp [this]
theorem zmo {p r:Nat} (hp:p < n) {S:Nat→Bool} (hS:S p=true) :
  deg n A (fun q=>S q && !(q == p)) r+b2 (A p r)=deg n A S r:=by
 unfold deg;have:b2 (A p r)=sm n (fun q=>b2 (q == p && A p r)):=by
  rw [zdo hp]
  ·simp
  ·intro i _ hi;have:(i == p)=false:=by simp [hi]
   simp [this]
 rw [this,← sm_add];apply sm_congr;intro i _
 by_cases hi:i=p
 ·subst hi;simp [hS]
 ·have:(i == p)=false:=by simp [hi]
  simp [this]
theorem zk1 {p:Nat} (hp:p < n) {S:Nat→Bool} (hS:S p=true) :
  need n d (fun q=>S q && !(q == p))+d p=need n d S:=by
 unfold need;have:d p=sm n (fun q=>if q == p then d p else 0):=by
  rw [zdo hp]
  ·simp
  ·intro i _ hi;have:(i == p)=false:=by simp [hi]
   simp [this]
 rw [this,← sm_add];apply sm_congr;intro i _
 by_cases hi:i=p
 ·subst hi;simp [hS]
 ·have:(i == p)=false:=by simp [hi]
  simp [this]
theorem zh1 (hA:Ok n m L d A) {p r:Nat} (hp:p < n) (hr:r < m) (ha:A p r=true)
  (hn:¬Ok n m L d (cut A p r)) :
  ∃ S,room n m L A S=need n d S∧S p=true∧deg n A S r≤L r:=by
 have hn':∃ S,¬need n d S≤room n m L (cut A p r) S:=by
  apply Classical.byContradiction;intro hc;exact hn (fun S=>Classical.byContradiction fun h=>hc ⟨S,h⟩)
 obtain ⟨S,hS⟩:=hn';have h1:=hA S;have hle:∀ s,s < m→min (L s) (deg n (cut A p r) S s)≤min (L s) (deg n A S s):=by
  intro s _
  by_cases h:s=r
  ·subst h;have:=zfJ (A:=A) (r:=s) hp (S:=S);omega
  ·rw [zfI h];exact Nat.le_refl _
 have hd:room n m L A S≤room n m L (cut A p r) S+(min (L r) (deg n A S r)-min (L r) (deg n (cut A p r) S r)):=by
  unfold room;have:min (L r) (deg n A S r)-min (L r) (deg n (cut A p r) S r)
    = sm m (fun s=>if s=r then min (L r) (deg n A S r)-min (L r) (deg n (cut A p r) S r) else 0):=by
   rw [zdo hr]
   ·simp
   ·intro i _ hi;simp [hi]
  rw [this,← sm_add];apply sm_le;intro s hs
  by_cases h:s=r
  ·subst h;simp;omega
  ·simp [h,zfI h]
 have hc:=zfJ (A:=A) (r:=r) hp (S:=S);rw [ha] at hc;simp only [Bool.and_true] at hc;refine ⟨S,?_,?_,?_⟩
 ·cases hSp:S p
  ·rw [hSp,b2_f] at hc;omega
  ·rw [hSp,b2_t] at hc;omega
 ·cases hSp:S p
  ·rw [hSp,b2_f] at hc;omega
  ·rfl
 ·cases hSp:S p
  ·rw [hSp,b2_f] at hc;omega
  ·rw [hSp,b2_t] at hc;omega
theorem zk2 (hA:Ok n m L d A) {p:Nat} (hp:p < n) (hd:d p < sm m (fun r=>b2 (A p r)))
  (hn:∀ r,r < m→A p r=true→¬Ok n m L d (cut A p r)):False:=by
 have h0:∃ r,r < m∧0 < b2 (A p r):=znv (by omega);obtain ⟨r0,hr0,hb0⟩:=h0;have ha0:A p r0=true:=by cases h:A p r0 <;> simp_all
 have key:∀ k,k≤m→∃ T,room n m L A T=need n d T∧T p=true∧∀ r,r < k→A p r=true→deg n A T r≤L r:=by
  intro k
  induction k with
  | zero =>
    intro _;obtain ⟨S,h1,h2,_⟩:=zh1 hA hp hr0 ha0 (hn r0 hr0 ha0);exact ⟨S,h1,h2,fun r hr=>by omega⟩
  | succ k ih =>
    intro hk;obtain ⟨T,h1,h2,h3⟩:=ih (by omega)
    cases hak:A p k
    ·refine ⟨T,h1,h2,fun r hr ha=>?_⟩
     by_cases h:r=k
     ·subst h;rw [hak] at ha;simp at ha
     ·exact h3 r (by omega) ha
    ·obtain ⟨S,g1,g2,g3⟩:=zh1 hA hp (by omega) hak (hn k (by omega) hak);refine ⟨fun q=>T q && S q,zjP hA h1 g1,by simp [h2,g2],fun r hr ha=>?_⟩;have m1:deg n A (fun q=>T q && S q) r≤deg n A T r:=zeN (fun q h=>by simp at h;exact h.1);have m2:deg n A (fun q=>T q && S q) r≤deg n A S r:=zeN (fun q h=>by simp at h;exact h.2)
     by_cases h:r=k
     ·subst h;omega
     ·have:=h3 r (by omega) ha;omega
 obtain ⟨T,h1,h2,h3⟩:=key m (Nat.le_refl _);have e1:room n m L A T=room n m L A (fun q=>T q && !(q == p))+sm m (fun r=>b2 (A p r)):=by
  unfold room;rw [← sm_add];apply sm_congr;intro r hr;have e:=zmo (A:=A) (r:=r) hp h2
  cases ha:A p r
  ·rw [ha] at e;simp at e;simp;omega
  ·have:=h3 r hr ha;rw [ha] at e;simp at e;simp;omega
 have e2:=zk1 (d:=d) hp h2;have e3:=hA (fun q=>T q && !(q == p));omega
def zjQ (n m:Nat) (A:Nat→Nat→Bool):Nat:=sm n fun p=>sm m fun r=>b2 (A p r)
theorem zjR {p r:Nat} (hp:p < n) (hr:r < m) (ha:A p r=true) :
  zjQ n m (cut A p r) < zjQ n m A:=by
 have hle:∀ q s,b2 (cut A p r q s)≤b2 (A q s):=by
  intro q s;show b2 (A q s && !(q == p && s == r))≤b2 (A q s)
  cases A q s <;> cases (q == p) <;> cases (s == r) <;> simp
 apply sm_lt hp
 ·intro q _;exact sm_le (fun s _=>hle q s)
 ·apply sm_lt hr
  ·intro s _;exact hle p s
  ·unfold cut;simp [ha]
theorem hall:∀ k (A:Nat→Nat→Bool),zjQ n m A≤k→Ok n m L d A →
  ∃ B:Nat→Nat→Bool,(∀ p r,B p r=true→A p r=true) ∧
   (∀ p,p < n→sm m (fun r=>b2 (B p r))=d p)∧(∀ r,r < m→sm n (fun p=>b2 (B p r))≤L r):=by
 intro k
 induction k with
 | zero =>
   intro A he hA;refine ⟨A,fun _ _ h=>h,?_,?_⟩
   ·intro p hp;have h0:sm m (fun r=>b2 (A p r))=0:=by
     have:=zc2 (n:=n) (f:=fun _=>0) (g:=fun p=>sm m fun r=>b2 (A p r)) (fun _ _=>by omega)
      (by rw [sm_zero];exact he) p hp
     exact this.symm
    have h1:=hA (fun q=>q == p);have h2:need n d (fun q=>q == p)=d p:=by
     unfold need;rw [zdo hp]
     ·simp
     ·intro i _ hi;simp [hi]
    have h3:room n m L A (fun q=>q == p)≤sm m (fun r=>b2 (A p r)):=by
     unfold room;apply sm_le;intro r _;have:deg n A (fun q=>q == p) r=b2 (A p r):=by
      unfold deg;rw [zdo hp]
      ·simp
      ·intro i _ hi;have:(i == p)=false:=by simp [hi]
       simp [this]
     omega
    omega
   ·intro r hr;have h0:sm n (fun p=>b2 (A p r))=0:=by
     unfold zjQ at he;rw [sm_swap] at he;have:=zc2 (n:=m) (f:=fun _=>0) (g:=fun r=>sm n fun p=>b2 (A p r)) (fun _ _=>by omega)
      (by rw [sm_zero];exact he) r hr
     exact this.symm
    omega
 | succ k ih =>
   intro A he hA
   by_cases hall:∀ p,p < n→sm m (fun r=>b2 (A p r))=d p
   ·refine ⟨A,fun _ _ h=>h,hall,?_⟩;have h1:=hA (fun _=>true);have h2:need n d (fun _=>true)=sm n (fun p=>sm m (fun r=>b2 (A p r))):=by
     unfold need;apply sm_congr;intro i hi;rw [hall i hi];simp
    rw [h2,sm_swap] at h1;unfold room at h1;intro r hr;have h3:=zc2 (n:=m) (f:=fun r=>min (L r) (deg n A (fun _=>true) r))
     (g:=fun r=>sm n (fun p=>b2 (A p r)))
     (fun r _=>by
      have:deg n A (fun _=>true) r=sm n (fun p=>b2 (A p r)):=by
       unfold deg;apply sm_congr;intro i _;simp
      show min _ _≤_;omega) h1 r hr
    omega
   ·have:∃ p,p < n∧sm m (fun r=>b2 (A p r))≠d p:=by
     apply Classical.byContradiction;intro hc;exact hall (fun p hp=>Classical.byContradiction fun h=>hc ⟨p,hp,h⟩)
    obtain ⟨p,hp,hne⟩:=this;have hge:d p≤sm m (fun r=>b2 (A p r)):=by
     have h1:=hA (fun q=>q == p);have h2:need n d (fun q=>q == p)=d p:=by
      unfold need;rw [zdo hp]
      ·simp
      ·intro i _ hi;simp [hi]
     have h3:room n m L A (fun q=>q == p)≤sm m (fun r=>b2 (A p r)):=by
      unfold room;apply sm_le;intro r _;have:deg n A (fun q=>q == p) r=b2 (A p r):=by
       unfold deg;rw [zdo hp]
       ·simp
       ·intro i _ hi;have:(i == p)=false:=by simp [hi]
        simp [this]
      omega
     omega
    by_cases hs:∃ r,r < m∧A p r=true∧Ok n m L d (cut A p r)
    ·obtain ⟨r,hr,ha,hok⟩:=hs;have hlt:=zjR (n:=n) (m:=m) hp hr ha;obtain ⟨B,b1,b2',b3⟩:=ih (cut A p r) (by omega) hok;exact ⟨B,fun q s h=>zmn (b1 q s h),b2',b3⟩
    ·exact (zk2 hA hp (by omega) (fun r hr ha hok=>hs ⟨r,hr,ha,hok⟩)).elim
end Hall
namespace Hall
variable {n m:Nat} {L d:Nat→Nat} {A:Nat→Nat→Bool}
theorem room_of {B:Nat→Nat→Bool} (hs:∀ p r,B p r=true→A p r=true)
  (hd:∀ p,p < n→sm m (fun r=>b2 (B p r))=d p) (hL:∀ r,r < m→sm n (fun p=>b2 (B p r))≤L r) :
  Ok n m L d A:=by
 intro S;have h1:need n d S=sm m (fun r=>deg n B S r):=by
  unfold need deg;rw [sm_swap];apply sm_congr;intro p hp
  cases hS:S p
  ·simp only [Bool.false_and,b2_f];rw [sm_zero];rfl
  ·simp only [Bool.true_and];rw [hd p hp];rfl
 rw [h1];apply sm_le;intro r hr;have h2:deg n B S r≤deg n A S r:=by
  apply sm_le;intro p _;have:=hs p r
  revert this
  cases S p <;> cases B p r <;> cases A p r <;> simp
 have h3:deg n B S r≤sm n (fun p=>b2 (B p r)):=by
  apply sm_le;intro p _
  cases S p <;> cases B p r <;> simp
 have:=hL r hr;show _≤min (L r) (deg n A S r);omega
theorem znw {f:Nat→Bool} (h:sm m (fun r=>b2 (f r))=1) :
  ∃ a,a < m∧f a=true∧∀ r,r < m→f r=true→r=a:=by
 induction m with
 | zero=>simp [sm] at h
 | succ m ih =>
   simp only [sm] at h
   cases hf:f m
   ·rw [hf,b2_f] at h;obtain ⟨a,h1,h2,h3⟩:=ih (by omega);refine ⟨a,by omega,h2,fun r hr hfr=>?_⟩
    by_cases e:r=m
    ·subst e;rw [hf] at hfr;simp at hfr
    ·exact h3 r (by omega) hfr
   ·rw [hf,b2_t] at h;refine ⟨m,by omega,hf,fun r hr hfr=>?_⟩
    by_cases e:r=m
    ·exact e
    ·have:=zc2 (n:=m) (f:=fun _=>0) (g:=fun r=>b2 (f r)) (fun _ _=>by omega) (by rw [sm_zero];omega) r (by omega);rw [hfr] at this;simp at this
theorem two_of {f:Nat→Bool} (h:sm m (fun r=>b2 (f r))=2) :
  ∃ a b,a < b∧b < m∧f a=true∧f b=true∧∀ r,r < m→f r=true→r=a∨r=b:=by
 induction m with
 | zero=>simp [sm] at h
 | succ m ih =>
   simp only [sm] at h
   cases hf:f m
   ·rw [hf,b2_f] at h;obtain ⟨a,b,h1,h2,h3,h4,h5⟩:=ih (by omega);refine ⟨a,b,h1,by omega,h3,h4,fun r hr hfr=>?_⟩
    by_cases e:r=m
    ·subst e;rw [hf] at hfr;simp at hfr
    ·exact h5 r (by omega) hfr
   ·rw [hf,b2_t] at h;obtain ⟨a,h1,h2,h3⟩:=znw (m:=m) (f:=f) (by omega);refine ⟨a,m,h1,by omega,h2,hf,fun r hr hfr=>?_⟩
    by_cases e:r=m
    ·exact Or.inr e
    ·exact Or.inl (h3 r (by omega) hfr)
structure Deal (n m:Nat) (L:Nat→Nat) (A:Nat→Nat→Bool) (D:Nat→Nat×Nat):Prop where
 lt:∀ p,p < n→(D p).1 < (D p).2
 hi:∀ p,p < n→(D p).2 < m
 a:∀ p,p < n→A p (D p).1=true
 b:∀ p,p < n→A p (D p).2=true
 lim:∀ r,r < m→sm n (fun p=>b2 (r == (D p).1 || r == (D p).2))≤L r
theorem two_eq {a b:Nat} (h:a < b) (hb:b < m):sm m (fun r=>b2 (r == a || r == b))=2:=by
 have:sm m (fun r=>b2 (r == a || r == b))=sm m (fun r=>b2 (r == a)+b2 (r == b)):=by
  apply sm_congr;intro r _
  by_cases h1:r=a
  ·subst h1;have:(r == b)=false:=by simp;omega
   simp [this]
  ·have:(r == a)=false:=by simp [h1]
   simp [this]
 rw [this,sm_add,zdo (p:=a) (by omega),zdo (p:=b) hb]
 ·simp
 ·intro i _ hi;have:(i == b)=false:=by simp [hi]
  simp [this]
 ·intro i _ hi;have:(i == a)=false:=by simp [hi]
  simp [this]
theorem deal_iff:(∃ D,Deal n m L A D)↔Ok n m L (fun _=>2) A:=by
 constructor
 ·rintro ⟨D,h⟩ S;have:=room_of (n:=n) (m:=m) (L:=L) (d:=fun _=>2) (A:=A)
   (B:=fun p r=>decide (p < n) && (r == (D p).1 || r == (D p).2))
   (fun p r hb=>by
    simp at hb;obtain ⟨hp,hb⟩:=hb;rcases hb with e | e
    ·rw [e];exact h.a p hp
    ·rw [e];exact h.b p hp)
   (fun p hp=>by
    have:decide (p < n)=true:=by simp [hp]
    simp only [this,Bool.true_and];exact two_eq (h.lt p hp) (h.hi p hp))
   (fun r hr=>by
    have:=h.lim r hr;refine Nat.le_trans (sm_le fun p _=>?_) this;show b2 (decide (p < n) && (r == (D p).1 || r == (D p).2))≤b2 (r == (D p).1 || r == (D p).2)
    cases decide (p < n) <;> simp)
  exact this S
 ·intro h;obtain ⟨B,b1,h2,h3⟩:=hall (n:=n) (m:=m) (L:=L) (d:=fun _=>2) (zjQ n m A) A (Nat.le_refl _) h;have hx:∀ p,∃ ab:Nat×Nat,p < n→ab.1 < ab.2∧ab.2 < m∧B p ab.1=true∧B p ab.2=true ∧
    ∀ r,r < m→B p r=true→r=ab.1∨r=ab.2:=by
   intro p
   by_cases hp:p < n
   ·obtain ⟨a,b,g1,g2,g3,g4,g5⟩:=two_of (h2 p hp);exact ⟨(a,b),fun _=>⟨g1,g2,g3,g4,g5⟩⟩
   ·exact ⟨(0,0),fun h=>absurd h hp⟩
  have hD:∃ D:Nat→Nat×Nat,∀ p,p < n→(D p).1 < (D p).2∧(D p).2 < m∧B p (D p).1=true∧B p (D p).2=true ∧
    ∀ r,r < m→B p r=true→r=(D p).1∨r=(D p).2 :=
   ⟨fun p=>Classical.choose (hx p),fun p=>Classical.choose_spec (hx p)⟩
  obtain ⟨D,hD⟩:=hD;refine ⟨D,fun p hp=>(hD p hp).1,fun p hp=>(hD p hp).2.1,fun p hp=>b1 _ _ (hD p hp).2.2.1,
   fun p hp=>b1 _ _ (hD p hp).2.2.2.1,fun r hr=>?_⟩
  refine Nat.le_trans (sm_le fun p hp=>?_) (h3 r hr);show b2 (r == (D p).1 || r == (D p).2)≤b2 (B p r);have h4:=(hD p hp).2.2.1;have h5:=(hD p hp).2.2.2.1
  by_cases e1:r=(D p).1
  ·rw [e1,h4];simp
  ·by_cases e2:r=(D p).2
   ·rw [e2,h5];simp
   ·have t1:(r == (D p).1)=false:=by simp [e1]
    have t2:(r == (D p).2)=false:=by simp [e2]
    simp [t1,t2]
end Hall
namespace Prf
open PySem PySem.Spec PyProof.Rows L2
def agB (hs:List Int) (rs:List (List Int)) (xs:List Int):Bool:=decide (zfG hs rs xs < 2 * (xs.length:Int))
def zbo (hs:List Int) (rs:List (List Int)) (p r:Nat):Bool:=!decide ((rs.getD r []).getD 0 0=hs.getD p 0)
def limN (rs:List (List Int)) (r:Nat):Nat:=((rs.getD r []).getD 1 0).toNat
theorem zc3 (c:Nat→Bool):∀ n,Hall.sm n (fun i=>Hall.b2 (c i))=((List.range n).filter c).length
 | 0=>rfl
 | n+1=>by
   simp only [Hall.sm];rw [zc3 c n,List.range_succ,List.filter_append,List.length_append]
   cases h:c n <;> simp [h]
theorem zeO (hs r:List Int):∀ (xs:List Int) (n0:Int),n0≤r.getD 1 0 →
  xs.foldl (zcg hs r) n0=min (r.getD 1 0) (n0+((xs.filter fun x=>!decide (r.getD 0 0=hs.getD (x-1).toNat 0)).length:Int))
 | [],n0,h=>by
   show n0=min (r.getD 1 0) (n0+0);omega
 | x::xs,n0,h=>by
   rw [List.foldl_cons,List.filter_cons]
   by_cases e:r.getD 0 0=hs.getD (x-1).toNat 0
   ·have e1:zcg hs r n0 x=n0:=by unfold zcg;rw [if_neg (fun z=>z.1 e)]
    rw [e1,zeO hs r xs n0 h,decide_eq_true e];simp
   ·rw [decide_eq_false e]
    by_cases hl:n0 < r.getD 1 0
    ·have e1:zcg hs r n0 x=n0+1:=by unfold zcg;rw [if_pos ⟨e,hl⟩]
     rw [e1,zeO hs r xs (n0+1) (by omega)];simp only [Bool.not_false,if_true,List.length_cons];omega
    ·have e1:zcg hs r n0 x=n0:=by unfold zcg;rw [if_neg (fun z=>hl z.2)]
     rw [e1,zeO hs r xs n0 h];simp only [Bool.not_false,if_true,List.length_cons];omega
def zeb (n:Nat) (S:Nat→Bool):List Int:=((List.range n).filter S).map fun i:Nat=>1+(i:Int)
theorem zjS (n:Nat) (S:Nat→Bool):SetM n (zeb n S):=by
 unfold zeb;refine ⟨?_,fun x hx=>?_⟩
 ·rw [List.pairwise_map];refine List.Pairwise.filter _ (List.Pairwise.imp (fun h=>?_) List.pairwise_lt_range);omega
 ·obtain ⟨i,hi,rfl⟩:=List.mem_map.mp hx;have:=List.mem_range.mp (List.mem_filter.mp hi).1;omega
theorem up_ext:∀ {xs ys:List Int},xs.Pairwise (· < ·)→ys.Pairwise (· < ·)→(∀ m,m∈xs↔m∈ys)→xs=ys
 | [],[],_,_,_=>rfl
 | [],y::ys,_,_,h=>absurd ((h y).mpr List.mem_cons_self) (by simp)
 | x::xs,[],_,_,h=>absurd ((h x).mp List.mem_cons_self) (by simp)
 | x::xs,y::ys,hx,hy,h=>by
   obtain ⟨x1,x2⟩:=List.pairwise_cons.mp hx;obtain ⟨y1,y2⟩:=List.pairwise_cons.mp hy;have e:x=y:=by
    rcases List.mem_cons.mp ((h x).mp List.mem_cons_self) with z | z
    ·exact z
    ·rcases List.mem_cons.mp ((h y).mpr List.mem_cons_self) with z' | z'
     ·exact z'.symm
     ·have:=y1 x z;have:=x1 y z';omega
   subst e;have nx:x∉xs:=fun z=>absurd (x1 x z) (Int.lt_irrefl _);have ny:x∉ys:=fun z=>absurd (y1 x z) (Int.lt_irrefl _);rw [up_ext x2 y2 fun m=>?_]
   by_cases hm:m=x
   ·subst hm;exact ⟨fun z=>absurd z nx,fun z=>absurd z ny⟩
   ·have:=h m;simpa [hm] using this
theorem ziD {n:Nat} {xs:List Int} (h:SetM n xs):zeb n (fun i=>decide (1+(i:Int)∈xs))=xs:=by
 refine up_ext (zjS n _).up h.up fun m=>⟨fun z=>?_,fun z=>?_⟩
 ·unfold zeb at z;obtain ⟨i,hi,rfl⟩:=List.mem_map.mp z;simpa using (List.mem_filter.mp hi).2
 ·have hr:=h.rng m z;unfold zeb;refine List.mem_map.mpr ⟨(m-1).toNat,List.mem_filter.mpr ⟨List.mem_range.mpr (by omega),?_⟩,by omega⟩;have e:1+((m-1).toNat:Int)=m:=by omega
  rw [e];simpa using z
theorem zjT (n:Nat) (S:Nat→Bool):(zeb n S).length=Hall.sm n (fun p=>Hall.b2 (S p)):=by
 unfold zeb;rw [List.length_map,zc3]
theorem zjU {hs:List Int} {rs:List (List Int)} {r:Nat} (h0:0≤(rs.getD r []).getD 1 0) (n:Nat) (S:Nat→Bool) :
  zhY hs (rs.getD r []) (zeb n S)=((min (limN rs r) (Hall.deg n (zbo hs rs) S r):Nat):Int):=by
 unfold zhY;rw [zeO hs _ _ 0 h0];have e:((zeb n S).filter fun x=>!decide ((rs.getD r []).getD 0 0=hs.getD (x-1).toNat 0)).length=Hall.deg n (zbo hs rs) S r:=by
  unfold Hall.deg zeb;rw [zc3,List.filter_map,List.length_map,List.filter_filter]
  congr 1
  apply List.filter_congr;intro i _;show (_ && _)=_;have e1:(1+(i:Int)-1).toNat=i:=by omega
  simp only [Function.comp,e1];unfold zbo;exact Bool.and_comm _ _
 rw [e];unfold limN;omega
theorem zfK {hs:List Int} {rs:List (List Int)} (h0:∀ i,i < rs.length→0≤(rs.getD i []).getD 1 0) (n:Nat) (S:Nat→Bool) :
  zfG hs rs (zeb n S)=((Hall.room n rs.length (limN rs) (zbo hs rs) S:Nat):Int):=by
 have key:∀ i,i≤rs.length→zfG hs (rs.take i) (zeb n S)=((Hall.room n i (limN rs) (zbo hs rs) S:Nat):Int):=by
  intro i
  induction i with
  | zero=>intro _;rfl
  | succ i ih =>
    intro hi;rw [zhh _ _ _ _ (by omega),ih (by omega),zjU (h0 i (by omega))];unfold Hall.room;simp only [Hall.sm];omega
 have:=key rs.length (Nat.le_refl _)
 rwa [List.take_length] at this
theorem zh2 (n:Nat) (S:Nat→Bool):Hall.need n (fun _=>2) S=2 * (zeb n S).length:=by
 rw [zjT];unfold Hall.need;have:Hall.sm n (fun p=>if S p=true then 2 else 0)=Hall.sm n (fun p=>Hall.b2 (S p)+Hall.b2 (S p)):=by
  apply Hall.sm_congr;intro i _
  cases S i <;> rfl
 rw [this,Hall.sm_add];omega
theorem zjV {hs:List Int} {rs:List (List Int)} (h0:∀ i,i < rs.length→0≤(rs.getD i []).getD 1 0) :
  Hall.Ok hs.length rs.length (limN rs) (fun _=>2) (zbo hs rs)↔∀ xs,SetM hs.length xs→agB hs rs xs=false:=by
 constructor
 ·intro h xs hx;have e:=ziD hx;have h1:=h (fun i=>decide (1+(i:Int)∈xs));have h2:=zfK (hs:=hs) h0 hs.length (fun i=>decide (1+(i:Int)∈xs));rw [zh2,e] at h1;rw [e] at h2;unfold agB;rw [decide_eq_false];omega
 ·intro h S;have h1:=h _ (zjS hs.length S);unfold agB at h1;have h2:=of_decide_eq_false h1;rw [zfK h0] at h2;rw [zh2];omega
theorem len2 {l:List Int} (h:l.length=2):l=[l.getD 0 0,l.getD 1 0]:=by
 match l,h with
 | [a,b],_=>rfl
theorem zf0 (rows:List (List Int)) (x:Int):cntB rows x=Hall.sm rows.length (fun p=>Hall.b2 (decide (x∈rows.getD p []))):=by
 rw [zc3,zgx]
structure zjW (hs:List Int) (rs rows:List (List Int)):Prop where
 len:rows.length=hs.length
 two:∀ k,k < hs.length→(rows.getD k []).length=2
 lo:∀ k,k < hs.length→1≤(rows.getD k []).getD 0 0
 lt:∀ k,k < hs.length→(rows.getD k []).getD 0 0 < (rows.getD k []).getD 1 0
 hi:∀ k,k < hs.length→(rows.getD k []).getD 1 0≤(rs.length:Int)
 a:∀ k,k < hs.length→(rs.getD ((rows.getD k []).getD 0 0-1).toNat []).getD 0 0≠hs.getD k 0
 b:∀ k,k < hs.length→(rs.getD ((rows.getD k []).getD 1 0-1).toNat []).getD 0 0≠hs.getD k 0
 lim:∀ k,k < rs.length→(cntB rows ((k:Int)+1):Int)≤(rs.getD k []).getD 1 0
theorem zb6 {rs:List (List Int)} {h:Int} {row:List Int}:zcu rs h row=true ↔
  row.length=2∧1≤row.getD 0 0∧row.getD 0 0 < row.getD 1 0∧row.getD 1 0≤(rs.length:Int)∧(rs.getD (row.getD 0 0-1).toNat []).getD 0 0≠h∧(rs.getD (row.getD 1 0-1).toNat []).getD 0 0≠h:=by
 unfold zcu;constructor
 ·intro z;simp only [Bool.and_eq_true,decide_eq_true_eq] at z;obtain ⟨⟨z1,z2⟩,z3⟩:=z;rw [len2 z1] at z2;simp only [List.all_cons,List.all_nil,Bool.and_eq_true,decide_eq_true_eq,Bool.not_eq_true',decide_eq_false_iff_not] at z2;obtain ⟨⟨⟨a1,a2⟩,a3⟩,⟨⟨b1,b2⟩,b3⟩,_⟩:=z2;exact ⟨z1,a1,z3,b2,a3,b3⟩
 ·rintro ⟨z1,a1,z3,b2,a3,b3⟩;have e:=len2 z1;generalize row.getD 0 0=x at *;generalize row.getD 1 0=y at *;subst e;simp only [List.all_cons,List.all_nil,Bool.and_eq_true,decide_eq_true_eq,Bool.not_eq_true',decide_eq_false_iff_not];refine ⟨⟨rfl,⟨⟨⟨by omega,by omega⟩,a3⟩,⟨⟨by omega,by omega⟩,b3⟩,trivial⟩⟩,z3⟩
theorem zc4 {hs:List Int} {rs rows:List (List Int)}:zaX hs rs rows=true↔zjW hs rs rows:=by
 unfold zaX;constructor
 ·intro z;simp only [Bool.and_eq_true,decide_eq_true_eq] at z;obtain ⟨⟨z1,z2⟩,z3⟩:=z;have h2:∀ k,k < hs.length→_:=fun k hk=>zb6.mp (List.all_eq_true.mp z2 k (List.mem_range.mpr hk));refine ⟨z1,fun k hk=>(h2 k hk).1,fun k hk=>(h2 k hk).2.1,fun k hk=>(h2 k hk).2.2.1,fun k hk=>(h2 k hk).2.2.2.1,fun k hk=>(h2 k hk).2.2.2.2.1,fun k hk=>(h2 k hk).2.2.2.2.2,fun k hk=>?_⟩;have:=List.all_eq_true.mp z3 k (List.mem_range.mpr hk);have e:(0:Int)+(k:Int)+1=(k:Int)+1:=by omega
  rw [e] at this;exact of_decide_eq_true this
 ·intro h;simp only [Bool.and_eq_true,decide_eq_true_eq];refine ⟨⟨h.len,zbe fun k hk=>zb6.mpr ⟨h.two k hk,h.lo k hk,h.lt k hk,h.hi k hk,h.a k hk,h.b k hk⟩⟩,zbe fun k hk=>?_⟩;have e:(0:Int)+(k:Int)+1=(k:Int)+1:=by omega
  rw [e];exact decide_eq_true (h.lim k hk)
theorem ziE {hs:List Int} {rs rows:List (List Int)} (h:zjW hs rs rows) :
  Hall.Deal hs.length rs.length (limN rs) (zbo hs rs) (fun p=>(((rows.getD p []).getD 0 0-1).toNat,((rows.getD p []).getD 1 0-1).toNat)):=by
 refine ⟨fun p hp=>?_,fun p hp=>?_,fun p hp=>?_,fun p hp=>?_,fun r hr=>?_⟩
 ·have:=h.lo p hp;have:=h.lt p hp;show ((rows.getD p []).getD 0 0-1).toNat < ((rows.getD p []).getD 1 0-1).toNat;omega
 ·have:=h.lo p hp;have:=h.lt p hp;have:=h.hi p hp;show ((rows.getD p []).getD 1 0-1).toNat < rs.length;omega
 ·show zbo hs rs p _=true;unfold zbo;rw [decide_eq_false (h.a p hp)];rfl
 ·show zbo hs rs p _=true;unfold zbo;rw [decide_eq_false (h.b p hp)];rfl
 ·have h1:=h.lim r hr;rw [zf0,h.len] at h1;have h2:Hall.sm hs.length (fun p=>Hall.b2 (r == ((rows.getD p []).getD 0 0-1).toNat || r == ((rows.getD p []).getD 1 0-1).toNat))=Hall.sm hs.length (fun p=>Hall.b2 (decide ((r:Int)+1∈rows.getD p []))):=by
   apply Hall.sm_congr;intro p hp
   congr 1
   have e:=len2 (h.two p hp);have l1:=h.lo p hp;have l2:=h.lt p hp;generalize (rows.getD p []).getD 0 0=x at *;generalize (rows.getD p []).getD 1 0=y at *;rw [e]
   by_cases e1:(r:Int)+1=x
   ·have:(r == (x-1).toNat)=true:=by simp;omega
    rw [this];simp [e1]
   ·by_cases e2:(r:Int)+1=y
    ·have:(r == (y-1).toNat)=true:=by simp;omega
     rw [this];simp [e2]
    ·have t1:(r == (x-1).toNat)=false:=by simp;omega
     have t2:(r == (y-1).toNat)=false:=by simp;omega
     rw [t1,t2];simp [e1,e2]
  show Hall.sm hs.length (fun p=>Hall.b2 (r == ((rows.getD p []).getD 0 0-1).toNat || r == ((rows.getD p []).getD 1 0-1).toNat))≤_;rw [h2];unfold limN;omega
theorem ziF {hs:List Int} {rs:List (List Int)} {D:Nat→Nat×Nat} (h0:∀ i,i < rs.length→0≤(rs.getD i []).getD 1 0)
  (h:Hall.Deal hs.length rs.length (limN rs) (zbo hs rs) D):zjW hs rs ((List.range hs.length).map fun p=>[((D p).1:Int)+1,((D p).2:Int)+1]):=by
 have g:∀ k,k < hs.length→((List.range hs.length).map fun p=>[((D p).1:Int)+1,((D p).2:Int)+1]).getD k []=[((D k).1:Int)+1,((D k).2:Int)+1]:=fun k hk=>zaB hk;refine ⟨by simp,fun k hk=>?_,fun k hk=>?_,fun k hk=>?_,fun k hk=>?_,fun k hk=>?_,fun k hk=>?_,fun k hk=>?_⟩
 ·rw [g k hk];rfl
 ·rw [g k hk];show 1≤((D k).1:Int)+1;omega
 ·rw [g k hk];have:=h.lt k hk;show ((D k).1:Int)+1 < ((D k).2:Int)+1;omega
 ·rw [g k hk];have:=h.hi k hk;show ((D k).2:Int)+1≤_;omega
 ·rw [g k hk];have:=h.a k hk;unfold zbo at this;have e:(((D k).1:Int)+1-1).toNat=(D k).1:=by omega
  show (rs.getD (((D k).1:Int)+1-1).toNat []).getD 0 0≠_;rw [e];simpa using this
 ·rw [g k hk];have:=h.b k hk;unfold zbo at this;have e:(((D k).2:Int)+1-1).toNat=(D k).2:=by omega
  show (rs.getD (((D k).2:Int)+1-1).toNat []).getD 0 0≠_;rw [e];simpa using this
 ·have h1:=h.lim k hk;rw [zf0,List.length_map,List.length_range];have h2:Hall.sm hs.length (fun p=>Hall.b2 (decide ((k:Int)+1∈((List.range hs.length).map fun p=>[((D p).1:Int)+1,((D p).2:Int)+1]).getD p [])))=Hall.sm hs.length (fun p=>Hall.b2 (k == (D p).1 || k == (D p).2)):=by
   apply Hall.sm_congr;intro p hp
   congr 1
   rw [g p hp]
   by_cases e1:k=(D p).1
   ·have:(k == (D p).1)=true:=by simp [e1]
    rw [this];simp [← e1]
   ·by_cases e2:k=(D p).2
    ·have:(k == (D p).2)=true:=by simp [e2]
     rw [this];simp [← e2]
    ·have t1:(k == (D p).1)=false:=by simp [e1]
     have t2:(k == (D p).2)=false:=by simp [e2]
     rw [t1,t2];have n1:¬((k:Int)=((D p).1:Int)):=by omega
     have n2:¬((k:Int)=((D p).2:Int)):=by omega
     simp [n1,n2]
  rw [h2];have:=h0 k hk;unfold limN at h1;omega
def nbB:List (List Int)→List (List Int)→Bool
 | t::ts,r::rs=>if t.getD 0 0=r.getD 0 0 then (if t.getD 1 0=r.getD 1 0 then nbB ts rs else decide (t.getD 1 0 < r.getD 1 0)) else decide (t.getD 0 0 < r.getD 0 0)
 | _,_=>true
theorem ze1 {hs:List Int} {rs:List (List Int)} (h0:∀ i,i < rs.length→0≤(rs.getD i []).getD 1 0) :
  (∃ rows,zaX hs rs rows=true)↔∀ xs,SetM hs.length xs→agB hs rs xs=false:=by
 rw [← zjV h0,← Hall.deal_iff];constructor
 ·rintro ⟨rows,h⟩;exact ⟨_,ziE (zc4.mp h)⟩
 ·rintro ⟨D,h⟩;exact ⟨_,zc4.mpr (ziF h0 h)⟩
def zbW (hs:List Int) (rs:List (List Int)):Option (List (List Int))→Prop
 | none=>∀ rows,zaX hs rs rows=false
 | some t=>zaX hs rs t=true∧∀ rows,zaX hs rs rows=true→nbB t rows=true
theorem ze2 {α:Type} {xs:List α} {d:α} {i k:Nat} (h:i < k):(xs.take k).getD i d=xs.getD i d:=by
 rw [List.getD_eq_getElem?_getD,List.getD_eq_getElem?_getD,List.getElem?_take,if_pos h]
theorem InB.take {hs:List Int} {rs:List (List Int)} (B:InB hs rs) (k:Nat):InB hs (rs.take k):=by
 have hl:(rs.take k).length≤rs.length:=by rw [List.length_take];omega
 have hk:∀ i,i < (rs.take k).length→i < k∧i < rs.length:=fun i hi=>by rw [List.length_take] at hi;omega
 refine ⟨B.lp,by have:=B.lr;omega,B.hh,fun i hi=>?_,fun i hi=>?_,fun i hi=>?_⟩ <;> rw [ze2 (hk i hi).1]
 ·exact B.r2 i (hk i hi).2
 ·exact B.rh i (hk i hi).2
 ·exact B.rl i (hk i hi).2
theorem InB.takeH {hs:List Int} {rs:List (List Int)} (B:InB hs rs) (k:Nat):InB (hs.take k) rs:=by
 have hl:(hs.take k).length≤hs.length:=by rw [List.length_take];omega
 refine ⟨by have:=B.lp;omega,B.lr,fun i hi=>?_,B.r2,B.rh,B.rl⟩;rw [List.length_take] at hi;rw [ze2 (by omega)];exact B.hh i (by omega)
theorem LL.push {K:PySem.W.Frag} {H:Hp} {p q:Addr} {rs:List (List Int)} {r:List Int} {ps:List Addr} (e:H p=some (.lst (ps.map V.ref++[.ref q]))) (hl:ps.length=rs.length) (hq:H q=some (.lst (r.map V.int)))
  (hall:∀ i,i < rs.length→H (ps.getD i 0)=some (.lst ((rs.getD i []).map V.int))):LL K H p (rs++[r]):=by
 have e':ps.map V.ref++[.ref q]=(ps++[q]).map V.ref:=by simp
 rw [e'] at e;refine ⟨ps++[q],SqL.of e,by simp [hl],fun i hi=>?_⟩
 by_cases h:i < rs.length
 ·rw [zaD (by omega),zaD h];exact hall i h
 ·have h2:i=rs.length:=by simp only [List.length_append,List.length_cons,List.length_nil] at hi;omega
  subst h2;rw [zaA,← hl,zaA];exact hq
def zbF (x y s:Int):Bool:=decide (x-y≤s∧y-x≤s)
def min2 (x y:Int):Int:=if y < x then y else x
def max2 (x y:Int):Int:=if y > x then y else x
def zft (x y s:Int):List Int:=if zbF x y s then (if (x+y) % 2=1 then [x+y,2] else [(x+y) / 2,1]) else [min2 x y,1]
def mid3 (x y z:Int):Int:=x+y+z-max2 (max2 x y) z-min2 (min2 x y) z
theorem zk3 (x y z:Int):mid3 x y z=x∨mid3 x y z=y∨mid3 x y z=z:=by
 unfold mid3 min2 max2
 repeat' split
 all_goals omega
def za4 (rs rows:List (List Int)):List Int:=(List.range rs.length).map fun k=>(rs.getD k []).getD 1 0-(cntB rows ((k:Int)+1):Int)
structure Low (top bottom t b:Int):Prop where
 t0:0≤t
 b1:1≤b
 eq:t * bottom=top * b
 co:Int.gcd t b=1
 tl:t≤top
 bl:b≤bottom
end Prf
namespace Prf
open PySem PySem.Spec PyProof.Rows L2
end Prf
namespace L2
open PySem PySem.Spec PyProof.Rows
theorem sum_rng:∀ (ns:List Int) (B:Int),0≤B→(∀ x∈ns,0≤x∧x≤B)→0≤ns.sum∧ns.sum≤B * ns.length
 | [],B,hB,_=>by simp
 | n::ns,B,hB,h=>by
   have h1:=h n List.mem_cons_self;have h2:=sum_rng ns B hB fun x hx=>h x (List.mem_cons_of_mem _ hx);rw [List.sum_cons,List.length_cons];have e:B * ((ns.length+1:Nat):Int)=B * ns.length+B:=by
    rw [Int.natCast_add,Int.mul_add];simp
   omega
section
variable {X:Cx} {K:PySem.W.Frag}
def cSum (K:PySem.W.Frag):List V→Hp→VK→Prop:=fun xs H Q=>∃ (a:Addr) (ns:List Int),xs=[.ref a]∧SqL K H a (ns.map V.int)∧(∀ x∈ns,0≤x∧x≤1000000)∧ns.length≤1000∧Q (.int ns.sum) H
theorem zc5 (hK:X.K=K) (hc:X.calm=true):zdm X (.builtin "sum") (cSum K):=by
 subst hK;intro pins s σ H xs us Q I r h;obtain ⟨a,ns,rfl,hl,hb,hz,q⟩:=h;obtain ⟨u,rfl,ru⟩:=r.one
 cases ru
 obtain ⟨its,rv,pl,_⟩:=I.list hl;have hi:=intsAre_of rv;have ha:AllInts its.toArray:=hi.allInts;obtain ⟨zs,ez⟩:=ha.items;have en:zs.toList.map (·.1)=ns:=by
  have h1:=nums_intItems zs;rw [← ez] at h1;rw [← h1];exact hi.numsOf
 refine sum_intList (xs:=zs) (I.ok.hd hc) (by rw [← ez];exact pl.isList) (fun j hj=>?_) fun h' tk t' k=>⟨.int ns.sum,H,I.kept k,⟨t',?_⟩,q⟩
 ·rw [numAt_eq,preSum_eq,en];have hjn:j < ns.length:=by rw [← en];simpa using hj
  have h0:=hb (ns.getD j 0) (by rw [List.getD_eq_getElem?_getD,List.getElem?_eq_getElem hjn];exact List.getElem_mem hjn);have h1:=sum_rng (ns.take (j+1)) 1000000 (by decide) fun x hx=>hb x (List.mem_of_mem_take hx);have h2:((ns.take (j+1)).length:Int)≤1000:=by rw [List.length_take];omega
  exact ⟨⟨by omega,by omega⟩,⟨by omega,by omega⟩⟩
 ·rw [preSum_eq,en,List.take_of_length_le (by rw [← en];simp)]
def znx (K:PySem.W.Frag):List V→Hp→VK→Prop:=fun xs H Q=>∃ (a:Addr) (ns:List Int),xs=[.ref a]∧SqL K H a (ns.map V.int)∧0 < ns.length∧∀ m∈ns,(∀ x∈ns,m≤x)→Q (.int m) H
theorem zc6 (hK:X.K=K) (hc:X.calm=true):zdm X (.builtin "min") (znx K):=by
 subst hK;intro pins s σ H xs us Q I r h;obtain ⟨a,ns,rfl,hl,hz,q⟩:=h;obtain ⟨u,rfl,ru⟩:=r.one
 cases ru
 obtain ⟨its,rv,pl,_⟩:=I.list hl;have hi:=intsAre_of rv;have ha:AllInts its.toArray:=hi.allInts;obtain ⟨zs,ez⟩:=ha.items;have en:zs.toList.map (·.1)=ns:=by
  have h1:=nums_intItems zs;rw [← ez] at h1;rw [← h1];exact hi.numsOf
 have hs:0 < zs.size:=by
  have:zs.size=ns.length:=by rw [← en];simp
  omega
 refine min_intList (xs:=zs) (I.ok.hd hc) (by rw [← ez];exact pl.isList) hs fun v h' tk hv k=>?_;obtain ⟨t,rfl⟩:=intItems_at hv;obtain ⟨h1,h2⟩:=argBest_lt (numAt zs) (zs.size-1);refine ⟨.int _,H,I.kept k,⟨t,rfl⟩,q _ ?_ fun x hx=>?_⟩
 ·rw [numAt_eq,← en];exact getD_mem (by rw [List.length_map,Array.length_toList];omega)
 ·rw [← en] at hx;obtain ⟨j,hj,ej⟩:=mem_getD (d:=0) hx;rw [← ej];rw [List.length_map,Array.length_toList] at hj;rw [← numAt_eq];exact h2 j (by omega)
def zjX (K:PySem.W.Frag):List V→Hp→VK→Prop:=fun xs H Q=>∃ (a:Addr) (ns:List Int),xs=[.ref a]∧SqL K H a (ns.map V.int)∧ns.length < 64∧∀ ns':List Int,ns'.Perm ns→ns'.Pairwise (·≤·)→∀ p,H p=none→Q (.ref p) (upd H p (.lst (ns'.map V.int)))
theorem zer (hK:X.K=K):zdm X (.builtin "sorted") (zjX K):=by
 subst hK;intro pins s σ H xs us Q I r h;obtain ⟨a,ns,rfl,hl,hz,q⟩:=h;obtain ⟨u,rfl,ru⟩:=r.one
 cases ru
 obtain ⟨its,rv,pl,_⟩:=I.list hl;have hi:=intsAre_of rv;have hlen:its.length < 64:=by rw [← rv.length,List.length_map];exact hz
 refine sorted_ints pl.isList hi hlen fun out ns' a1 a2 a3=>?_;obtain ⟨e,he⟩:=sortedAll_at s.heap its out;have hf:H (s.heap.objs.size+1)=none:=I.hok.fresh (Nat.le_succ _);refine ⟨.ref (s.heap.objs.size+1),_,I.laid (t':=s.toks) (o:=.lst (ns'.map V.int)) (fun b o x=>sortedAll_old x) (Nat.le_succ _) ?_,rfl,q ns' a2 a3 _ hf⟩;refine ⟨by rw [List.length_map,a2.length_eq,sizeLine_eq];omega,out.toList,e,vals_ints a1,?_⟩;exact he
def cAll (K:PySem.W.Frag):List V→Hp→VK→Prop:=fun xs H Q=>∃ (a:Addr) (bs:List Bool),xs=[.ref a]∧SqL K H a (bs.map V.bl)∧Q (.bl (bs.all id)) H
theorem all_range (bs:List Bool) (f:Nat→Bool) (h:∀ i,i < bs.length→f i=bs.getD i true):(List.range bs.length).all f=bs.all id:=by
 rw [Bool.eq_iff_iff,List.all_eq_true,List.all_eq_true];constructor
 ·intro g x hx;obtain ⟨i,hi,rfl⟩:=List.getElem_of_mem hx;have:=g i (List.mem_range.mpr hi);rw [h i hi,List.getD_eq_getElem?_getD,List.getElem?_eq_getElem hi] at this;exact this
 ·intro g i hi;have hi':=List.mem_range.mp hi;rw [h i hi',List.getD_eq_getElem?_getD,List.getElem?_eq_getElem hi'];exact g _ (List.getElem_mem hi')
theorem zjY (hK:X.K=K) (hc:X.calm=true):zdm X (.builtin "all") (cAll K):=by
 subst hK;intro pins s σ H xs us Q I r h;obtain ⟨a,bs,rfl,hl,q⟩:=h;obtain ⟨u,rfl,ru⟩:=r.one
 cases ru
 obtain ⟨its,rv,pl,_⟩:=I.list hl;have Ls:=pl.isList;obtain ⟨ol,el,_⟩:=id Ls;have Ll:=Heap.lt_size el;have lb:bs.length=its.length:=by have:=rv.length;rw [List.length_map] at this;exact this
 refine call_all_walk (wpAny_pyIter_list Ls ⟨_,_,_,_,_,_,fun i=>bs.getD i true,rfl,Walks.list (A:=X.A.in1) (I.ok.hd hc) s.heap.objs.size a (Nat.ne_of_lt Ll) its.toArray,⟨?_,?_⟩,?_,?_⟩)
 ·exact ⟨_,Heap.get?_push_size _ rfl,rfl,rfl⟩
 ·exact Ls.at fun o x=>Heap.get?_push_of_some _ x
 ·intro i v s' Q' E' hv hq;rw [List.getElem?_toArray] at hv;have hi:i < its.length:=(List.getElem?_eq_some_iff.mp hv).1;obtain ⟨u',hu,ru⟩:=rv.get (i:=i) (x:=.bl (bs.getD i true)) (by rw [List.getElem?_map,List.getElem?_eq_getElem (by omega),List.getD_eq_getElem?_getD,List.getElem?_eq_getElem (by omega)];rfl);have e:v=.bool (bs.getD i true):=by
   rw [hu] at hv;rw [← Option.some.inj hv];exact ru
  subst e;exact wpAny_truthy_bool hq
 ·intro h' tk k;have e:(List.range its.toArray.size).all (fun i=>bs.getD i true)=bs.all id:=by
   rw [List.size_toArray,← lb];exact all_range bs _ fun i _=>rfl
  rw [e];exact ⟨.bl _,H,I.kept fun b o x=>k b o (by have:=Nat.ne_of_lt (Heap.lt_size x);simpa using this) (Heap.get?_push_of_some _ x),rfl,q⟩
end
section
variable {σ:St} {H:Hp} {Q:VK} {K:PySem.W.Frag} {a:Addr} {ns:List Int} {bs:List Bool}
theorem zdR (h:SqL K H a (ns.map V.int)) (hb:∀ x∈ns,0≤x∧x≤1000000) (hz:ns.length≤1000) (q:Q (.int ns.sum) H):cSum K [.ref a] H Q:=⟨a,ns,rfl,h,hb,hz,q⟩
theorem zc7 (h:SqL K H a (ns.map V.int)) (hz:0 < ns.length) (q:∀ m∈ns,(∀ x∈ns,m≤x)→Q (.int m) H):znx K [.ref a] H Q:=⟨a,ns,rfl,h,hz,q⟩
theorem ze3 (h:SqL K H a (ns.map V.int)) (hz:ns.length < 64) (q:∀ ns':List Int,ns'.Perm ns→ns'.Pairwise (·≤·)→∀ p H2,H p=none→Same H H2→H2 p=some (.lst (ns'.map V.int))→Q (.ref p) H2):zjX K [.ref a] H Q :=
 ⟨a,ns,rfl,h,hz,fun ns' h1 h2 p hp=>q ns' h1 h2 p _ hp (za0 hp) zay⟩
theorem zk4 (h:SqL K H a (bs.map V.bl)) (q:Q (.bl (bs.all id)) H):cAll K [.ref a] H Q:=⟨a,bs,rfl,h,q⟩
end
end L2
namespace L2
open PySem PySem.Spec PyProof.Rows
section
variable {σ:St} {H:Hp} {Q:VK} {K:PySem.W.Frag} {js:List Nat} {te:TE} {tc:TT} {J:It} {n k:Nat} {x y:Nat→V} {g:TG} {w:Nat→St}
def zhl (J:It) (k:Nat) (js:List Nat) (g:TG) (tc:TT) (te:TE) (σ:St) (H:Hp) (Q:VK):Prop:=∀ p,H p=none →
 ∃ W:Nat→Nat→St→Hp→Prop,(∃ m,W 0 m (capS k js σ) (upd H p (.lst [])))∧∀ i m σc H,W i m σc H →
  (J.stop i H∧Q (.ref p) H)∨(J.go i H∧∃ N:St→Hp→Prop,(∀ σ' H',N σ' H'→∃ m',m' < m∧W (i+1) m' σ' H')∧∀ x H',J.yld i H x H' →
   g x σc H' fun σ2 H2=>tc σ2 H2 fun b H3=>if b=true then te σ2 H3 fun v H4=>∃ ys,H4 p=some (.lst ys)∧ys.length < sizeLine∧N σ2 (upd H4 p (.lst (ys++[v]))) else N σ2 H3)
theorem zch (h:zhl J 1 js (zcS 0) tc te σ H Q):zfs J js tc te σ H Q:=h
structure zco (J:It) (n k:Nat) (js:List Nat) (σ:St) (g:TG) (w:Nat→St) (H:Hp):Prop where
 len:∀ i,(w i).length=k
 go:∀ i H',Same H H'→i < n→J.go i H'
 stop:∀ H',Same H H'→J.stop n H'
 yld:∀ i H' v H2 (u:St) (N:St→Hp→Prop),Same H H'→i < n→u.length=k→J.yld i H' v H2→(∀ H3,Same H' H3→N (w i++capV js σ) H3)→g v (u++capV js σ) H2 N
theorem zco.one (it:Iter J n x H):zco J n 1 js σ (zcS 0) (fun i=>[some (x i)]) H where
 len:=fun _=>rfl
 go:=it.go
 stop:=it.stop
 yld:=fun i H' v H2 u N s hi hu hy q=>by
  obtain ⟨rfl,rfl⟩:=it.yld i H' v H2 s hi hy
  match u,hu with
  | [a],_=>exact q _ (Same.refl _)
theorem zgz (T:zco J n k js σ g w H) (hz:n≤1000) (c:Nat→Bool) (f:Nat→V)
  (ht:∀ i H' Q',i < n→Same H H'→(∀ H2,Same H' H2→Q' (c i) H2)→tc (w i++capV js σ) H' Q')
  (he:∀ i H' Q',i < n→Same H H'→c i=true→(∀ H2,Same H' H2→Q' (f i) H2)→te (w i++capV js σ) H' Q')
  (hq:∀ p H2,H p=none→Same H H2→H2 p=some (.lst (((List.range n).filter c).map f))→Q (.ref p) H2):zhl J k js g tc te σ H Q:=by
 intro p hp;refine ⟨fun i m σc H'=>m=n-i∧i≤n∧(∃ u:St,u.length=k∧σc=u++capV js σ)∧Same H H'∧H' p=some (.lst (((List.range i).filter c).map f)),⟨n,by simp,Nat.zero_le _,⟨List.replicate k none,List.length_replicate,rfl⟩,za0 hp,zay⟩,?_⟩;rintro i m σc H' ⟨rfl,hi,⟨u,hu,rfl⟩,s,hpp⟩;have hlen:(((List.range i).filter c).map f).length≤i:=by
  rw [List.length_map];exact Nat.le_trans (List.length_filter_le _ _) (by simp)
 have hsl:n < sizeLine:=za1 hz
 by_cases hlt:i < n
 ·refine .inr ⟨T.go i _ s hlt,fun σ' H'=>(∃ u:St,u.length=k∧σ'=u++capV js σ)∧Same H H'∧H' p=some (.lst (((List.range (i+1)).filter c).map f)),fun σ' H' ⟨h1,h2,h3⟩=>⟨n-(i+1),by omega,rfl,hlt,h1,h2,h3⟩,fun v H2 hy=>?_⟩;have e:(List.range (i+1)).filter c=(List.range i).filter c++if c i=true then [i] else []:=by
   rw [List.range_succ,List.filter_append]
   cases hc:c i <;> simp [hc]
  refine T.yld i H' v H2 u _ s hlt hu hy fun H3 s3=>?_;refine ht i _ _ hlt (s.trans s3) fun H4 s4=>?_;have s34:=s3.trans s4
  cases hc:c i with
  | false =>
    rw [if_neg Bool.false_ne_true];refine ⟨⟨w i,T.len i,rfl⟩,s.trans s34,?_⟩;rw [e,hc];simpa using s34 _ _ hpp
  | true =>
    rw [if_pos rfl];refine he i _ _ hlt (s.trans s34) hc fun H5 s5=>?_;refine ⟨_,s5 _ _ (s34 _ _ hpp),by omega,⟨w i,T.len i,rfl⟩,zeL ((s.trans s34).trans s5) hp,?_⟩;rw [zay,e,hc];simp
 ·have e:i=n:=by omega
  subst e;exact .inl ⟨T.stop _ s,hq p _ hp s hpp⟩
theorem zb7 (T:zco J n k js σ g w H) (hz:n≤1000) (f:Nat→List Int)
  (he:∀ i H' Q',i < n→Same H H'→(∀ q H2,H' q=none→Same H' H2→H2 q=some (.lst ((f i).map V.int))→Q' (.ref q) H2)→te (w i++capV js σ) H' Q')
  (hq:∀ p H2,RowsAt H p ((List.range n).map f) H2→Q (.ref p) H2):zhl J k js g tTT te σ H Q:=by
 intro p hp;refine ⟨fun i m σc H'=>m=n-i∧i≤n∧(∃ u:St,u.length=k∧σc=u++capV js σ)∧RowsAt H p ((List.range i).map f) H',⟨n,by simp,Nat.zero_le _,⟨List.replicate k none,List.length_replicate,rfl⟩,RowsAt.start hp (za0 hp) zay⟩,?_⟩;rintro i m σc H' ⟨rfl,hi,⟨u,hu,rfl⟩,R⟩;have s:=R.same;have hsl:n < sizeLine:=za1 hz
 by_cases hlt:i < n
 ·refine .inr ⟨T.go i _ s hlt,fun σ' H'=>(∃ u:St,u.length=k∧σ'=u++capV js σ)∧RowsAt H p ((List.range (i+1)).map f) H',fun σ' H' ⟨h1,h2⟩=>⟨n-(i+1),by omega,rfl,hlt,h1,h2⟩,fun v H2 hy=>?_⟩;refine T.yld i H' v H2 u _ s hlt hu hy fun H3 s3=>?_;refine r_tt ?_;rw [if_pos rfl];refine he i _ _ hlt (s.trans s3) fun q H4 f4 s4 e4=>?_;obtain ⟨zs,hzs,hzl⟩:=R.lst;have hzn:zs.length=i:=by rw [hzl];simp
  have hp4:=s4 _ _ (s3 _ _ hzs);refine ⟨zs,hp4,by omega,⟨w i,T.len i,rfl⟩,?_⟩;rw [List.range_succ,List.map_append];exact R.push (s3.free f4) (s3.trans s4) e4 hp4 But.upd zay
 ·have e:i=n:=by omega
  subst e;exact .inl ⟨T.stop _ s,hq p _ R⟩
end
end L2
namespace L2
open PySem PySem.Spec PyProof.Rows
section
variable {prog:Program} {w:World} {A:Around} {E:Value→Shared→Prop} {s:Shared}
abbrev kwS (v:Value):List (Str×Value):=[(Str.ofString "start",v)]
theorem ziG (a v:Value):checkTypeCall "enumerate" ⟨[a],kwS v⟩=pure ():=by kernel_rfl
theorem zjZ (a v:Value):checkBuiltinCall "enumerate.__new__" ⟨[.type "enumerate",a],kwS v⟩=pure ():=by kernel_rfl
theorem ziH (a b v:Value):argsOk "object.__init__" ⟨[a,b],kwS v⟩:=by unfold argsOk;kernel_rfl
theorem zhm (l:Addr) (items:Array Value) (n:Nat) (dct:Option Addr) (sl:Array (Option Value)) (t:Tok) :
  Meets (Builtin.«enumerate.__new__» ⟨[.type "enumerate",.ref l],kwS (.int 1 t)⟩) (fun _ R s=>s.heap.get? l=some { cls:=.type "list",dict:=dct,data:=.seq items n,slots:=sl } ∧
   R (.ok (.ret (.ref (s.heap.push { cls:=.type "list_iterator",data:=.fields #[.ref l,.int 0 0] }).objs.size)))
    { s with heap:=(s.heap.push { cls:=.type "list_iterator",data:=.fields #[.ref l,.int 0 0] }).push { cls:=.type "enumerate",data:=.fields #[.none,.bool false,.ref s.heap.objs.size,rawInt 1,.none,.none] } }) :=
 .of_wp fun prog w A R s ⟨hl,h⟩=>by
  obtain ⟨hp,g,d,tk,os⟩:=s;have hsub:=sub_enumerate;have hL:Heap.IsList (Shared.heap ⟨hp,g,d,tk,os⟩) l items:=⟨_,hl,rfl,n,rfl⟩
  wp_walk using AutoSeq1.wpAny_loadPart' hl
  refine wpAny_stack_any fun st=>wpAny_pure ?_;split
  ·rename_i c _ _ _ _ _
   cases hcc:(c == Value.type "enumerate")
   ·wp_walk using AutoSeq1.wpAny_loadPart' hl,wpAny_pyIter_list hL
    exact ⟨_,rfl,h⟩
   ·wp_walk using AutoSeq1.wpAny_loadPart' hl,wpAny_pyIter_list hL
    exact ⟨_,rfl,h⟩
  ·wp_walk using AutoSeq1.wpAny_loadPart' hl,wpAny_pyIter_list hL
   exact ⟨_,rfl,h⟩
theorem zhn (self a v:Value):Meets (Builtin.«object.__init__» ⟨[self,a],kwS v⟩) (fun _ R s=>s.TypeIs self "enumerate"∧R (.ok (.ret .none)) s):=by
 refine Meets.of_wp fun prog w A R s hs=>?_;obtain ⟨hT,hq⟩:=hs;have hl:=F.called_enumerate.init.lookup;have hm:=F.called_enumerate.made;have hne:(some "enumerate.__new__" != some "object.__new__")=true:=by decide
 repeat (any_goals (first | (assumption) | wp_step))
 exact ⟨_,rfl,hq⟩
theorem ziI {l:Addr} {items:Array Value} {t:Tok} {Q:Value→Shared→Prop} (hL:s.heap.IsList l items)
  (h:∀ h',IsEnum h' (s.heap.objs.size+1) s.heap.objs.size 1 .none→h'.IsListIter s.heap.objs.size l 0→(∀ b o,s.heap.get? b=some o→h'.get? b=some o)→Q (.ref (s.heap.objs.size+1)) { s with heap:=h' }) :
  wpAny (model prog w) A (call (.type "enumerate") [.ref l] (kwS (.int 1 t))) Q E s:=by
 obtain ⟨⟨c,dct,dt,sl⟩,hl,hc,n,hd⟩:=hL;obtain rfl:c=.type "list":=hc;obtain rfl:dt=.seq items n:=hd;have ft:=F.called_enumerate;obtain ⟨c0,tl,hmro⟩:=ft.mro;have hmade:=ft.made;have hsub:=ft.sub;have hct:=ziG (.ref l) (.int 1 t);refine wpAny_call (codeAny_of_tree ?_);show wpAny _ _ (callAny (.type "enumerate") _) _ _ _;refine wpAny_pure ⟨Code.quiet_builtin _ (by decide +kernel),codeAny_builtin F.entry_type_call ?_⟩;rw [Around.under_plain (weight_type_call_type "enumerate" [.ref l] (kwS (.int 1 t))) (units_type_call_type "enumerate" [.ref l] (kwS (.int 1 t)))];have n1:=ft.notType;have n2:=ft.canCreate
 repeat (any_goals (first | (assumption) | wp_step))
 have hz:(s.heap.push { cls:=.type "list_iterator",data:=.fields #[.ref l,.int 0 0] }).objs.size=s.heap.objs.size+1:=Heap.size_push ..
 let R0:Result→Shared→Prop:=fun r s'=>r=.ok (.ret (.ref (s.heap.objs.size+1)))∧∃ h',s'={ s with heap:=h' }∧IsEnum h' (s.heap.objs.size+1) s.heap.objs.size 1 .none∧h'.IsListIter s.heap.objs.size l 0∧(∀ b o,s.heap.get? b=some o→h'.get? b=some o)
 have key:codeAny (model prog w) A.in1 (Code.call (.builtin "enumerate.__new__") ⟨[.type "enumerate",.ref l],kwS (.int 1 t)⟩) R0 s:=by
  refine codeAny_call_builtin ft.plain F.entry_enumerate_new (wpAny_of_eq (zjZ _ _) (zhm l items n dct sl t prog w A.in1 R0 s ⟨hl,?_⟩));rw [hz];refine ⟨rfl,_,rfl,?_,⟨_,Heap.get?_push_of_some _ (Heap.get?_push_size _ rfl),rfl,rfl⟩,fun b o x=>Heap.get?_push_of_some _ (Heap.get?_push_of_some _ x)⟩;have e:=Heap.get?_push_size (s.heap.push { cls:=.type "list_iterator",data:=.fields #[.ref l,.int 0 0] }) (o:={ cls:=.type "enumerate",data:=.fields #[.none,.bool false,.ref s.heap.objs.size,rawInt 1,.none,.none] }) rfl;rw [hz] at e;exact e
 refine codeAny_mono key fun r s1 hr=>?_;obtain ⟨rfl,h',rfl,a1,a2,a3⟩:=hr;have hT:Shared.TypeIs { s with heap:=h' } (.ref (s.heap.objs.size+1)) "enumerate":=⟨_,a1,rfl⟩
 have hli:=ft.init.lookup;have hbi:=ft.init.bind (.ref (s.heap.objs.size+1))
 repeat (any_goals (first | (assumption) | wp_step))
 let R1:Result→Shared→Prop:=fun r s'=>r=.ok (.ret .none)∧s'={ s with heap:=h' }
 have key2:codeAny (model prog w) A.in1 (Code.call (.builtin "object.__init__") ⟨[.ref (s.heap.objs.size+1),.ref l],kwS (.int 1 t)⟩) R1 { s with heap:=h' } :=
  codeAny_call_builtin ft.init.plain F.entry_object_init (ft.init.check _ _ _ _ _ _ _ _ hT (ziH _ _ _) (zhn _ _ _ prog w A.in1 R1 _ ⟨hT,rfl,rfl⟩))
 refine codeAny_mono key2 fun r s2 hr=>?_;obtain ⟨rfl,rfl⟩:=hr
 repeat (any_goals (first | (assumption) | wp_step))
 exact h _ a1 a2 a3
theorem ziJ {e it l:Addr} {i:Nat} {c:Int} {xs:Array Value} {x old:Value} {Q:Value→Shared→Prop} (he:IsEnum s.heap e it c old) (hit:s.heap.IsListIter it l i) (hl:s.heap.IsList l xs) (hx:xs[i]? = some x) (ne:e≠it)
  (q:∀ k,IsEnumOut k e it (c+1) x s.heap.objs.size→k.IsListIter it l (i+1)→k.get? s.heap.objs.size=some { cls:=.type "tuple",data:=.seq #[.int c s.toks,x] } →
   (∀ b o,b≠e→b≠it→s.heap.get? b=some o→k.get? b=some o)→Q (.ref s.heap.objs.size) { s with heap:=k,toks:=s.toks+1 }) :
  wpAny (model prog w) A (Builtin.«enumerate.__next__» ⟨[.ref e],[]⟩) (fun fin s'=>∃ v,fin=.done (.ret v)∧Q v s') E s:=by
 obtain ⟨g0,ge,dr,tk,os⟩:=s;have elt:e < g0.objs.size:=Heap.lt_size he;show wpAny _ _ (field (.ref e) 2 >>= _) _ _ _;refine wpAny_bind (wpAny_field he rfl (x:=.ref it) rfl (wpAny_bind (wpAny_nextOf_list_item hit hl hx fun g1 i1 b1=>?_)));replace b1:Heap.SameBut it g0 g1:=b1;have e1:IsEnum g1 e it c old:=(b1.2 e ne).trans he;show wpAny _ _ (field (.ref e) 3 >>= _) _ _ ⟨g1,ge,dr,tk,os⟩;refine wpAny_bind (wpAny_field e1 rfl (x:=rawInt c) rfl ?_);show wpAny _ _ (field (.ref e) 4 >>= _) _ _ ⟨g1,ge,dr,tk,os⟩;refine wpAny_bind (wpAny_field e1 rfl (x:=.none) rfl ?_);show wpAny _ _ (mkInt c >>= _) _ _ ⟨g1,ge,dr,tk,os⟩;refine wpAny_bind (wpAny_mkInt ?_);show wpAny _ _ (setField (.ref e) 3 (rawInt (c+1)) >>= _) _ _ ⟨g1,ge,dr,tk+1,os⟩;refine wpAny_bind (wpAny_setField_rec e1 (by simp) fun g2 e2 b2=>?_);replace b2:Heap.SameBut e g1 g2:=b2;replace e2:IsEnum g2 e it (c+1) old:=e2;show wpAny _ _ (setField (.ref e) 4 .none >>= _) _ _ ⟨g2,ge,dr,tk+1,os⟩;refine wpAny_bind (wpAny_setField_rec e2 (by simp) fun g3 e3 b3=>?_);replace b3:Heap.SameBut e g2 g3:=b3;replace e3:IsEnum g3 e it (c+1) old:=e3;show wpAny _ _ (newTuple [.int c tk,x] >>= _) _ _ ⟨g3,ge,dr,tk+1,os⟩;refine wpAny_bind (wpAny_newTuple ?_);have z3:g3.objs.size=g0.objs.size:=by rw [b3.1,b2.1,b1.1]
 have keep3:∀ b o,b≠e→b≠it→g0.get? b=some o→g3.get? b=some o:=fun b o n1 n2 y=>b3.extBut b o n1 (b2.extBut b o n1 (b1.extBut b o n2 y));have i3:g3.IsListIter it l (i+1):=(i1.extBut b2.extBut ne.symm).extBut b3.extBut ne.symm;have e4:IsEnum (g3.push { cls:=.type "tuple",data:=.seq #[.int c tk,x] }) e it (c+1) old:=Heap.get?_push_of_some _ e3;have t4:(g3.push { cls:=.type "tuple",data:=.seq #[.int c tk,x] }).get? g0.objs.size=some { cls:=.type "tuple",data:=.seq #[.int c tk,x] }:=by rw [← z3];exact Heap.get?_push_size _ rfl
 have keep4:∀ b o,b≠e→b≠it→g0.get? b=some o→(g3.push { cls:=.type "tuple",data:=.seq #[.int c tk,x] }).get? b=some o:=fun b o n1 n2 y=>Heap.get?_push_of_some _ (keep3 b o n1 n2 y);have i4:(g3.push { cls:=.type "tuple",data:=.seq #[.int c tk,x] }).IsListIter it l (i+1):=i3.at fun o y=>Heap.get?_push_of_some _ y;rw [z3];generalize g3.push { cls:=.type "tuple",data:=.seq #[.int c tk,x] }=g4 at e4 t4 keep4 i4;show wpAny _ _ (Builtin.SmallTypes.ownedTupleIsFree (.ref e) >>= _) _ _ ⟨g4,ge,dr,tk+1,os⟩;refine wpAny_bind ?_;unfold Builtin.SmallTypes.ownedTupleIsFree;refine wpAny_bind (wpAny_field e4 rfl (x:=.none) rfl (wpAny_pure ?_));simp only [if_true];refine wpAny_bind (wpAny_rule (wpAny_bind (wpAny_field e4 rfl (x:=old) rfl (wpAny_bind (wpAny_setField_rec e4 (by simp) fun g5 e5 b5=>?_)))));replace b5:Heap.SameBut e g4 g5:=b5;replace e5:IsEnum g5 e it (c+1) x:=e5;show wpAny _ _ (Builtin.SmallTypes.ownedTupleHandOut (.ref e) (.ref g0.objs.size) >>= _) _ _ ⟨g5,ge,dr,tk+1,os⟩;refine wpAny_bind ?_;unfold Builtin.SmallTypes.ownedTupleHandOut;refine wpAny_bind (wpAny_setField_rec e5 (by simp) fun g6 e6 b6=>?_);replace b6:Heap.SameBut e g5 g6:=b6;replace e6:IsEnumOut g6 e it (c+1) x g0.objs.size:=e6;refine wpAny_setField_rec e6 (by simp) fun g7 e7 b7=>?_;replace b7:Heap.SameBut e g6 g7:=b7;have far:∀ b o,b≠e→g4.get? b=some o→g7.get? b=some o:=fun b o n1 y=>b7.extBut b o n1 (b6.extBut b o n1 (b5.extBut b o n1 y));exact wpAny_bind (wpAny_letGo (wpAny_pure ⟨_,rfl,q g7 e7 (i4.at fun o y=>far it o ne.symm y) (far _ _ (Nat.ne_of_gt elt) t4) fun b o n1 n2 y=>far b o n1 (keep4 b o n1 n2 y)⟩))
theorem ziK {e it l:Addr} {i:Nat} {c:Int} {xs:Array Value} {x old:Value} {Q:Option Value→Shared→Prop} (he:IsEnum s.heap e it c old) (hit:s.heap.IsListIter it l i) (hl:s.heap.IsList l xs) (hx:xs[i]? = some x) (ne:e≠it)
  (q:∀ k,IsEnumOut k e it (c+1) x s.heap.objs.size→k.IsListIter it l (i+1)→k.get? s.heap.objs.size=some { cls:=.type "tuple",data:=.seq #[.int c s.toks,x] } →
   (∀ b o,b≠e→b≠it→s.heap.get? b=some o→k.get? b=some o)→Q (some (.ref s.heap.objs.size)) { s with heap:=k,toks:=s.toks+1 }) :
  wpAny (model prog w) A (pyNext (.ref e)) Q E s:=by
 have hT:s.TypeIs (.ref e) "enumerate":=⟨_,he,rfl⟩
 unfold pyNext;refine wpAny_bind (wpAny_attempt (wpAny_callSpecial?_slot (name:=Str.ofString "__next__") hT F.slot_enumerate_next (wpAny_call_entry F.slot_enumerate_next hT F.entry_enumerate_next ?_ (F.args_enumerate_next_1 _))));exact ziJ he hit hl hx ne fun k a b d f=>wpAny_pure (q k a b d f)
theorem zj0 {e it l:Addr} {i:Nat} {c:Int} {xs:Array Value} {old:Value} {Q:Option Value→Shared→Prop} (hh:A.handled=none) (he:IsEnum s.heap e it c old) (hit:s.heap.IsListIter it l i) (hl:s.heap.IsList l xs) (hx:xs[i]? = none)
  (q:∀ k,Heap.ExtBut it s.heap k→Q none { s with heap:=k }):wpAny (model prog w) A (pyNext (.ref e)) Q E s:=by
 have hT:s.TypeIs (.ref e) "enumerate":=⟨_,he,rfl⟩
 unfold pyNext;refine wpAny_bind (wpAny_attempt (wpAny_callSpecial?_slot (name:=Str.ofString "__next__") hT F.slot_enumerate_next (wpAny_call_entry F.slot_enumerate_next hT F.entry_enumerate_next ?_ (F.args_enumerate_next_1 _))));show wpAny _ _ (field (.ref e) 2 >>= _) _ _ _;refine wpAny_bind (wpAny_field he rfl (x:=.ref it) rfl (wpAny_bind (wpAny_nextOf_list_end hh hit hl hx fun k y hk hy=>?_)));obtain ⟨o,ho,hc⟩:=hy;exact wpAny_bind (wpAny_isInstance (T:="StopIteration") (b:=true) ⟨o,ho,hc⟩ isSubtype_stop (wpAny_pure (q _ hk)))
theorem zf1 {M:Model} {env:Env} {pos:Pos} {T:String} {e:Expr} {rest:List Expr} {kws:List Keyword} {Q:Value→Shared→Prop}
  (h:wpAny M A (spliced (backTo pos (starEach (e::rest) env))) (fun vs s1=>wpAny M A (evalAll ((backToKw pos (keywordEach kws env)).map (·.2)))
   (fun ks s2=>wpAny M A (call (.type T) vs (((backToKw pos (keywordEach kws env)).filterMap (·.1)).zip ks)) Q E s2) E s1) E s)
  (he:backTo pos (starEach (e::rest) env)=(false,eval e env)::backTo pos (starEach rest env)) (hp:(backTo pos (starEach (e::rest) env)).any (·.1)=false)
  (ha:(backToKw pos (keywordEach kws env)).all (·.1.isSome)=true) (hk:(backToKw pos (keywordEach kws env)).any (·.1.isNone)=false) :
  wpAny M A (callWith pos (.type T) [] (backTo pos (starEach (e::rest) env)) (backToKw pos (keywordEach kws env))) Q E s:=by
 have h2:wpAny M A (evalArgs (.type T) true (backTo pos (starEach (e::rest) env)) (backToKw pos (keywordEach kws env))) (fun a s1=>wpAny M A (call (.type T) ([]++a.pos) a.kw) Q E s1) E s:=by
  rw [he] at h ⊢;exact evalArgs_kwB ha h
 unfold callWith;refine wpAny_bind (wpAny_holding (wpAny_mono h2 (fun a s1 h1=>wpAny_bind (wpAny_standAt ?_)) fun _ _ z=>z));simp only [hp,hk,Bool.or_false];exact wpAny_bind (wpAny_pure (wpAny_bind (wpAny_mono h1 (fun r s2 hr=>wpAny_bind (wpAny_holding (wpAny_point (wpAny_pure hr)))) fun _ _ z=>z)))
end
def Ite (K:PySem.W.Frag) (a:Addr) (c:Int):It :=
 ⟨fun i H=>∃ xs x,SqL K H a xs∧xs[i]? = some x,
  fun i H v H'=>∃ T,H T=none∧v=.ref T∧∀ xs,SqL K H a xs→∃ x,xs[i]? = some x∧H'=upd H T (.tup [.int (c+i),x]),
  fun i H=>∃ xs,SqL K H a xs∧xs.length≤i⟩
theorem zgA {P:Program} {w:World} {K:PySem.W.Frag} {elts:List Expr} {x1:Nat} {tpos:Pos} {l z I:Addr} {c:Int} (hzI:z≠I) (hlz:l≠z) (hlI:l≠I) :
  Turn P w K (.Tuple elts x1 tpos) (Ite K l c) [z,I] z (fun i h=>(∃ old,IsEnum h z I (c+i) old)∧h.IsListIter I l i) where
 mem:=by simp
 obj:=fun i h st b hb=>by
  obtain ⟨⟨old,h1⟩,o2,h2,c2,d2⟩:=st;simp only [List.mem_cons,List.not_mem_nil,or_false] at hb;rcases hb with rfl | rfl
  ·exact ⟨_,h1,fun v y=>by cases y⟩
  ·exact ⟨_,h2,fun v y=>by rw [d2] at y;cases y⟩
 keep:=fun i h h' st k=>by
  obtain ⟨⟨old,h1⟩,h2⟩:=st;exact ⟨⟨old,k z (by simp) _ h1⟩,h2.at fun o e=>k I (by simp) o e⟩
 item:=by
  intro X hP hw hK hc i pins s σ H E Iv hf st hg;subst hP hw hK;obtain ⟨xs,x,hq,hx⟩:=hg;obtain ⟨its,rv,p1,_⟩:=Iv.list hq;obtain ⟨u,hu,ru⟩:=rv.get hx;obtain ⟨⟨old,g1⟩,g2⟩:=st;have hI:I < s.heap.objs.size:=by obtain ⟨_,y,_⟩:=g2;exact Heap.lt_size y
  have hz:z < s.heap.objs.size:=Heap.lt_size g1;refine ziK g1 g2 p1.isList (x:=u) (by simpa using hu) hzI fun k a1 a2 a3 a4=>⟨_,rfl,?_⟩
  refine wpAny_letOwnedTupleGo_enum a1 fun k2 b1 b2=>?_;replace b2:Heap.SameBut z k k2:=b2;have hTn:H s.heap.objs.size=none:=Iv.hok.fresh (Nat.le_refl _);have keep:∀ b ob,b∉[z,I]→s.heap.get? b=some ob→k2.get? b=some ob:=fun b ob hb e=>by
   simp only [List.mem_cons,List.not_mem_nil,or_false,not_or] at hb;exact b2.extBut b ob hb.1 (a4 b ob hb.1 hb.2 e)
  have ei:c+(i:Int)+1=c+((i+1:Nat):Int):=by rw [Int.natCast_add];omega
  have c2:k2.IsListIter I l (i+1):=a2.extBut b2.extBut hzI.symm;refine ⟨.ref s.heap.objs.size,upd H s.heap.objs.size (.tup [.int (c+i),x]),?_,rfl,⟨_,hTn,rfl,fun xs' q'=>?_⟩,⟨⟨_,by rw [← ei];exact b1⟩,c2⟩,fun b hb=>?_⟩
  ·refine Iv.turnedNew (t':=s.toks+1) (ch:=[z,I]) keep (fun b hb=>⟨hf b hb,?_⟩) (Nat.le_refl _) ?_
   ·simp only [List.mem_cons,List.not_mem_nil,or_false] at hb;rcases hb with rfl | rfl
    ·exact ⟨_,b1⟩
    ·obtain ⟨o,e,_⟩:=c2;exact ⟨_,e⟩
   ·exact ⟨by show 2≤sizeLine;rw [sizeLine_eq];decide,[.int (c+i) s.toks,u],.cons ⟨_,rfl⟩ (.cons ru .nil),_,b2.extBut _ _ (Nat.ne_of_gt hz) a3,rfl,_,rfl⟩
  ·rw [Iv.list_inj q' hq];exact ⟨x,hx,rfl⟩
  ·have:b≠s.heap.objs.size:=by
    simp only [List.mem_cons,List.not_mem_nil,or_false] at hb;rcases hb with rfl | rfl
    ·exact Nat.ne_of_lt hz
    ·exact Nat.ne_of_lt hI
   rw [zaR this];exact (hf b hb).1
 done:=by
  intro X hP hw hK hc i pins s σ H E Iv hf st hg;subst hP hw hK;obtain ⟨xs,hq,hx⟩:=hg;obtain ⟨its,rv,p1,_⟩:=Iv.list hq;obtain ⟨⟨old,g1⟩,g2⟩:=st;have hl1:=rv.length;refine zj0 (Iv.ok.hd hc) g1 g2 p1.isList (Array.getElem?_eq_none (by simp;omega)) fun k hk=>⟨rfl,Iv.turnedL (t':=s.toks) (ch:=[z,I]) (fun b ob hb e=>?_) hf⟩
  simp only [List.mem_cons,List.not_mem_nil,or_false,not_or] at hb;exact hk b ob hb.2 e
 self:=fun _ _ _ _ _ ⟨⟨_,st⟩,_⟩ h=>wpAny_pyIter_enum st h
section
variable {X:Cx} {K:PySem.W.Frag}
def zk5 (K:PySem.W.Frag) (c:Int) (ta:TA):TI:=fun σ H R=>ta σ H fun vs H1=>∃ a xs,vs=[.ref a]∧SqL K H1 a xs∧R (Ite K a c) H1
theorem zj1 {pins:List (Addr×Obj)} {σ:St} {H:Hp} {s:Shared} {h':Heap} (I:Inv X pins σ H s) (b:Addr) (hb:b∈[s.heap.objs.size+1,s.heap.objs.size]):FpOk X pins H b:=by
 have hge:s.heap.objs.size≤b:=by
  simp only [List.mem_cons,List.not_mem_nil,or_false] at hb;rcases hb with rfl | rfl
  ·exact Nat.le_succ _
  ·exact Nat.le_refl _
 exact I.fpOk hge (I.hok.fresh hge)
theorem zk6 {a:Expr} {ta:TA} {p pos tpos:Pos} {elts:List Expr} {x1:Nat} (hK:X.K=K) (hg:Gl X "enumerate") (hm:X.mg "enumerate" = none) (ha:PA X [a] ta) (hs:starEach [a] X.env=(false,eval a X.env)::starEach [] X.env:=by rfl)
  (hs2:(backTo pos (starEach [] X.env)).any (·.1)=false:=by rfl):PI X (.Tuple elts x1 tpos) (.Call (.Name "enumerate" p) [a] [] pos) (zk5 K 0 ta):=by
 subst hK;intro pins s σ H R I h;refine Call_ (zeR I hg hm boot_enumerate (PyProof.Rows.callWith_type1 (thn (ha pos pins s σ H _ I h) fun us s1 ⟨vs,H1,I1,r1,q1⟩=>?_) hs hs2));obtain ⟨l,xs,e,q1,q⟩:=q1;subst e;obtain ⟨v1,rfl,ru⟩:=r1.one
 cases ru
 obtain ⟨its,rv,p1,_⟩:=I1.list q1;obtain ⟨o1,e1,_⟩:=p1.isList;have L1:=Heap.lt_size e1;refine call_enumerate_list p1.isList fun k a1 a2 _ a4=>?_;refine wpAny_pyIter_enum a1 ?_;have I2:Inv X pins σ H1 { s1 with heap:=k }:=I1.kept (t':=s1.toks) a4;exact ⟨s1.heap.objs.size+1,_,_,Ite X.K l 0,H1,rfl,I2,zgA (Nat.succ_ne_self _) (Nat.ne_of_lt (Nat.lt_succ_of_lt L1)) (Nat.ne_of_lt L1),⟨⟨_,a1⟩,a2⟩,zj1 (h':=k) I1,q⟩
theorem zk7 {a:Expr} {ta:TA} {p pos tpos kpos cpos:Pos} {ci:Nat} {elts:List Expr} {x1:Nat} (hK:X.K=K) (hg:Gl X "enumerate") (hm:X.mg "enumerate" = none) (ha:PA X [a] ta)
  (hb:bootBuiltins "enumerate" = some (.type "enumerate"):=by rfl)
  (he:backTo pos (starEach [a] X.env)=(false,eval a X.env)::backTo pos (starEach [] X.env):=by rfl) (hpl:(backTo pos (starEach [a] X.env)).any (·.1)=false:=by rfl) :
  PI X (.Tuple elts x1 tpos) (.Call (.Name "enumerate" p) [a] [⟨some "start",.Constant (.int 1) ci cpos,kpos⟩] pos) (zk5 K 1 ta):=by
 subst hK;intro pins s σ H R I h;refine wpAny_Call_Name_kw (zeR I hg hm hb ?_ (by decide) (by decide));refine zf1 (thn (ha pos pins s σ H _ I h) fun us s1 ⟨vs,H1,I1,r1,q1⟩=>thn ((zl1 zad pk_nil) pos pins s1 σ H1 (fun zs H2=>zs=[.int 1]∧H2=H1) I1 ⟨rfl,rfl⟩) fun ws s2 ⟨zs,H2,I2,r2,q2⟩=>?_) he hpl rfl rfl;obtain ⟨rfl,rfl⟩:=q2;obtain ⟨l,xs,e,q1,q⟩:=q1;subst e;obtain ⟨v1,rfl,ru⟩:=r1.one
 cases ru
 obtain ⟨v2,rfl,tt,rfl⟩:=r2.one;obtain ⟨its,rv,p1,_⟩:=I2.list q1;obtain ⟨o1,e1,_⟩:=p1.isList;have L1:=Heap.lt_size e1;refine ziI p1.isList fun k a1 a2 a4=>?_;refine wpAny_pyIter_enum a1 ?_;have I3:Inv X pins σ H2 { s2 with heap:=k }:=I2.kept (t':=s2.toks) a4;exact ⟨s2.heap.objs.size+1,_,_,Ite X.K l 1,H2,rfl,I3,zgA (Nat.succ_ne_self _) (Nat.ne_of_lt (Nat.lt_succ_of_lt L1)) (Nat.ne_of_lt L1),⟨⟨_,a1⟩,a2⟩,zj1 (h':=k) I2,q⟩
end
section
variable {σ:St} {H:Hp} {D:Ends} {nx bk ct:St→Hp→Prop} {rt:VK} {K:PySem.W.Frag} {Q:VK} {js:List Nat} {te:TE} {tc:TT} {c:Int} {a b:Addr} {xs ys:List V}
theorem zny {tl:TA} {g:TG} {tb:TS} (h:tl σ H fun vs H1=>∃ a xs,vs=[.ref a]∧SqL K H1 a xs∧ForI (Ite K a c) g tb D σ H1):tFor (zk5 K c tl) g tb D σ H:=h
theorem zmp {tl:TA} {k:Nat} {g:TG} (h:tl σ H fun vs H1=>∃ a xs,vs=[.ref a]∧SqL K H1 a xs∧zhl (Ite K a c) k js g tc te σ H1 Q):zhf (zk5 K c tl) k js g tc te σ H Q:=h
theorem zmq {tl:TA} {k:Nat} {g:TG} (h:tl σ H fun vs H1=>∃ a b xs ys,vs=[.ref a,.ref b]∧SqL K H1 a xs∧SqL K H1 b ys∧zhl (Itz K a b) k js g tc te σ H1 Q):zhf (iZip K tl) k js g tc te σ H Q:=h
theorem zh3 {P:Addr→Prop} (h:SqL K H a xs) (q:P a):∃ b xs,[V.ref a]=[.ref b]∧SqL K H b xs∧P b:=⟨a,xs,rfl,h,q⟩
theorem zmr {i j:Nat} {tb:TS} (Pv:Nat→St→Hp→Prop) (h0:Pv 0 σ H) (hl:∀ i σ H,i≤xs.length→Pv i σ H→SqL K H a xs)
  (hs:∀ k x σ H H' ,xs[k]? = some x→Pv k σ H→Same H H'→tb ⟨Pv (k+1),rt,nx,Pv (k+1)⟩ ((σ.set i (some (.int (c+k)))).set j (some x)) H') (hd:∀ σ H,Pv xs.length σ H→nx σ H) :
  ForI (Ite K a c) (gTup K 2 (zhb (zcS i) (zhb (zcS j) gNil))) tb ⟨nx,rt,bk,ct⟩ σ H:=by
 refine ⟨fun i m σ H=>m=xs.length-i∧i≤xs.length∧Pv i σ H,⟨xs.length,by simp,Nat.zero_le _,h0⟩,?_⟩;rintro k m σ H ⟨rfl,hi,p⟩;have q1:=hl k σ H hi p
 by_cases hlt:k < xs.length
 ·refine .inr ⟨⟨xs,xs[k],q1,by simp [hlt]⟩,Pv (k+1),fun σ' H' p'=>⟨xs.length-(k+1),by omega,rfl,hlt,p'⟩,fun v H' yy=>?_⟩;obtain ⟨T,hT,rfl,yy⟩:=yy;obtain ⟨x,hx,rfl⟩:=yy xs q1;exact ⟨T,[.int (c+k),x],rfl,SqT.of zay,rfl,.int (c+k),[x],rfl,x,[],rfl,rfl,hs k x σ H _ hx p (za0 hT)⟩
 ·have e:k=xs.length:=by omega
  subst e;exact .inl ⟨⟨xs,q1,Nat.le_refl _⟩,hd σ H p⟩
theorem zco.enum (h:SqL K H a xs):zco (Ite K a c) xs.length 2 js σ (gTup K 2 (zhb (zcS 0) (zhb (zcS 1) gNil))) (fun i=>[some (.int (c+i)),some (xs.getD i .non)]) H where
 len:=fun _=>rfl
 go:=fun i H' s hi=>⟨xs,xs[i],s.seq h,by simp [hi]⟩
 stop:=fun H' s=>⟨xs,s.seq h,Nat.le_refl _⟩
 yld:=fun i H' v H2 u N s hi hu hy q=>by
  obtain ⟨T,hT,rfl,yy⟩:=hy;obtain ⟨x,hx,rfl⟩:=yy xs (s.seq h);have ex:xs.getD i .non=x:=by rw [List.getD_eq_getElem?_getD,hx];rfl
  match u,hu with
  | [u1,u2],_ =>
    refine ⟨T,[.int (c+i),x],rfl,SqT.of zay,rfl,.int (c+i),[x],rfl,x,[],rfl,rfl,?_⟩;have:=q _ (za0 (o:=.tup [.int (c+i),x]) hT);rw [ex] at this;exact this
theorem zco.zip (h:SqL K H a xs) (h2:SqL K H b ys) (hl:xs.length=ys.length):zco (Itz K a b) xs.length 2 js σ (gTup K 2 (zhb (zcS 0) (zhb (zcS 1) gNil))) (fun i=>[some (xs.getD i .non),some (ys.getD i .non)]) H where
 len:=fun _=>rfl
 go:=fun i H' s hi=>⟨xs,ys,xs[i],ys[i],s.seq h,s.seq h2,by simp [hi],by simp [hl▸hi]⟩
 stop:=fun H' s=>⟨xs,ys,s.seq h,s.seq h2,.inl (Nat.le_refl _)⟩
 yld:=fun i H' v H2 u N s hi hu hy q=>by
  obtain ⟨T,hT,rfl,yy⟩:=hy;obtain ⟨x,y,hx,hy,rfl⟩:=yy xs ys (s.seq h) (s.seq h2);have ex:xs.getD i .non=x:=by rw [List.getD_eq_getElem?_getD,hx];rfl
  have ey:ys.getD i .non=y:=by rw [List.getD_eq_getElem?_getD,hy];rfl
  match u,hu with
  | [u1,u2],_ =>
    refine ⟨T,[x,y],rfl,SqT.of zay,rfl,x,[y],rfl,y,[],rfl,rfl,?_⟩;have:=q _ (za0 (o:=.tup [x,y]) hT);rw [ex,ey] at this;exact this
end
end L2
namespace Prf
open PySem PySem.Spec PyProof.Rows L2
def b1 (b:Bool):Nat:=if b then 1 else 0
theorem cnt_cons (r:List Int) (rows:List (List Int)) (x:Int):cntB (r::rows) x=b1 (decide (x∈r))+cntB rows x:=by
 unfold cntB b1;rw [List.filter_cons]
 cases decide (x∈r) <;> simp <;> omega
theorem zho (x:Int) (row:List Int):∀ (gv:List (List Int)) (p:Nat),p < gv.length→cntB (gv.set p row) x+b1 (decide (x∈gv.getD p []))=cntB gv x+b1 (decide (x∈row))
 | g::gv,0,_=>by
   rw [List.set_cons_zero,cnt_cons,cnt_cons];show _+b1 (decide (x∈g))=_;omega
 | g::gv,p+1,h=>by
   rw [List.set_cons_succ,cnt_cons,cnt_cons];have:=zho x row gv p (by simpa using h);show _+b1 (decide (x∈gv.getD p []))=_;omega
theorem zbl {α:Type} {xs:List α} {d v:α} {i j:Nat} (h:i < xs.length):(xs.set i v).getD j d=if j=i then v else xs.getD j d:=by
 rw [List.getD_eq_getElem?_getD,List.getElem?_set,List.getD_eq_getElem?_getD]
 by_cases e:j=i
 ·subst e;simp [h]
 ·simp [e,Ne.symm e]
structure Vld (al gv:List (List Int)) (lim sp:List Int) (o:Int):Prop where
 lg:gv.length=al.length
 ls:sp.length=lim.length
 nd:∀ q,q < gv.length→(gv.getD q []).Nodup
 sub:∀ q,q < gv.length→∀ r∈gv.getD q [],r∈al.getD q []
 ar:∀ q,q < al.length→∀ r∈al.getD q [],1≤r∧r≤lim.length
 s0:∀ r:Nat,r < lim.length→0≤sp.getD r 0
 eq:∀ r:Nat,r < lim.length→sp.getD r 0+(cntB gv ((r:Int)+1):Int)+(if (r:Int)+1=o then 1 else 0)=lim.getD r 0
theorem Vld.take {al gv:List (List Int)} {lim sp:List Int} {r:Int} (V:Vld al gv lim sp 0) (r1:1≤r) (r2:r≤lim.length) (h:0 < sp.getD (r-1).toNat 0):Vld al gv lim (sp.set (r-1).toNat (sp.getD (r-1).toNat 0-1)) r:=by
 have hi:(r-1).toNat < sp.length:=by have:=V.ls;omega
 refine ⟨V.lg,by rw [List.length_set];exact V.ls,V.nd,V.sub,V.ar,fun k hk=>?_,fun k hk=>?_⟩
 ·rw [zbl hi];split
  ·omega
  ·exact V.s0 k hk
 ·have e:=V.eq k hk;rw [if_neg (by omega)] at e;rw [zbl hi]
  by_cases ek:k=(r-1).toNat
  ·rw [if_pos ek,if_pos (by omega)];subst ek;omega
  ·rw [if_neg ek,if_neg (by omega)];exact e
theorem Vld.push {al gv:List (List Int)} {lim sp:List Int} {r:Int} {p:Nat} (V:Vld al gv lim sp r) (hp:p < gv.length) (hr:r∈al.getD p []) (hn:r∉gv.getD p []):Vld al (gv.set p (gv.getD p []++[r])) lim sp 0:=by
 refine ⟨by rw [List.length_set];exact V.lg,V.ls,fun q hq=>?_,fun q hq=>?_,V.ar,V.s0,fun k hk=>?_⟩
 ·rw [List.length_set] at hq;rw [zbl hp];split
  ·refine List.nodup_append.mpr ⟨V.nd p hp,by simp,fun a ha b hb=>?_⟩;have:b=r:=by simpa using hb
   subst this;intro e;subst e;exact hn ha
  ·exact V.nd q hq
 ·rw [List.length_set] at hq;rw [zbl hp];split
  ·rename_i e
   subst e;intro x hx;rcases List.mem_append.mp hx with h | h
   ·exact V.sub q hp x h
   ·have:x=r:=by simpa using h
    subst this;exact hr
  ·exact V.sub q hq
 ·have e:=V.eq k hk;have c:=zho ((k:Int)+1) (gv.getD p []++[r]) gv p hp;have l:=V.lg;have hrr:=V.ar p (by omega) r hr;rw [if_neg (show ¬(k:Int)+1=0 by omega)]
  by_cases ek:(k:Int)+1=r
  ·rw [if_pos ek] at e;rw [ek] at c e ⊢;have d1:decide (r∈gv.getD p [])=false:=decide_eq_false hn;have d2:decide (r∈gv.getD p []++[r])=true:=decide_eq_true (by simp);rw [d1,d2] at c;have c2:cntB (gv.set p (gv.getD p []++[r])) r+0=cntB gv r+1:=c;omega
  ·rw [if_neg ek] at e;have d:decide ((k:Int)+1∈gv.getD p []++[r])=decide ((k:Int)+1∈gv.getD p []):=by
    rw [decide_eq_decide];simp [ek]
   rw [d] at c;omega
theorem Vld.drop {al gv:List (List Int)} {lim sp:List Int} {r:Int} {p:Nat} (V:Vld al gv lim sp 0) (hp:p < gv.length) (hr:r∈gv.getD p []):Vld al (gv.set p ((gv.getD p []).erase r)) lim sp r:=by
 have ndp:=V.nd p hp;refine ⟨by rw [List.length_set];exact V.lg,V.ls,fun q hq=>?_,fun q hq=>?_,V.ar,V.s0,fun k hk=>?_⟩
 ·rw [List.length_set] at hq;rw [zbl hp];split
  ·exact ndp.erase r
  ·exact V.nd q hq
 ·rw [List.length_set] at hq;rw [zbl hp];split
  ·rename_i e
   subst e;intro x hx;exact V.sub q hp x (List.mem_of_mem_erase hx)
  ·exact V.sub q hq
 ·have e:=V.eq k hk;have c:=zho ((k:Int)+1) ((gv.getD p []).erase r) gv p hp;rw [if_neg (show ¬(k:Int)+1=0 by omega)] at e
  by_cases ek:(k:Int)+1=r
  ·rw [if_pos ek];rw [ek] at c e ⊢;have d1:decide (r∈gv.getD p [])=true:=decide_eq_true hr;have d2:decide (r∈(gv.getD p []).erase r)=false:=decide_eq_false (by rw [ndp.mem_erase_iff];simp);rw [d1,d2] at c;have c2:cntB (gv.set p ((gv.getD p []).erase r)) r+1=cntB gv r+0:=c;omega
  ·rw [if_neg ek];have d:decide ((k:Int)+1∈(gv.getD p []).erase r)=decide ((k:Int)+1∈gv.getD p []):=by
    rw [decide_eq_decide,ndp.mem_erase_iff];simp [ek]
   rw [d] at c;omega
def Cov (al gv:List (List Int)) (ks:List Int) (q:Nat):Prop:=∀ r∈al.getD q [],r∈ks∨r∈gv.getD q []
theorem Cov.mono {al gv:List (List Int)} {ks ls:List Int} {q:Nat} (h:Cov al gv ks q) (s:∀ r∈ks,r∈ls):Cov al gv ls q:=fun r hr=>(h r hr).elim (fun z=>.inl (s r z)) .inr
def Cls2 (al gv:List (List Int)) (sp ks ls:List Int):Prop:=(∀ r∈ks,r∈ls)∧∀ r∈ls,r∉ks→sp.getD (r-1).toNat 0=0∧∀ q,q < gv.length→r∈gv.getD q []→Cov al gv ls q
theorem Cls2.refl {al gv:List (List Int)} {sp ks:List Int}:Cls2 al gv sp ks ks:=⟨fun _ h=>h,fun r h n=>absurd h n⟩
theorem Cls2.trans {al gv:List (List Int)} {sp ks ls ms:List Int} (a:Cls2 al gv sp ks ls) (b:Cls2 al gv sp ls ms):Cls2 al gv sp ks ms:=by
 refine ⟨fun r h=>b.1 r (a.1 r h),fun r h n=>?_⟩
 by_cases hl:r∈ls
 ·obtain ⟨h1,h2⟩:=a.2 r hl n;exact ⟨h1,fun q hq hr=>(h2 q hq hr).mono b.1⟩
 ·exact b.2 r h hl
theorem Cls2.one {al gv:List (List Int)} {sp ks ls:List Int} {x:Int} (b:Cls2 al gv sp (ks++[x]) ls) (h0:sp.getD (x-1).toNat 0=0) (h1:∀ q,q < gv.length→x∈gv.getD q []→Cov al gv ls q):Cls2 al gv sp ks ls:=by
 refine ⟨fun r h=>b.1 r (by simp [h]),fun r h n=>?_⟩
 by_cases e:r=x
 ·subst e;exact ⟨h0,h1⟩
 ·exact b.2 r h (by simp [n,e])
structure Fnd (al gv gv':List (List Int)) (lim sp' ks:List Int) (p:Nat):Prop where
 v:Vld al gv' lim sp' 0
 lg:gv'.length=gv.length
 len:∀ q,q < gv.length→(gv'.getD q []).length=(gv.getD q []).length+if q=p then 1 else 0
 old:∀ r∈ks,∀ q,q < gv.length→(r∈gv'.getD q []↔r∈gv.getD q [])
structure Fre (al gv gv':List (List Int)) (lim sp' ks:List Int) (x:Int):Prop where
 v:Vld al gv' lim sp' x
 lg:gv'.length=gv.length
 len:∀ q,q < gv.length→(gv'.getD q []).length=(gv.getD q []).length
 old:∀ r∈ks,r≠x→∀ q,q < gv.length→(r∈gv'.getD q []↔r∈gv.getD q [])
 own:∀ q,q < gv.length→x∈gv'.getD q []→x∈gv.getD q []
theorem Fre.found {al gv gv':List (List Int)} {lim sp' ks:List Int} {x:Int} {p:Nat} (F:Fre al gv gv' lim sp' (ks++[x]) x) (hp:p < gv.length) (hx:x∈al.getD p []) (hn:x∉gv.getD p []) (hk:x∉ks) :
  Fnd al gv (gv'.set p (gv'.getD p []++[x])) lim sp' ks p:=by
 have l:=F.lg;have hp':p < gv'.length:=by omega
 refine ⟨F.v.push hp' hx (fun z=>hn (F.own p hp z)),by rw [List.length_set];exact l,fun q hq=>?_,fun r hr q hq=>?_⟩
 ·have:=F.len q hq;rw [zbl hp']
  by_cases e:q=p
  ·subst e;rw [if_pos rfl,if_pos rfl,List.length_append,List.length_singleton];omega
  ·rw [if_neg e,if_neg e];omega
 ·have hne:r≠x:=fun e=>hk (e▸hr);have:=F.old r (by simp [hr]) hne q hq;rw [zbl hp']
  by_cases e:q=p
  ·subst e;rw [if_pos rfl,List.mem_append,this];simp [hne]
  ·rw [if_neg e];exact this
theorem Fnd.freed {al gv gv':List (List Int)} {lim sp' ks:List Int} {x:Int} {p:Nat} (F:Fnd al gv gv' lim sp' ks p) (hp:p < gv.length) (hx:x∈gv.getD p []) (hk:x∈ks) :
  x∈gv'.getD p []∧Fre al gv (gv'.set p ((gv'.getD p []).erase x)) lim sp' ks x:=by
 have l:=F.lg;have hp':p < gv'.length:=by omega
 have hx':x∈gv'.getD p []:=(F.old x hk p hp).mpr hx;have ndp:=F.v.nd p hp';refine ⟨hx',F.v.drop hp' hx',by rw [List.length_set];exact l,fun q hq=>?_,fun r hr hne q hq=>?_,fun q hq hq2=>?_⟩
 ·have:=F.len q hq;rw [zbl hp']
  by_cases e:q=p
  ·subst e;rw [if_pos rfl,List.length_erase_of_mem hx'];rw [if_pos rfl] at this;omega
  ·rw [if_neg e];rw [if_neg e] at this;omega
 ·have:=F.old r hr q hq;rw [zbl hp']
  by_cases e:q=p
  ·subst e;rw [if_pos rfl,ndp.mem_erase_iff,this];simp [hne]
  ·rw [if_neg e];exact this
 ·rw [zbl hp'] at hq2
  by_cases e:q=p
  ·subst e;exact hx
  ·rw [if_neg e] at hq2;exact (F.old x hk q hq).mp hq2
theorem Vld.taken {al gv:List (List Int)} {lim sp ks:List Int} {r:Int} (V:Vld al gv lim sp 0) (r1:1≤r) (r2:r≤lim.length) (h:0 < sp.getD (r-1).toNat 0):Fre al gv gv lim (sp.set (r-1).toNat (sp.getD (r-1).toNat 0-1)) ks r :=
 ⟨V.take r1 r2 h,rfl,fun _ _=>rfl,fun _ _ _ _ _=>Iff.rfl,fun _ _ h=>h⟩
theorem znz {n:Nat} {f:Nat→Bool}:Hall.sm n (fun p=>Hall.b2 (f p))=((List.range n).filter f).length:=zc3 f n
theorem zj2 {row:List Int} {m:Nat} (nd:row.Nodup) (h:∀ r∈row,1≤r∧r≤m):Hall.sm m (fun r=>Hall.b2 (decide ((r:Int)+1∈row)))=row.length:=by
 rw [znz];have e:(((List.range m).filter fun r:Nat=>decide ((r:Int)+1∈row)).map fun r:Nat=>(r:Int)+1).Perm row:=by
  refine (List.perm_ext_iff_of_nodup ?_ nd).mpr fun x=>?_
  ·unfold List.Nodup;rw [List.pairwise_map];exact (List.nodup_range.filter _).imp fun h e=>h (by omega)
  ·constructor
   ·intro hx;obtain ⟨r,hr,rfl⟩:=List.mem_map.mp hx;simpa using (List.mem_filter.mp hr).2
   ·intro hx;have:=h x hx;refine List.mem_map.mpr ⟨(x-1).toNat,List.mem_filter.mpr ⟨List.mem_range.mpr (by omega),?_⟩,by omega⟩;have e:(((x-1).toNat:Nat):Int)+1=x:=by omega
    rw [e];simpa using hx
 have:=e.length_eq;rw [List.length_map] at this;exact this
theorem zk8 {hs:List Int} {rs al gv:List (List Int)} {lim sp:List Int} (h0:∀ i,i < rs.length→0≤(rs.getD i []).getD 1 0) (V:Vld al gv lim sp 0) (hn:al.length=hs.length) (hm:lim.length=rs.length) (hl:∀ r,r < rs.length→lim.getD r 0=(rs.getD r []).getD 1 0)
  (hA:∀ q,q < hs.length→∀ r:Nat,r < rs.length→(r:Int)+1∈al.getD q []→zbo hs rs q r=true) (h2:∀ q,q < hs.length→(gv.getD q []).length=2):∃ rows,zaX hs rs rows=true:=by
 have lg:=V.lg;rw [ze1 h0,← zjV h0];refine Hall.room_of (B:=fun p r=>decide (p < hs.length) && decide (r < rs.length) && decide ((r:Int)+1∈gv.getD p [])) (fun p r h=>?_) (fun p hp=>?_) fun r hr=>?_
 ·simp only [Bool.and_eq_true,decide_eq_true_eq] at h;exact hA p h.1.1 r h.1.2 (V.sub p (by omega) _ h.2)
 ·rw [← h2 p hp,← zj2 (m:=rs.length) (V.nd p (by omega)) fun r hr=>by have:=V.ar p (by omega) r (V.sub p (by omega) r hr);omega];apply Hall.sm_congr;intro r hr;rw [decide_eq_true hp,decide_eq_true hr];rfl
 ·have e:=V.eq r (by omega);have s0:=V.s0 r (by omega);rw [if_neg (by omega),hl r hr,zf0] at e;have:Hall.sm hs.length (fun p=>Hall.b2 (decide (p < hs.length) && decide (r < rs.length) && decide ((r:Int)+1∈gv.getD p [])))=Hall.sm gv.length (fun p=>Hall.b2 (decide ((r:Int)+1∈gv.getD p []))):=by
   rw [show gv.length=hs.length by omega];apply Hall.sm_congr;intro p hp;rw [decide_eq_true hp,decide_eq_true hr];rfl
  rw [this];unfold limN;omega
theorem zj3 {hs:List Int} {rs al gv:List (List Int)} {lim sp ls:List Int} {p:Nat} (h0:∀ i,i < rs.length→0≤(rs.getD i []).getD 1 0) (V:Vld al gv lim sp 0) (hn:al.length=hs.length) (hm:lim.length=rs.length) (hl:∀ r,r < rs.length→lim.getD r 0=(rs.getD r []).getD 1 0)
  (hA:∀ q,q < hs.length→∀ r:Nat,r < rs.length→zbo hs rs q r=true→(r:Int)+1∈al.getD q []) (h2:∀ q,q < hs.length→(gv.getD q []).length≤2) (hp:p < hs.length) (hp2:(gv.getD p []).length < 2)
  (C:Cls2 al gv sp [] ls) (hc:Cov al gv ls p):∀ rows,zaX hs rs rows=false:=by
 have lg:=V.lg;have key:¬Hall.Ok hs.length rs.length (limN rs) (fun _=>2) (zbo hs rs):=by
  intro ok
  let S:Nat→Bool:=fun q=>decide (q=p) || (gv.getD q []).any fun r=>decide (r∈ls)
  have hS:∀ q,q < hs.length→S q=true→Cov al gv ls q:=fun q hq z=>by
   simp only [S,Bool.or_eq_true,decide_eq_true_eq,List.any_eq_true] at z;rcases z with z | ⟨r,h1,h2⟩
   ·subst z;exact hc
   ·exact (C.2 r h2 (by simp)).2 q (by omega) h1
  have le:=ok S;have rm:Hall.room hs.length rs.length (limN rs) (zbo hs rs) S≤Hall.sm rs.length (fun r=>Hall.sm hs.length fun q=>Hall.b2 (S q && decide ((r:Int)+1∈gv.getD q []))):=by
   unfold Hall.room;refine Hall.sm_le fun r hr=>?_
   by_cases hk:(r:Int)+1∈ls
   ·refine Nat.le_trans (Nat.min_le_left _ _) ?_;have z:=(C.2 _ hk (by simp)).1;have er:((r:Int)+1-1).toNat=r:=by omega
    rw [er] at z;have e:=V.eq r (by omega);rw [if_neg (by omega),hl r hr,zf0,z] at e;have:Hall.sm hs.length (fun q=>Hall.b2 (S q && decide ((r:Int)+1∈gv.getD q [])))=Hall.sm gv.length (fun q=>Hall.b2 (decide ((r:Int)+1∈gv.getD q []))):=by
     rw [show gv.length=hs.length by omega];apply Hall.sm_congr;intro q hq
     by_cases h:(r:Int)+1∈gv.getD q []
     ·have:S q=true:=by
       simp only [S,Bool.or_eq_true,List.any_eq_true];exact .inr ⟨_,h,decide_eq_true hk⟩
      rw [this];rfl
     ·rw [decide_eq_false h,Bool.and_false]
    rw [this];unfold limN;omega
   ·refine Nat.le_trans (Nat.min_le_right _ _) ?_;unfold Hall.deg;refine Hall.sm_le fun q hq=>?_
    cases hs1:S q with
    | false=>simp [Hall.b2]
    | true =>
      cases ha:zbo hs rs q r with
      | false=>simp [Hall.b2]
      | true =>
        have:=(hS q hq hs1 _ (hA q hq r hr ha)).resolve_left hk;rw [decide_eq_true this];exact Nat.le_refl _
  rw [Hall.sm_swap] at rm;have lt:Hall.sm hs.length (fun q=>Hall.sm rs.length fun r=>Hall.b2 (S q && decide ((r:Int)+1∈gv.getD q []))) < Hall.need hs.length (fun _=>2) S:=by
   unfold Hall.need;have each:∀ q,q < hs.length→Hall.sm rs.length (fun r=>Hall.b2 (S q && decide ((r:Int)+1∈gv.getD q [])))=if S q=true then (gv.getD q []).length else 0:=fun q hq=>by
    cases hs1:S q with
    | false =>
      rw [if_neg Bool.false_ne_true];have:Hall.sm rs.length (fun r=>Hall.b2 (false && decide ((r:Int)+1∈gv.getD q [])))=Hall.sm rs.length (fun _=>0):=Hall.sm_congr fun i _=>rfl;rw [this,Hall.sm_zero]
    | true =>
      rw [if_pos rfl];have:Hall.sm rs.length (fun r=>Hall.b2 (true && decide ((r:Int)+1∈gv.getD q [])))=Hall.sm rs.length (fun r=>Hall.b2 (decide ((r:Int)+1∈gv.getD q []))):=Hall.sm_congr fun i _=>rfl;rw [this];exact zj2 (V.nd q (by omega)) fun r hr=>by have:=V.ar q (by omega) r (V.sub q (by omega) r hr);omega
   refine Hall.sm_lt (p:=p) hp (fun q hq=>?_) ?_
   ·rw [each q hq];have:=h2 q hq;split <;> omega
   ·have hsp:S p=true:=by simp [S]
    rw [each p hp,if_pos hsp,if_pos hsp];exact hp2
  omega
 intro rows;rw [Bool.eq_false_iff];intro z;exact key ((zjV h0).mpr ((ze1 h0).mp ⟨rows,z⟩))
end Prf
namespace L2
open PySem PySem.Spec PyProof.Rows
section
variable {X:Cx} {K:PySem.W.Frag} {o e value:Expr} {f:Str} {pos pos' tpos:Pos} {ta tv:TE}
theorem zaF (hK:X.K=K) (he:PE X e ta) (hb:attributeBase e f X.env (eval e X.env)=eval e X.env:=by rfl):PE X (.Attribute e f pos) (tFld K ta f):=hK▸zmY he hb
theorem zbO (hK:X.K=K) (ha:PE X o ta) (hv:PE X value tv) (hs:swapsWith value (some (.Attribute o f pos')) pos.line X.env=pure false:=by rfl):PS X (.Assign [.Attribute o f pos'] value pos) (sFld K ta tv f):=hK▸zmZ ha hv hs
def znA (K:PySem.W.Frag):V→V→Hp→VK→Prop:=fun x y H Q=>∃ (p:Addr) (ns:List Int) (i:Int),x=.ref p∧y=.int i∧SqL K H p (ns.map V.int)∧0≤i∧i < ns.length∧Q (.int (ns.getD i.toNat 0)) H
theorem zj4 (hK:X.K=K):PGet X (znA K):=by
 subst hK;intro pins s σ H x y v u Q I rx ry h;obtain ⟨p,ns,i,rfl,rfl,hq,h0,h1,q⟩:=h
 cases rx
 obtain ⟨t,rfl⟩:=ry;obtain ⟨its,r,pl,hz⟩:=I.list hq;have hi:i.toNat < ns.length:=by omega
 obtain ⟨w,ew,rw'⟩:=r.get (i:=i.toNat) (x:=.int (ns.getD i.toNat 0)) (by rw [List.getElem?_map,List.getElem?_eq_getElem hi,List.getD_eq_getElem?_getD,List.getElem?_eq_getElem hi];rfl);have hn:=line63;rw [List.length_map] at hz;exact getItem_listL pl.isList h0 (by omega) ew ⟨_,H,I,rw',q⟩
theorem zdS {α β:Type} (f:α→β):∀ (l:List α) (k:Nat),(l.map f).eraseIdx k=(l.eraseIdx k).map f
 | [],_=>rfl
 | _::_,0=>rfl
 | a::l,k+1=>congrArg (f a::·) (zdS f l k)
def rRemove:V→List V→Hp→VK→Prop:=fun x vs H Q=>∃ (l:Addr) (ns:List Int) (i:Int),x=.ref l∧vs=[.int i]∧H l=some (.lst (ns.map V.int))∧i∈ns∧Q .non (upd H l (.lst ((ns.erase i).map V.int)))
theorem erase_at:∀ {ns:List Int} {i:Int},i∈ns→∃ j,∃ hj:j < ns.length,ns[j]=i∧(∀ m (hm:m < ns.length),m < j→ns[m]≠i)∧ns.erase i=ns.eraseIdx j
 | n::ns,i,h=>by
   by_cases e:n=i
   ·subst e;exact ⟨0,by simp,rfl,fun m _ h=>absurd h (by omega),by simp⟩
   ·have h':i∈ns:=by
     rcases List.mem_cons.mp h with z | z
     ·exact absurd z.symm e
     ·exact z
    obtain ⟨j,hj,h1,h2,h3⟩:=erase_at h';refine ⟨j+1,by simp;exact hj,h1,fun m hm hlt=>?_,?_⟩
    ·cases m with
     | zero=>exact e
     | succ m=>exact h2 m (by simpa using hm) (by omega)
    ·rw [List.erase_cons_tail (by simpa using e),h3];rfl
theorem vals_int_at:∀ {ns:List Int} {its:List Value},Vals (ns.map V.int) its→∀ (m:Nat) (h1:m < ns.length) (h2:m < its.length),∃ t,its[m]=.int ns[m] t:=fun {ns its} r m h1 h2=>by
 obtain ⟨u,hu,t,rfl⟩:=r.get (i:=m) (x:=.int ns[m]) (by simp [h1]);rw [List.getElem?_eq_getElem h2] at hu;exact ⟨t,Option.some.inj hu⟩
theorem vals_erase:∀ {xs:List V} {us:List Value} (k:Nat),Vals xs us→Vals (xs.eraseIdx k) (us.eraseIdx k)
 | _,_,_,.nil=>.nil
 | _,_,0,.cons _ t=>t
 | _,_,k+1,.cons r t=>.cons r (vals_erase k t)
theorem mt_remove:MtM X "list.remove" rRemove:=by
 intro pins s σ H x vs v us Q I rx rv h;obtain ⟨l,ns,i,rfl,rfl,hH,hi,q⟩:=h
 cases rx
 obtain ⟨u,rfl,t,rfl⟩:=rv.one;obtain ⟨z,its,n,r,hl,e⟩:=I.lstM hH;rw [List.length_map] at hl z;obtain ⟨j,hj,e1,e2,e3⟩:=erase_at hi;have at_:∀ (m:Nat) (h:m < its.length),∃ t,its[m]=.int (ns[m]'(by omega)) t:=fun m h=>vals_int_at r m (by omega) h;refine call_meets F.slot_list_remove ⟨_,e,rfl⟩ F.entry_list_remove (F.args_list_remove_2 _ _)
  (MeetsSeq.list_remove l its.toArray n (.int i t) (fun y=>match y with | .int a _=>a == i | _=>false) (fun y hy=>?_) j (by simpa using (show j < its.length by omega)) ?_ (fun m hm hlt=>?_) (by rw [List.size_toArray];omega)) ⟨e,?_⟩
 ·obtain ⟨m,hm,rfl⟩:=List.getElem_of_mem (by simpa using hy:y∈its);obtain ⟨t',et⟩:=at_ m hm;rw [et];exact MeetsSeq.EqGives.int _ _ _ _
 ·obtain ⟨t',et⟩:=at_ j (by omega);rw [List.getElem_toArray,et];simpa using e1
 ·have hm':m < its.length:=by simpa using hm
  obtain ⟨t',et⟩:=at_ m hm';rw [List.getElem_toArray,et];simpa using e2 m (by omega) hlt
 ·refine ⟨.non,_,I.lset (its':=its.eraseIdx j) (ys:=(ns.erase i).map V.int) hH e ?_ ?_ ?_,rfl,q⟩
  ·show its.toArray.eraseIdxIfInBounds j=(its.eraseIdx j).toArray;rw [List.eraseIdxIfInBounds_toArray]
  ·rw [e3,← zdS];exact vals_erase j r
  ·rw [List.length_map];have:=List.length_erase_le (a:=i) (l:=ns);omega
end
section
variable {σ:St} {H:Hp} {Q:VK} {D:Ends} {K:PySem.W.Frag} {ta tv to ti te tb:TE} {f m:Str} {tl:TA} {C a p x:Addr} {nx bk ct:St→Hp→Prop} {rt:VK} {sp:Sp} {E:XK} {fs:List (Str×V)} {dx:Addr} {v:V} {i:Int} {xs:List V} {ns:List Int}
def zj5 (K:PySem.W.Frag) (f:Str) (x:V) (H1:Hp) (Q:VK):Prop:=∃ a C dx fs v,x=.ref a∧H1 a=some (.ins C dx fs)∧Cls K C∧zbE K C f∧fs.lookup f=some v∧Q v H1
theorem zot (h:ta σ H fun x H1=>zj5 K f x H1 Q):tFld K ta f σ H Q:=h
theorem zk9 (h:H a=some (.ins C dx fs)) (c:Cls K C) (n:zbE K C f) (l:fs.lookup f=some v) (q:Q v H):zj5 K f (.ref a) H Q:=⟨a,C,dx,fs,v,rfl,h,c,n,l,q⟩
def zh4 (K:PySem.W.Frag) (f:Str) (y x:V) (H2:Hp) (N:Hp→Prop):Prop:=∃ a C dx fs,x=.ref a∧H2 a=some (.ins C dx fs)∧Cls K C∧zbE K C f∧fs.length < 1000∧N (upd H2 a (.ins C dx (putF f y fs)))
theorem znB (h:tv σ H fun y H1=>ta σ H1 fun x H2=>zh4 K f y x H2 fun H3=>nx σ H3):sFld K ta tv f ⟨nx,rt,bk,ct⟩ σ H:=h
theorem za8 {y:V} {N:Hp→Prop} (h:H a=some (.ins C dx fs)) (c:Cls K C) (n:zbE K C f) (l:fs.length < 1000) (q:∀ H2,But a H H2→H2 a=some (.ins C dx (putF f y fs))→N H2):zh4 K f y (.ref a) H N:=⟨a,C,dx,fs,rfl,h,c,n,l,q _ But.upd zay⟩
def zbm (C:Addr) (m:Str) (sp:Sp) (E:XK) (t:TA) (σ:St) (x:V) (H1:Hp) (Q:VK):Prop:=∃ a dx fs,x=.ref a∧H1 a=some (.ins C dx fs)∧fs.lookup m=none∧t σ H1 fun vs H2=>sp (x::(vs++[])) H2 Q E
theorem znC (h:ta σ H fun x H1=>zbm C m sp E tl σ x H1 Q):zlY C m sp [] E ta tl σ H Q:=h
theorem zaN (h:H a=some (.ins C dx fs)) (l:fs.lookup m=none) (q:tl σ H fun vs H2=>sp (.ref a::(vs++[])) H2 Q E):zbm C m sp E tl σ (.ref a) H Q:=⟨a,dx,fs,rfl,h,l,q⟩
def zh5 (C:Addr) (sp:Sp) (E:XK) (vs:List V) (H1:Hp) (Q:VK):Prop:=∀ x dx,H1 x=none→H1 dx=none→dx≠x→sp (.ref x::(vs++[])) (upd (upd H1 dx (.own x)) x (.ins C dx [])) (fun v H2=>v=.non∧Q (.ref x) H2) E
theorem znD (h:tl σ H fun vs H1=>zh5 C sp E vs H1 Q):zlZ C sp [] E tl σ H Q:=h
theorem zgB {vs:List V} (h:∀ x dx H2,H x=none→H dx=none→dx≠x→Same H H2→H2 x=some (.ins C dx [])→sp (.ref x::(vs++[])) H2 (fun v H3=>v=.non∧Q (.ref x) H3) E):zh5 C sp E vs H Q :=
 fun x dx hx hd ne=>h x dx _ hx hd ne (fun b u z=>by rw [zaR (zaj z hx),zaR (zaj z hd)];exact z) zay
theorem znE {tget:V→V→Hp→VK→Prop} {tip:TIp} {tset:TSet} (h:to σ H fun o H1=>ti σ H1 fun i H2=>tget o i H2 fun x H3=>te σ H3 fun y H4=>tip x y H4 fun z H5=>tset o i z H5 fun H6=>nx σ H6):zmU to ti te tget tip tset ⟨nx,rt,bk,ct⟩ σ H:=h
theorem znF (h:SqL K H p (ns.map V.int)) (h0:0≤i) (h1:i < ns.length) (q:Q (.int (ns.getD i.toNat 0)) H):znA K (.ref p) (.int i) H Q:=⟨p,ns,i,rfl,rfl,h,h0,h1,q⟩
theorem zou {g:Int→Int→Int} {j:Int} (q:Q (.int (g i j)) H):ipI g (.int i) (.int j) H Q:=⟨i,j,rfl,rfl,q⟩
theorem zhp (h:H p=some (.lst (ns.map V.int))) (hi:i∈ns) (q:∀ H2,But p H H2→H2 p=some (.lst ((ns.erase i).map V.int))→Q .non H2):rRemove (.ref p) [.int i] H Q:=⟨p,ns,i,rfl,rfl,h,hi,q _ But.upd zay⟩
def kvT (ks:List Int):List (Key×V):=ks.map fun k=>(Sum.inl k,.bl true)
theorem zh6 (ks:List Int) (k:Int):(valV (kvT ks) (Sum.inl k:Key)).isSome=decide (k∈ks):=by
 induction ks with
 | nil=>rfl
 | cons y ys ih =>
   show (valV (((Sum.inl y:Key),V.bl true)::kvT ys) (Sum.inl k:Key)).isSome=_
   by_cases e:y=k
   ·subst e;rw [zbu rfl];simp
   ·rw [zbv (fun z=>e (Sum.inl.inj z)),ih,decide_eq_decide];simp [Ne.symm e]
theorem zla {ks:List Int} {k:Int} (h:k∉ks):putK (kvT ks) (Sum.inl k:Key) (.bl true)=kvT (ks++[k]):=by
 have:valV (kvT ks) (Sum.inl k:Key)=none:=by
  have:=zh6 ks k;rw [decide_eq_false h] at this
  cases e:valV (kvT ks) (Sum.inl k:Key) with
  | none=>rfl
  | some v=>rw [e] at this;cases this
 rw [zkM _ this];unfold kvT;rw [List.map_append];rfl
def zj6 (y x:V) (H2:Hp) (Q:VK):Prop:=∃ a o,x=.ref a∧DGet H2 a y o∧Q (.bl o.isSome) H2
theorem zov (h:ta σ H fun y H1=>tb σ H1 fun x H2=>zj6 y x H2 Q):tDIn ta tb σ H Q:=h
theorem zlb {ks:List Int} (h:H a=some (.dK (kvT ks))) (q:Q (.bl (decide (i∈ks))) H):zj6 (.int i) (.ref a) H Q :=
 ⟨a,_,rfl,DGet.k (k:=(Sum.inl i:Key)) h,by rw [zh6];exact q⟩
def zf2 (v x y:V) (H3:Hp) (N:Hp→Prop):Prop:=∃ a H4,x=.ref a∧DPut H3 a y v H4∧N H4
theorem znG (h:tv σ H fun v H1=>ta σ H1 fun x H2=>tb σ H2 fun y H3=>zf2 v x y H3 fun H4=>nx σ H4):zm5 ta tb tv ⟨nx,rt,bk,ct⟩ σ H:=h
theorem zj7 {ks:List Int} {N:Hp→Prop} (h:H a=some (.dK (kvT ks))) (hz:ks.length≤1000) (hn:i∉ks) (q:∀ H2,But a H H2→H2 a=some (.dK (kvT (ks++[i])))→N H2):zf2 (.bl true) (.ref a) (.int i) H N:=by
 refine ⟨a,_,rfl,DPut.k (k:=(Sum.inl i:Key)) h (by unfold kvT;rw [List.length_map];exact za1 hz),q _ But.upd ?_⟩;rw [zay,zla hn]
theorem zgC (h:∀ p H2,H p=none→Same H H2→H2 p=some (.dK (kvT []))→Q (.ref p) H2):tDNewK σ H Q:=fun p hp=>h p _ hp (za0 hp) zay
end
end L2
namespace Prf
open PySem PySem.Spec PyProof.Rows L2
def prsB:List Int→List (List Int)
 | []=>[]
 | x::xs=>(xs.map fun y=>[x,y])++prsB xs
def zlc (a b:List Int):Prop:=a.getD 0 0 < b.getD 0 0∨a.getD 0 0=b.getD 0 0∧a.getD 1 0≤b.getD 1 0
theorem prs_mem:∀ {ns:List Int} {r:List Int},ns.Pairwise (· < ·)→(r∈prsB ns↔∃ x y,r=[x,y]∧x∈ns∧y∈ns∧x < y)
 | [],r,_=>by simp [prsB]
 | n::ns,r,h=>by
   obtain ⟨h1,h2⟩:=List.pairwise_cons.mp h;unfold prsB;rw [List.mem_append,prs_mem h2,List.mem_map];constructor
   ·rintro (⟨y,hy,rfl⟩ | ⟨x,y,rfl,hx,hy,hlt⟩)
    ·exact ⟨n,y,rfl,by simp,by simp [hy],h1 y hy⟩
    ·exact ⟨x,y,rfl,by simp [hx],by simp [hy],hlt⟩
   ·rintro ⟨x,y,rfl,hx,hy,hlt⟩;rcases List.mem_cons.mp hx with rfl | hx'
    ·rcases List.mem_cons.mp hy with rfl | hy'
     ·omega
     ·exact .inl ⟨y,hy',rfl⟩
    ·rcases List.mem_cons.mp hy with rfl | hy'
     ·have:=h1 x hx';omega
     ·exact .inr ⟨x,y,rfl,hx',hy',hlt⟩
theorem prs_ord:∀ {ns:List Int},ns.Pairwise (· < ·)→(prsB ns).Pairwise zlc
 | [],_=>List.Pairwise.nil
 | n::ns,h=>by
   obtain ⟨h1,h2⟩:=List.pairwise_cons.mp h;unfold prsB;refine List.pairwise_append.mpr ⟨?_,prs_ord h2,fun a ha b hb=>?_⟩
   ·rw [List.pairwise_map];exact h2.imp fun h=>.inr ⟨rfl,Int.le_of_lt h⟩
   ·obtain ⟨y,hy,rfl⟩:=List.mem_map.mp ha;obtain ⟨x,z,rfl,hx,_,_⟩:=(prs_mem h2).mp hb;exact .inl (h1 x hx)
theorem zld {ns:List Int} {i:Nat} (h:i < ns.length):prsB (ns.drop i)=((ns.drop (i+1)).map fun y=>[ns.getD i 0,y])++prsB (ns.drop (i+1)):=by
 rw [List.drop_eq_getElem_cons h,List.getD_eq_getElem?_getD,List.getElem?_eq_getElem h];rfl
theorem prs_len:∀ (ns:List Int),(prsB ns).length≤ns.length * ns.length
 | []=>Nat.le_refl _
 | n::ns=>by
   unfold prsB;rw [List.length_append,List.length_map,List.length_cons,Nat.add_mul,Nat.mul_add];have:=prs_len ns;omega
theorem cnt_append (a b:List (List Int)) (x:Int):cntB (a++b) x=cntB a x+cntB b x:=by
 unfold cntB;rw [List.filter_append,List.length_append]
def zgD (rs:List (List Int)) (ls:List Int):List (List Int):=(List.range rs.length).map fun i=>[(rs.getD i []).getD 0 0,ls.getD i 0]
theorem zcA (rs:List (List Int)) (ls:List Int):(zgD rs ls).length=rs.length:=by unfold zgD;rw [List.length_map,List.length_range]
theorem zc8 {rs:List (List Int)} {ls:List Int} {i:Nat} (h:i < rs.length):(zgD rs ls).getD i []=[(rs.getD i []).getD 0 0,ls.getD i 0]:=zaB h
theorem zf3 {rs rows:List (List Int)} {i:Nat} (h:i < rs.length):(za4 rs rows).getD i 0=(rs.getD i []).getD 1 0-(cntB rows ((i:Int)+1):Int):=zaB h
theorem zgE {rs:List (List Int)} {ls:List Int} {h:Int} {row:List Int}:zcu (zgD rs ls) h row=true↔zcu rs h row=true:=by
 rw [zb6,zb6,zcA];constructor
 ·rintro ⟨h1,h2,h3,h4,h5,h6⟩;rw [zc8 (by omega)] at h5 h6;exact ⟨h1,h2,h3,h4,h5,h6⟩
 ·rintro ⟨h1,h2,h3,h4,h5,h6⟩;refine ⟨h1,h2,h3,h4,?_,?_⟩
  ·rw [zc8 (by omega)];exact h5
  ·rw [zc8 (by omega)];exact h6
def zcp (hs:List Int) (rs rows:List (List Int)):Prop:=rows.length≤hs.length∧∀ k,k < rows.length→zcu rs (hs.getD k 0) (rows.getD k [])=true
def Ext (hs:List Int) (rs rows:List (List Int)):Prop:=∃ more,zaX hs rs (rows++more)=true
theorem zbr {hs:List Int} {rs rows:List (List Int)}:zaX hs rs rows=true↔rows.length=hs.length∧(∀ k,k < hs.length→zcu rs (hs.getD k 0) (rows.getD k [])=true)∧∀ k,k < rs.length→(cntB rows ((k:Int)+1):Int)≤(rs.getD k []).getD 1 0:=by
 unfold zaX;simp only [Bool.and_eq_true,decide_eq_true_eq,List.all_eq_true,List.mem_range];have e0:∀ k:Nat,(0:Int)+(k:Int)+1=(k:Int)+1:=fun k=>by omega
 constructor
 ·rintro ⟨⟨h1,h2⟩,h3⟩;exact ⟨h1,h2,fun k hk=>by have:=h3 k hk;rwa [e0] at this⟩
 ·rintro ⟨h1,h2,h3⟩;exact ⟨⟨h1,h2⟩,fun k hk=>by rw [e0];exact h3 k hk⟩
theorem zcB {α:Type} {xs ys:List α} {d:α} {i:Nat} (h:xs.length≤i):(xs++ys).getD i d=ys.getD (i-xs.length) d:=by
 rw [List.getD_eq_getElem?_getD,List.getD_eq_getElem?_getD,List.getElem?_append_right h]
theorem ze4 {α:Type} {xs:List α} {d:α} {i k:Nat}:(xs.drop k).getD i d=xs.getD (k+i) d:=by
 rw [List.getD_eq_getElem?_getD,List.getD_eq_getElem?_getD,List.getElem?_drop]
theorem znH {hs:List Int} {rs rows:List (List Int)} (P:zcp hs rs rows):Ext hs rs rows↔(∀ k,k < rs.length→(cntB rows ((k:Int)+1):Int)≤(rs.getD k []).getD 1 0)∧∃ more,zaX (hs.drop rows.length) (zgD rs (za4 rs rows)) more=true:=by
 obtain ⟨pl,pp⟩:=P;constructor
 ·rintro ⟨more,h⟩;obtain ⟨h1,h2,h3⟩:=zbr.mp h;rw [List.length_append] at h1;refine ⟨fun k hk=>?_,more,zbr.mpr ⟨by rw [List.length_drop];omega,fun k hk=>?_,fun k hk=>?_⟩⟩
  ·have:=h3 k hk;rw [cnt_append] at this;omega
  ·rw [List.length_drop] at hk;have:=h2 (rows.length+k) (by omega);rw [zcB (by omega),Nat.add_sub_cancel_left] at this;rw [ze4];exact zgE.mpr this
  ·rw [zcA] at hk;have:=h3 k hk;rw [cnt_append] at this;rw [zc8 hk,zf3 hk];show (cntB more ((k:Int)+1):Int)≤(rs.getD k []).getD 1 0-(cntB rows ((k:Int)+1):Int);omega
 ·rintro ⟨h0,more,h⟩;obtain ⟨h1,h2,h3⟩:=zbr.mp h;rw [List.length_drop] at h1 h2;refine ⟨more,zbr.mpr ⟨by rw [List.length_append];omega,fun k hk=>?_,fun k hk=>?_⟩⟩
  ·by_cases e:k < rows.length
   ·rw [zaD e];exact pp k e
   ·rw [zcB (by omega)];have:=h2 (k-rows.length) (by omega);rw [ze4] at this;have e2:rows.length+(k-rows.length)=k:=by omega
    rw [e2] at this;exact zgE.mp this
  ·have:=h3 k (by rw [zcA];exact hk);rw [zc8 hk,zf3 hk] at this;have t2:(cntB more ((k:Int)+1):Int)≤(rs.getD k []).getD 1 0-(cntB rows ((k:Int)+1):Int):=this;rw [cnt_append];omega
theorem znI {hs:List Int} {rs rows:List (List Int)} (B:InB hs rs) (h0:∀ k,k < rs.length→(cntB rows ((k:Int)+1):Int)≤(rs.getD k []).getD 1 0) (n:Nat):InB (hs.drop n) (zgD rs (za4 rs rows)):=by
 have lp:=B.lp;have lr:=B.lr;refine ⟨by rw [List.length_drop];omega,by rw [zcA];exact lr,fun i hi=>?_,fun i hi=>?_,fun i hi=>?_,fun i hi=>?_⟩
 ·rw [List.length_drop] at hi;rw [ze4];exact B.hh _ (by omega)
 ·rw [zcA] at hi;rw [zc8 hi];rfl
 ·rw [zcA] at hi;rw [zc8 hi];exact B.rh i hi
 ·rw [zcA] at hi;have:=h0 i hi;have:=B.rl i hi;rw [zc8 hi,zf3 hi];show 0≤(rs.getD i []).getD 1 0-(cntB rows ((i:Int)+1):Int)∧(rs.getD i []).getD 1 0-(cntB rows ((i:Int)+1):Int)≤30;omega
theorem zh7 {row:List Int}:∀ {t full:List (List Int)},nbB t full=true→((∀ j,j < t.length→(t.getD j []).getD 0 0=(full.getD j []).getD 0 0∧(t.getD j []).getD 1 0=(full.getD j []).getD 1 0)→t.length < full.length→zlc row (full.getD t.length []))→nbB (t++[row]) full=true
 | [],[],_,_=>rfl
 | [],f::fs,_,h=>by
   have h1:=h (fun j hj=>absurd hj (by simp)) (by simp);have h2:zlc row f:=h1;show (if row.getD 0 0=f.getD 0 0 then (if row.getD 1 0=f.getD 1 0 then nbB [] fs else decide (row.getD 1 0 < f.getD 1 0)) else decide (row.getD 0 0 < f.getD 0 0))=true;unfold zlc at h2
   by_cases e:row.getD 0 0=f.getD 0 0
   ·rw [if_pos e]
    by_cases e2:row.getD 1 0=f.getD 1 0
    ·rw [if_pos e2];rfl
    ·rw [if_neg e2];exact decide_eq_true (by omega)
   ·rw [if_neg e];exact decide_eq_true (by omega)
 | t::ts,[],_,_=>rfl
 | t::ts,f::fs,hn,h=>by
   have hn':(if t.getD 0 0=f.getD 0 0 then (if t.getD 1 0=f.getD 1 0 then nbB ts fs else decide (t.getD 1 0 < f.getD 1 0)) else decide (t.getD 0 0 < f.getD 0 0))=true:=hn;show (if t.getD 0 0=f.getD 0 0 then (if t.getD 1 0=f.getD 1 0 then nbB (ts++[row]) fs else decide (t.getD 1 0 < f.getD 1 0)) else decide (t.getD 0 0 < f.getD 0 0))=true
   by_cases e:t.getD 0 0=f.getD 0 0
   ·rw [if_pos e] at hn' ⊢
    by_cases e2:t.getD 1 0=f.getD 1 0
    ·rw [if_pos e2] at hn' ⊢;refine zh7 hn' fun hj hl=>?_;refine h (fun j hj'=>?_) (by simpa using hl)
     cases j with
     | zero=>exact ⟨e,e2⟩
     | succ j=>exact hj j (by simpa using hj')
    ·rw [if_neg e2] at hn' ⊢;exact hn'
   ·rw [if_neg e] at hn' ⊢;exact hn'
theorem znJ {a b:List Int} (ha:a.length=2) (hb:b.length=2) (h0:a.getD 0 0=b.getD 0 0) (h1:a.getD 1 0=b.getD 1 0):a=b:=by
 rw [len2 ha,len2 hb,h0,h1]
end Prf
namespace L2
open PySem PySem.Spec PyProof.Rows
section
variable {σ:St} {H:Hp} {Q:VK} {K:PySem.W.Frag} {ta tb:TE} {a:Addr} {i:Int} {v:V}
def zh8 (y x:V) (H2:Hp) (Q:VK):Prop:=∃ a o,x=.ref a∧DGet H2 a y o∧Q (.bl (!o.isSome)) H2
theorem znK (h:ta σ H fun y H1=>tb σ H1 fun x H2=>zh8 y x H2 Q):zjD ta tb σ H Q:=h
theorem zj8 {kvs:List (Key×V)} (h:H a=some (.dK kvs)) (q:Q (.bl (!(valV kvs (Sum.inl i:Key)).isSome)) H):zh8 (.int i) (.ref a) H Q:=⟨a,_,rfl,DGet.k (k:=Sum.inl i) h,q⟩
def zh9 (x y:V) (H2:Hp) (Q:VK):Prop:=∃ a v,x=.ref a∧DGet H2 a y (some v)∧Q v H2
theorem znL (h:ta σ H fun x H1=>tb σ H1 fun y H2=>zh9 x y H2 Q):zm4 ta tb σ H Q:=h
theorem zj9 {kvs:List (Key×V)} (h:H a=some (.dK kvs)) (e:valV kvs (Sum.inl i:Key)=some v) (q:Q v H):zh9 (.ref a) (.int i) H Q:=⟨a,v,rfl,e▸DGet.k (k:=Sum.inl i) h,q⟩
theorem ziL {kvs:List (Key×V)} {N:Hp→Prop} (h:H a=some (.dK kvs)) (hz:kvs.length≤1000) (q:∀ H2,But a H H2→H2 a=some (.dK (putK kvs (Sum.inl i:Key) v))→N H2):zf2 v (.ref a) (.int i) H N :=
 ⟨a,_,rfl,DPut.k (k:=Sum.inl i) h (za1 hz),q _ But.upd zay⟩
end
end L2
namespace Prf
open PySem PySem.Spec PyProof.Rows L2
structure ExS where
 hs:List Int
 rs:List (List Int)
 step:Int
 dl:Option (List (List Int)×List (List Int))
def ExS.nm (s:ExS):List (List Int):=(s.dl.map (·.1)).getD []
def ExS.en (s:ExS):List (List Int):=(s.dl.map (·.2)).getD []
def zaE (en:List (List Int)) (k:Nat) (r:Int):Option Int:=((en.filter fun e=>decide (e.getD 0 0=(k:Int)+1) && decide (e.getD 1 0=r)).getLast?).map fun e=>e.getD 2 0
theorem ze5 (k:Nat) (r:Int):zaE [] k r=none:=rfl
theorem zbn (en:List (List Int)) (e:List Int) (k:Nat) (r:Int):zaE (en++[e]) k r=if e.getD 0 0=(k:Int)+1∧e.getD 1 0=r then some (e.getD 2 0) else zaE en k r:=by
 unfold zaE;rw [List.filter_append]
 by_cases h:e.getD 0 0=(k:Int)+1∧e.getD 1 0=r
 ·have:(decide (e.getD 0 0=(k:Int)+1) && decide (e.getD 1 0=r))=true:=by rw [decide_eq_true h.1,decide_eq_true h.2];rfl
  rw [if_pos h,List.filter_cons,if_pos this,List.filter_nil,List.getLast?_append];rfl
 ·have:(decide (e.getD 0 0=(k:Int)+1) && decide (e.getD 1 0=r))=false:=by
   rw [Bool.eq_false_iff];intro z;rw [Bool.and_eq_true] at z;exact h ⟨of_decide_eq_true z.1,of_decide_eq_true z.2⟩
  rw [if_neg h,List.filter_cons,this,List.filter_nil];simp
def exFs (va vb vs vd vc ve:V):List (Str×V):=[("paper_houses",va),("reader_rows",vb),("widest_step",vs),("is_dealt",vd),("named_readers",vc),("entered_points",ve)]
section
variable {va vb vs vd vc ve v:V}
theorem exFs_mk:putF "entered_points" ve (putF "named_readers" vc (putF "is_dealt" vd (putF "widest_step" vs (putF "reader_rows" vb (putF "paper_houses" va [])))))=exFs va vb vs vd vc ve:=by
 unfold exFs
 repeat (first | rw [if_neg (by decide +kernel)] | simp only [putF])
theorem exFs_a:(exFs va vb vs vd vc ve).lookup ("paper_houses" : Str)=some va:=by rw [← exFs_mk];simp only [zaH];repeat (first | rw [if_pos trivial] | rw [if_pos rfl] | rw [if_neg (by decide +kernel)])
theorem exFs_b:(exFs va vb vs vd vc ve).lookup ("reader_rows" : Str)=some vb:=by rw [← exFs_mk];simp only [zaH];repeat (first | rw [if_pos trivial] | rw [if_pos rfl] | rw [if_neg (by decide +kernel)])
theorem exFs_s:(exFs va vb vs vd vc ve).lookup ("widest_step" : Str)=some vs:=by rw [← exFs_mk];simp only [zaH];repeat (first | rw [if_pos trivial] | rw [if_pos rfl] | rw [if_neg (by decide +kernel)])
theorem exFs_d:(exFs va vb vs vd vc ve).lookup ("is_dealt" : Str)=some vd:=by rw [← exFs_mk];simp only [zaH];repeat (first | rw [if_pos trivial] | rw [if_pos rfl] | rw [if_neg (by decide +kernel)])
theorem exFs_c:(exFs va vb vs vd vc ve).lookup ("named_readers" : Str)=some vc:=by rw [← exFs_mk];simp only [zaH];repeat (first | rw [if_pos trivial] | rw [if_pos rfl] | rw [if_neg (by decide +kernel)])
theorem exFs_e:(exFs va vb vs vd vc ve).lookup ("entered_points" : Str)=some ve:=by rw [← exFs_mk];simp only [zaH];repeat (first | rw [if_pos trivial] | rw [if_pos rfl] | rw [if_neg (by decide +kernel)])
theorem exFs_ps:putF "widest_step" v (exFs va vb vs vd vc ve)=exFs va vb v vd vc ve:=by
 unfold exFs;simp only [putF];repeat (first | rw [if_pos trivial] | rw [if_pos rfl] | rw [if_neg (by decide +kernel)])
theorem exFs_pd:putF "is_dealt" v (exFs va vb vs vd vc ve)=exFs va vb vs v vc ve:=by
 unfold exFs;simp only [putF];repeat (first | rw [if_pos trivial] | rw [if_pos rfl] | rw [if_neg (by decide +kernel)])
theorem exFs_pc:putF "named_readers" v (exFs va vb vs vd vc ve)=exFs va vb vs vd v ve:=by
 unfold exFs;simp only [putF];repeat (first | rw [if_pos trivial] | rw [if_pos rfl] | rw [if_neg (by decide +kernel)])
theorem exFs_pe:putF "entered_points" v (exFs va vb vs vd vc ve)=exFs va vb vs vd vc v:=by
 unfold exFs;simp only [putF];repeat (first | rw [if_pos trivial] | rw [if_pos rfl] | rw [if_neg (by decide +kernel)])
end
def exFields:List Str:=["paper_houses","reader_rows","widest_step","is_dealt","named_readers","entered_points"]
theorem zka {va vb vs vd vc ve:V} {m:Str} (h:m∉exFields):(exFs va vb vs vd vc ve).lookup m=none:=by
 have hn:∀ f∈exFields,¬m=f:=fun f hf z=>h (z▸hf);rw [← exFs_mk];simp only [zaH];rw [if_neg (hn _ (by decide +kernel)),if_neg (hn _ (by decide +kernel)),if_neg (hn _ (by decide +kernel)),if_neg (hn _ (by decide +kernel)),if_neg (hn _ (by decide +kernel)),if_neg (hn _ (by decide +kernel))];rfl
def zcT (n:Nat) (en:List (List Int)) (k:Nat) (row:List Int):Prop:=∃ f s:Int,1≤f∧f < s∧s≤n∧(row=[f,s]∨∃ t:Int,row=[f,s,t]∧1≤t∧t≤n∧t≠f∧t≠s∧(zaE en k f).isSome=true∧(zaE en k s).isSome=true)
structure Wf (st:ExS):Prop where
 ln:st.dl.isSome=true→st.nm.length=st.hs.length
 row:∀ k,k < st.nm.length→zcT st.rs.length st.en k (st.nm.getD k [])
 pts:∀ k r p,zaE st.en k r=some p→0≤p∧p≤100
 stp:0≤st.step∧st.step≤100
structure ExAd where
 x:Addr
 dx:Addr
 a:Addr
 b:Addr
 c:Addr
 d:Addr
 ps:List Addr
 qs:List Addr
 ds:List Addr
def ExAd.own (e:ExAd):List Addr:=e.x::e.a::e.b::e.c::e.d::(e.ps++(e.qs++e.ds))
structure ExIn (C:Addr) (H:Hp) (e:ExAd) (st:ExS) (kvs:List (List (Key×V))):Prop where
 ob:H e.x=some (.ins C e.dx (exFs (.ref e.a) (.ref e.b) (.int st.step) (.bl st.dl.isSome) (.ref e.c) (.ref e.d)))
 ha:H e.a=some (.lst (st.hs.map V.int))
 hb:H e.b=some (.lst (e.ps.map V.ref))
 hc:H e.c=some (.lst (e.qs.map V.ref))
 hd:H e.d=some (.lst (e.ds.map V.ref))
 lp:e.ps.length=st.rs.length
 lq:e.qs.length=st.nm.length
 ld:e.ds.length=st.nm.length
 rp:∀ i,i < st.rs.length→H (e.ps.getD i 0)=some (.lst ((st.rs.getD i []).map V.int))
 rq:∀ i,i < st.nm.length→H (e.qs.getD i 0)=some (.lst ((st.nm.getD i []).map V.int))
 rd:∀ i,i < st.nm.length→H (e.ds.getD i 0)=some (.dK (kvs.getD i []))
 vk:∀ i,i < st.nm.length→∀ r:Int,valV (kvs.getD i []) (Sum.inl r:Key)=(zaE st.en i r).map V.int
 sk:∀ i,i < st.nm.length→(kvs.getD i []).length≤st.en.length
 lk:kvs.length=st.nm.length
 nd:e.own.Nodup
 wf:Wf st
def ExAt (C:Addr) (H:Hp) (x:Addr) (F:Addr→Prop) (st:ExS):Prop:=∃ e kvs,e.x=x∧(∀ b,F b↔b∈e.own)∧ExIn C H e st kvs
theorem zbX {ps:List Addr} {i:Nat} (h:i < ps.length):ps.getD i 0∈ps:=by
 rw [List.getD_eq_getElem?_getD,List.getElem?_eq_getElem h];exact List.getElem_mem h
section
variable {C x:Addr} {H H':Hp} {e:ExAd} {st:ExS} {kvs:List (List (Key×V))} {F:Addr→Prop}
theorem own_x:e.x∈e.own:=List.mem_cons_self
theorem own_a:e.a∈e.own:=List.mem_cons_of_mem _ List.mem_cons_self
theorem own_b:e.b∈e.own:=List.mem_cons_of_mem _ (List.mem_cons_of_mem _ List.mem_cons_self)
theorem own_c:e.c∈e.own:=List.mem_cons_of_mem _ (List.mem_cons_of_mem _ (List.mem_cons_of_mem _ List.mem_cons_self))
theorem own_d:e.d∈e.own:=List.mem_cons_of_mem _ (List.mem_cons_of_mem _ (List.mem_cons_of_mem _ (List.mem_cons_of_mem _ List.mem_cons_self)))
theorem zms {b:Addr} (h:b∈e.ps++(e.qs++e.ds)):b∈e.own:=List.mem_cons_of_mem _ (List.mem_cons_of_mem _ (List.mem_cons_of_mem _ (List.mem_cons_of_mem _ (List.mem_cons_of_mem _ h))))
theorem zle {b:Addr} (h:b∈e.ps):b∈e.own:=zms (List.mem_append_left _ h)
theorem zlf {b:Addr} (h:b∈e.qs):b∈e.own:=zms (List.mem_append_right _ (List.mem_append_left _ h))
theorem zia {b:Addr} (h:b∈e.ds):b∈e.own:=zms (List.mem_append_right _ (List.mem_append_right _ h))
theorem ExIn.keep (E:ExIn C H e st kvs) (k:∀ b o,b∈e.own→H b=some o→H' b=some o):ExIn C H' e st kvs :=
 ⟨k _ _ own_x E.ob,k _ _ own_a E.ha,k _ _ own_b E.hb,k _ _ own_c E.hc,k _ _ own_d E.hd,E.lp,E.lq,E.ld,fun i hi=>k _ _ (zle (zbX (by rw [E.lp];exact hi))) (E.rp i hi),fun i hi=>k _ _ (zlf (zbX (by rw [E.lq];exact hi))) (E.rq i hi),fun i hi=>k _ _ (zia (zbX (by rw [E.ld];exact hi))) (E.rd i hi),E.vk,E.sk,E.lk,E.nd,E.wf⟩
theorem ExIn.mem (E:ExIn C H e st kvs) {b:Addr} (h:b∈e.own):∃ o,H b=some o:=by
 unfold ExAd.own at h;simp only [List.mem_cons,List.mem_append] at h;rcases h with h | h | h | h | h | h | h | h
 ·exact ⟨_,h▸E.ob⟩
 ·exact ⟨_,h▸E.ha⟩
 ·exact ⟨_,h▸E.hb⟩
 ·exact ⟨_,h▸E.hc⟩
 ·exact ⟨_,h▸E.hd⟩
 ·obtain ⟨i,hi,ei⟩:=L2.mem_getD (d:=0) h;exact ⟨_,ei▸E.rp i (by have:=E.lp;omega)⟩
 ·obtain ⟨i,hi,ei⟩:=L2.mem_getD (d:=0) h;exact ⟨_,ei▸E.rq i (by have:=E.lq;omega)⟩
 ·obtain ⟨i,hi,ei⟩:=L2.mem_getD (d:=0) h;exact ⟨_,ei▸E.rd i (by have:=E.ld;omega)⟩
theorem ExAt.keep (E:ExAt C H x F st) (k:∀ b o,F b→H b=some o→H' b=some o):ExAt C H' x F st:=by
 obtain ⟨e,kvs,hx,hF,I⟩:=E;exact ⟨e,kvs,hx,hF,I.keep fun b o hb eb=>k b o ((hF b).mpr hb) eb⟩
theorem ExAt.mem (E:ExAt C H x F st) {b:Addr} (h:F b):∃ o,H b=some o:=by
 obtain ⟨e,kvs,hx,hF,I⟩:=E;exact I.mem ((hF b).mp h)
def exMeths:List Str:=["bring_paper","bring_reader","set_step","deal","enter","papers","readers","step","dealt","dealing","against","due","marks","left","refuse_behind_dealing","refuse_ahead_of_dealing","refuse_not_due","due_readers","points_for","mark_for","name_third","needs_third"]
theorem zfL {m:Str} (h:m∈exMeths):m∉exFields:=by
 revert m
 have:exMeths.all (fun m=>!exFields.contains m)=true:=by decide +kernel
 intro m h z;have:=List.all_eq_true.mp this m h;simp only [Bool.not_eq_true',← Bool.not_eq_true,List.contains_iff_mem] at this;exact this z
theorem ExAt.ob (E:ExAt C H x F st):∃ dx fs,H x=some (.ins C dx fs)∧∀ m∈exMeths,fs.lookup m=none:=by
 obtain ⟨e,kvs,rfl,hF,I⟩:=E;exact ⟨_,_,I.ob,fun m hm=>zka (zfL hm)⟩
end
structure ExFr (H H':Hp) (F F':Addr→Prop):Prop where
 kp:∀ b o,H b=some o→¬F b→H' b=some o
 fp:∀ b,F' b→F b∨H b=none
section
variable {C x:Addr} {H H':Hp} {e:ExAd} {st:ExS} {kvs:List (List (Key×V))} {F F':Addr→Prop}
theorem ExFr.same (s:Same H H'):ExFr H H' F F:=⟨fun b o e _=>s b o e,fun b h=>.inl h⟩
theorem ExFr.but {p:Addr} (b:But p H H') (hp:F p) (fp:∀ b,F' b→F b∨H b=none):ExFr H H' F F':=⟨fun c o e n=>by rw [b c (fun z=>n (z▸hp))];exact e,fp⟩
theorem ExAt.same (E:ExAt C H x F st) (s:Same H H'):ExAt C H' x F st:=E.keep fun b o _ e=>s b o e
theorem ExAt.new (E:ExAt C H x F st) {b:Addr} (h:H b=none):¬F b:=fun z=>by obtain ⟨o,e⟩:=E.mem z;rw [h] at e;cases e
theorem ExIn.new (E:ExIn C H e st kvs) {b:Addr} (h:H b=none):b∉e.own:=fun z=>by obtain ⟨o,e⟩:=E.mem z;rw [h] at e;cases e
end
def zlg (H:Hp) (F:Addr→Prop) (a:Addr) (ns:List Int):Prop:=H a=some (.lst (ns.map V.int))∧¬F a
theorem zlg.fr {H H':Hp} {F F':Addr→Prop} {a:Addr} {ns:List Int} (h:zlg H F a ns) (f:ExFr H H' F F'):zlg H' F' a ns:=⟨f.kp _ _ h.1 h.2,fun z=>(f.fp a z).elim h.2 fun e=>by rw [h.1] at e;cases e⟩
def zhq (H:Hp) (F:Addr→Prop) (a:Addr) (ps:List Addr) (rs:List (List Int)):Prop:=H a=some (.lst (ps.map V.ref))∧¬F a∧ps.length=rs.length∧∀ i,i < rs.length→zlg H F (ps.getD i 0) (rs.getD i [])
theorem zhq.fr {H H':Hp} {F F':Addr→Prop} {a:Addr} {ps:List Addr} {rs:List (List Int)} (h:zhq H F a ps rs) (f:ExFr H H' F F'):zhq H' F' a ps rs :=
 ⟨f.kp _ _ h.1 h.2.1,(fun z=>(f.fp a z).elim h.2.1 fun e=>(by rw [h.1] at e;cases e)),h.2.2.1,fun i hi=>(h.2.2.2 i hi).fr f⟩
theorem ExFr.nf {H0 H H':Hp} {F F':Addr→Prop} (f:ExFr H H' F F') (s:Same H0 H) (n:∀ c o,H0 c=some o→¬F c):(∀ c o,H0 c=some o→¬F' c)∧Same H0 H' :=
 ⟨fun c o e z=>(f.fp c z).elim (n c o e) fun z=>(by rw [s c o e] at z;cases z),fun c o e=>f.kp c o (s c o e) (n c o e)⟩
end Prf
namespace L2
open PySem PySem.Spec PyProof.Rows
section
variable {σ:St} {H:Hp} {Q:VK} {K:PySem.W.Frag} {js:List Nat} {te:TE} {J:It} {n k:Nat} {g:TG} {w:Nat→St} {x:Nat→V}
theorem zib (T:zco J n k js σ g w H) (hz:n≤1000) (R:Addr→Nat→V→Hp→Prop) (S:List V→V→Prop)
  (st:∀ p i v H1 H2,R p i v H1→(∀ b o,H1 b=some o→b≠p→H2 b=some o)→R p i v H2)
  (he:∀ p ys i H' Q',i < n→H p=none→Same H H'→H' p=some (.lst ys)→ys.length=i→(∀ j,j < i→R p j (ys.getD j .non) H')→(∀ v H2,Same H' H2→R p i v H2→S ys v→Q' v H2)→te (w i++capV js σ) H' Q')
  (hq:∀ p vs H2,H p=none→Same H H2→H2 p=some (.lst vs)→vs.length=n→(∀ i,i < n→R p i (vs.getD i .non) H2)→(∀ i,i < n→S (vs.take i) (vs.getD i .non))→Q (.ref p) H2):zhl J k js g tTT te σ H Q:=by
 intro p hp;refine ⟨fun i m σc H'=>m=n-i∧i≤n∧(∃ u:St,u.length=k∧σc=u++capV js σ)∧Same H H'∧∃ vs:List V,vs.length=i∧H' p=some (.lst vs)∧(∀ j,j < i→R p j (vs.getD j .non) H')∧∀ j,j < i→S (vs.take j) (vs.getD j .non),⟨n,by simp,Nat.zero_le _,⟨List.replicate k none,List.length_replicate,rfl⟩,za0 hp,[],rfl,zay,fun j hj=>absurd hj (by omega),fun j hj=>absurd hj (by omega)⟩,?_⟩;rintro i m σc H' ⟨rfl,hi,⟨u,hu,rfl⟩,s,vs,hvl,hpp,hR,hS⟩;have hsl:n < sizeLine:=za1 hz
 by_cases hlt:i < n
 ·refine .inr ⟨T.go i _ s hlt,fun σ' H'=>(∃ u:St,u.length=k∧σ'=u++capV js σ)∧Same H H'∧∃ vs:List V,vs.length=i+1∧H' p=some (.lst vs)∧(∀ j,j < i+1→R p j (vs.getD j .non) H')∧∀ j,j < i+1→S (vs.take j) (vs.getD j .non),fun σ' H' ⟨h1,h2,h3⟩=>⟨n-(i+1),by omega,rfl,hlt,h1,h2,h3⟩,fun v H2 hy=>?_⟩;refine T.yld i H' v H2 u _ s hlt hu hy fun H3 s3=>?_;refine r_tt ?_;rw [if_pos rfl];have hpp3:=s3 _ _ hpp;refine he p vs i _ _ hlt hp (s.trans s3) hpp3 hvl (fun j hj=>st p j _ _ _ (hR j hj) fun b o e _=>s3 b o e) fun v H5 s5 hv sv=>?_;refine ⟨vs,s5 _ _ hpp3,by omega,⟨w i,T.len i,rfl⟩,zeL ((s.trans s3).trans s5) hp,vs++[v],by rw [List.length_append,hvl];rfl,zay,fun j hj=>?_,fun j hj=>?_⟩
  ·by_cases hji:j < i
   ·rw [zaD (by omega)];exact st p j _ _ _ (hR j hji) fun b o e nb=>by rw [zaR nb];exact s5 _ _ (s3 _ _ e)
   ·have e0:j=vs.length:=by omega
    subst e0;rw [zaA];exact st p _ _ _ _ (hvl▸hv) fun b o e nb=>by rw [zaR nb];exact e
  ·by_cases hji:j < i
   ·rw [zaD (by omega),List.take_append_of_le_length (by omega)];exact hS j hji
   ·have e0:j=vs.length:=by omega
    subst e0;rw [zaA,List.take_append_of_le_length (Nat.le_refl _),List.take_length];exact sv
 ·have e:i=n:=by omega
  subst e;exact .inl ⟨T.stop _ s,hq p vs _ hp s hpp hvl hR hS⟩
theorem zc9 {xs:List Int} {i:Nat} (h:i < xs.length):(xs.map V.int).getD i .non=.int (xs.getD i 0):=by
 rw [List.getD_eq_getElem?_getD,List.getElem?_map,List.getElem?_eq_getElem h,List.getD_eq_getElem?_getD,List.getElem?_eq_getElem h];rfl
theorem zgF {xs ys:List Int} (h:ys.length=xs.length):(List.range xs.length).map (fun i=>[xs.getD i 0,ys.getD i 0])=(xs.zip ys).map fun p=>[p.1,p.2]:=by
 refine List.ext_getElem (by simp [h]) fun i h1 h2=>?_;have h3:i < xs.length:=by simpa using h1
 rw [List.getElem_map,List.getElem_map,List.getElem_range,List.getElem_zip,List.getD_eq_getElem?_getD,List.getElem?_eq_getElem h3,List.getD_eq_getElem?_getD,List.getElem?_eq_getElem (by omega)];rfl
theorem zb1 {f:Str} {v:V}:∀ {fs:List (Str×V)} {n:Nat},fs.length < n→(putF f v fs).length < n+1
 | [],n,h=>by show 1 < n+1;have:0 < n:=h;omega
 | (g,x)::r,n,h=>by
  show (if g=f then (g,v)::r else (g,x)::putF f v r).length < n+1;have h':r.length+1 < n:=h;split
  ·show r.length+1 < n+1;omega
  ·show (putF f v r).length+1 < n+1;have:=zb1 (f:=f) (v:=v) (fs:=r) (n:=n-1) (by omega);omega
theorem zcq {α:Type} (xs:List α) (d:α):(List.range xs.length).map (fun i=>xs.getD i d)=xs:=by
 refine List.ext_getElem (by simp) fun i h1 h2=>?_;simp at h1 ⊢;rw [List.getElem?_eq_getElem h1];rfl
theorem zlh {p b:Addr} {xs ys:List V} (h:H p=some (.lst xs)) (h':H b=some (.lst ys)) (hz:xs.length+ys.length≤1000000) (q:∀ H2,But p H H2→H2 p=some (.lst (xs++ys))→Q .non H2):rExtend (.ref p) [.ref b] H Q :=
 ⟨p,b,xs,ys,rfl,rfl,h,h',by rw [sizeLine_eq];omega,q _ But.upd zay⟩
theorem RowsAt.ext {B H H2 H3:Hp} {p p2:Addr} {rs rs2:List (List Int)} (R:RowsAt B p rs H) (R2:RowsAt H p2 rs2 H2) :
  ∃ zs zs2:List V,H2 p=some (.lst zs)∧H2 p2=some (.lst zs2)∧zs.length=rs.length∧zs2.length=rs2.length∧(But p H2 H3→H3 p=some (.lst (zs++zs2))→RowsAt B p (rs++rs2) H3):=by
 obtain ⟨sb,hp,ps,h1,h2,nd,h3⟩:=R;obtain ⟨sb2,hp2,qs,k1,k2,nd2,k3⟩:=R2;refine ⟨_,_,sb2 _ _ h1,k1,by rw [List.length_map];exact h2,by rw [List.length_map];exact k2,fun b e=>?_⟩;have ne:∀ i,i < rs2.length→qs.getD i 0≠p:=fun i hi z=>by have:=(k3 i hi).2.1;rw [z,h1] at this;cases this
 refine ⟨(sb.trans sb2).but b hp,hp,ps++qs,by rw [e,List.map_append],by rw [List.length_append,List.length_append,h2,k2],?_,fun i hi=>?_⟩
 ·refine List.nodup_append.mpr ⟨nd,nd2,fun x hx y hy z=>?_⟩;subst z;obtain ⟨i,hi,ei⟩:=L2.mem_getD (d:=0) hx;obtain ⟨j,hj,ej⟩:=L2.mem_getD (d:=0) hy;have a1:=(h3 i (by omega)).1;have a2:=(k3 j (by omega)).2.1;rw [ei] at a1;rw [ej,a1] at a2
  cases a2
 ·rw [List.length_append] at hi
  by_cases hlt:i < rs.length
  ·rw [zaD (by omega),zaD hlt];obtain ⟨a1,a2,a3⟩:=h3 i hlt;exact ⟨by rw [b _ a3];exact sb2 _ _ a1,a2,a3⟩
  ·obtain ⟨j,rfl⟩:∃ j,i=rs.length+j:=⟨i-rs.length,by omega⟩
   have e1:(ps++qs).getD (rs.length+j) 0=qs.getD j 0:=by
    rw [List.getD_eq_getElem?_getD,List.getD_eq_getElem?_getD,List.getElem?_append_right (by omega)]
    congr 2;omega
   have e2:(rs++rs2).getD (rs.length+j) []=rs2.getD j []:=by
    rw [List.getD_eq_getElem?_getD,List.getD_eq_getElem?_getD,List.getElem?_append_right (by omega)]
    congr 2;omega
   rw [e1,e2];obtain ⟨a1,a2,a3⟩:=k3 j (by omega);exact ⟨by rw [b _ (ne j (by omega))];exact a1,sb.free a2,ne j (by omega)⟩
theorem ziM (T:zco J n k js σ g w H) (hz:n≤1000) (he:te=tDNewK)
  (hq:∀ p (ds:List Addr) H2,H p=none→Same H H2→H2 p=some (.lst (ds.map V.ref))→ds.length=n→ds.Nodup→(∀ i,i < n→H2 (ds.getD i 0)=some (.dK [])∧H (ds.getD i 0)=none∧ds.getD i 0≠p)→Q (.ref p) H2):zhl J k js g tTT te σ H Q:=by
 subst he;refine zib T hz (fun p i v H2=>∃ q,v=.ref q∧H2 q=some (.dK [])∧H q=none∧q≠p) (fun ys v=>v∉ys) ?_ ?_ ?_
 ·rintro p i v H1 H2 ⟨q,rfl,h1,h2,h3⟩ k;exact ⟨q,rfl,k _ _ h1 h3,h2,h3⟩
 ·intro p ys i H' Q' hi hp s hpp hl hR q;refine zgC fun d H2 hd s2 e2=>q _ _ s2 ⟨d,rfl,e2,s.free hd,(zaj hpp hd).symm⟩ fun hm=>?_;obtain ⟨j,hj,ej⟩:=L2.mem_getD (d:=V.non) hm;obtain ⟨q',e1,e3,_⟩:=hR j (by omega);rw [ej] at e1;have:d=q':=by injection e1
  rw [← this,hd] at e3
  cases e3
 ·intro p vs H2 hp s hpp hl hR hS;have:∃ ds:List Addr,vs=ds.map V.ref:=by
   refine ⟨vs.map fun v=>match v with | .ref a=>a | _=>0,?_⟩;rw [List.map_map];refine (List.map_id _).symm.trans (List.map_congr_left fun v hv=>?_);obtain ⟨j,hj,ej⟩:=L2.mem_getD (d:=V.non) hv;obtain ⟨q',e1,_⟩:=hR j (by omega);rw [ej] at e1;subst e1;rfl
  obtain ⟨ds,rfl⟩:=this;rw [List.length_map] at hl;have ed:∀ i,i < n→(ds.map V.ref).getD i .non=.ref (ds.getD i 0):=fun i hi=>by
   rw [List.getD_eq_getElem?_getD,List.getElem?_map,List.getElem?_eq_getElem (by omega),List.getD_eq_getElem?_getD,List.getElem?_eq_getElem (by omega)];rfl
  refine hq p ds H2 hp s hpp hl ?_ fun i hi=>?_
  ·refine List.pairwise_iff_getElem.mpr fun i j hi hj hlt e=>?_;have:=hS j (by omega);rw [ed j (by omega)] at this;refine this ?_;rw [← List.map_take];refine List.mem_map.mpr ⟨ds[i],?_,?_⟩
   ·exact List.mem_iff_getElem.mpr ⟨i,by rw [List.length_take];omega,by rw [List.getElem_take]⟩
   ·rw [List.getD_eq_getElem?_getD,List.getElem?_eq_getElem hj,e];rfl
  ·obtain ⟨q',e1,e2,e3,e4⟩:=hR i hi;rw [ed i hi] at e1;have:ds.getD i 0=q':=by injection e1
   rw [this];exact ⟨e2,e3,e4⟩
end
end L2
namespace Prf
open PySem PySem.Spec PyProof.Rows L2
section
variable {C x:Addr} {H H' H1 H2 H3:Hp} {e:ExAd} {st:ExS} {kvs:List (List (Key×V))} {F F':Addr→Prop}
structure ExNd (e:ExAd):Prop where
 xa:e.x≠e.a
 xb:e.x≠e.b
 xc:e.x≠e.c
 xd:e.x≠e.d
 xp:e.x∉e.ps
 xq:e.x∉e.qs
 xs:e.x∉e.ds
 ab:e.a≠e.b
 ac:e.a≠e.c
 ad:e.a≠e.d
 ap:e.a∉e.ps
 aq:e.a∉e.qs
 as:e.a∉e.ds
 bc:e.b≠e.c
 bd:e.b≠e.d
 bp:e.b∉e.ps
 bq:e.b∉e.qs
 bs:e.b∉e.ds
 cd:e.c≠e.d
 cp:e.c∉e.ps
 cq:e.c∉e.qs
 cs:e.c∉e.ds
 dp:e.d∉e.ps
 dq:e.d∉e.qs
 ds:e.d∉e.ds
 np:e.ps.Nodup
 nq:e.qs.Nodup
 nds:e.ds.Nodup
 pq:∀ b,b∈e.ps→b∉e.qs
 pds:∀ b,b∈e.ps→b∉e.ds
 qds:∀ b,b∈e.qs→b∉e.ds
theorem nd_iff:e.own.Nodup↔ExNd e:=by
 unfold ExAd.own;simp only [List.nodup_cons,List.mem_cons,List.mem_append,List.nodup_append,not_or];constructor
 ·rintro ⟨⟨xa,xb,xc,xd,xp,xq,xs⟩,⟨ab,ac,ad,ap,aq,as⟩,⟨bc,bd,bp,bq,bs⟩,⟨cd,cp,cq,cs⟩,⟨dp,dq,ds⟩,np,⟨nq,nds,qd⟩,pqd⟩;exact ⟨xa,xb,xc,xd,xp,xq,xs,ab,ac,ad,ap,aq,as,bc,bd,bp,bq,bs,cd,cp,cq,cs,dp,dq,ds,np,nq,nds,fun b h h'=>pqd b h b (.inl h') rfl,fun b h h'=>pqd b h b (.inr h') rfl,fun b h h'=>qd b h b h' rfl⟩
 ·intro N;exact ⟨⟨N.xa,N.xb,N.xc,N.xd,N.xp,N.xq,N.xs⟩,⟨N.ab,N.ac,N.ad,N.ap,N.aq,N.as⟩,⟨N.bc,N.bd,N.bp,N.bq,N.bs⟩,⟨N.cd,N.cp,N.cq,N.cs⟩,⟨N.dp,N.dq,N.ds⟩,N.np,⟨N.nq,N.nds,fun a h b h' z=>N.qds a h (z▸h')⟩,fun a h b h' z=>h'.elim (fun h'=>N.pq a h (z▸h')) fun h'=>N.pds a h (z▸h')⟩
theorem zcT.mono {n n' k:Nat} {en en':List (List Int)} {row:List Int} (h:zcT n en k row) (hn:n≤n') (he:∀ r,(zaE en k r).isSome=true→(zaE en' k r).isSome=true):zcT n' en' k row:=by
 obtain ⟨f,s,h1,h2,h3,h4⟩:=h;refine ⟨f,s,h1,h2,by omega,?_⟩;rcases h4 with h4 | ⟨t,h4,t1,t2,t3,t4,t5,t6⟩
 ·exact .inl h4
 ·exact .inr ⟨t,h4,t1,by omega,t3,t4,he _ t5,he _ t6⟩
theorem zcT.len {n k:Nat} {en:List (List Int)} {row:List Int} (h:zcT n en k row):row.length=2∨row.length=3:=by
 obtain ⟨f,s,h1,h2,h3,h4 | ⟨t,h4,_⟩⟩:=h
 ·exact .inl (by rw [h4];rfl)
 ·exact .inr (by rw [h4];rfl)
theorem zcT.rng {n k:Nat} {en:List (List Int)} {row:List Int} (h:zcT n en k row) {r:Int} (hr:r∈row):1≤r∧r≤n:=by
 obtain ⟨f,s,h1,h2,h3,h4 | ⟨t,h4,t1,t2,_⟩⟩:=h
 ·rw [h4] at hr;simp only [List.mem_cons,List.not_mem_nil,or_false] at hr;omega
 ·rw [h4] at hr;simp only [List.mem_cons,List.not_mem_nil,or_false] at hr;omega
theorem Wf.ofStep {st:ExS} (w:Wf st) {s:Int} (h:0≤s∧s≤100):Wf { st with step:=s }:=⟨w.ln,w.row,w.pts,h⟩
theorem zmt {st:ExS} (h:st.dl=none):st.nm=[]:=by unfold ExS.nm;rw [h];rfl
theorem Wf.ofPaper {st:ExS} (w:Wf st) (hd:st.dl=none) {h:Int}:Wf { st with hs:=st.hs++[h] }:=⟨fun z=>(by rw [show ({ st with hs:=st.hs++[h] }:ExS).dl=st.dl from rfl,hd] at z;cases z),w.row,w.pts,w.stp⟩
theorem Wf.ofReader {st:ExS} (w:Wf st) {r:List Int}:Wf { st with rs:=st.rs++[r] }:=⟨w.ln,fun k hk=>(w.row k hk).mono (by show _≤(st.rs++[r]).length;rw [List.length_append];omega) fun _ z=>z,w.pts,w.stp⟩
theorem Wf.ofDeal {st:ExS} (w:Wf st) {rows:List (List Int)} (h:zaX st.hs st.rs rows=true):Wf { st with dl:=some (rows,[]) }:=by
 obtain ⟨h1,h2,h3⟩:=zbr.mp h;refine ⟨fun _=>h1,fun k hk=>?_,fun k r p z=>(by cases z),w.stp⟩;have hk':k < rows.length:=hk;have hp:=h2 k (by omega);show zcT st.rs.length [] k (rows.getD k []);unfold zcu at hp;simp only [Bool.and_eq_true,decide_eq_true_eq,List.all_eq_true] at hp;obtain ⟨⟨l2,ha⟩,hlt⟩:=hp
 match hr:rows.getD k [],l2 with
 | [f,s],_ =>
   rw [hr] at ha hlt;have hf:=ha f (by simp);have hs:=ha s (by simp);have hlt':f < s:=hlt;exact ⟨f,s,by omega,hlt',by omega,.inl rfl⟩
theorem Wf.ofEnter {st:ExS} {nm en:List (List Int)} (w:Wf st) (hdl:st.dl=some (nm,en)) {k r p:Int} (h:0≤p∧p≤100):Wf { st with dl:=some (nm,en++[[k,r,p]]) }:=by
 have enm:st.nm=nm:=by unfold ExS.nm;rw [hdl];rfl
 have een:st.en=en:=by unfold ExS.en;rw [hdl];rfl
 have hs:∀ j r',(zaE en j r').isSome=true→(zaE (en++[[k,r,p]]) j r').isSome=true:=fun j r' z=>by
  rw [zbn];split
  ·rfl
  ·exact z
 refine ⟨fun _=>by show nm.length=_;rw [← enm];exact w.ln (by rw [hdl];rfl),fun j hj=>?_,fun j r' p' z=>?_,w.stp⟩
 ·have:=w.row j (by rw [enm];exact hj);rw [enm,een] at this;exact this.mono (Nat.le_refl _) (hs j)
 ·have z':zaE (en++[[k,r,p]]) j r'=some p':=z;rw [zbn] at z';split at z'
  ·have:p=p':=Option.some.inj z';omega
  ·exact w.pts j r' p' (by rw [een];exact z')
theorem Wf.ofThird {st:ExS} {nm en:List (List Int)} (w:Wf st) (hdl:st.dl=some (nm,en)) {k:Nat} {f s t:Int} (hk:k < nm.length) (hr:nm.getD k []=[f,s]) (ht:1≤t∧t≤st.rs.length) (hn:t∉[f,s]) (hf:(zaE en k f).isSome=true) (hs:(zaE en k s).isSome=true):Wf { st with dl:=some (nm.set k (nm.getD k []++[t]),en) }:=by
 have enm:st.nm=nm:=by unfold ExS.nm;rw [hdl];rfl
 have een:st.en=en:=by unfold ExS.en;rw [hdl];rfl
 have ls:(nm.set k (nm.getD k []++[t])).length=nm.length:=List.length_set;refine ⟨fun _=>by show (nm.set k _).length=_;rw [ls,← enm];exact w.ln (by rw [hdl];rfl),fun j hj=>?_,fun j r' p' z=>w.pts j r' p' (by rw [een];exact z),w.stp⟩;have hj':j < nm.length:=by rw [← ls];exact hj
 have:=w.row j (by rw [enm];exact hj');rw [enm,een] at this;show zcT st.rs.length en j ((nm.set k (nm.getD k []++[t])).getD j []);rw [zbl hk]
 by_cases z:j=k
 ·subst z;rw [if_pos rfl,hr];rw [hr] at this;obtain ⟨f',s',h1,h2,h3,h4 | ⟨t',h4,_⟩⟩:=this
  ·injection h4 with a b;injection b with b c;subst a b;simp only [List.mem_cons,List.not_mem_nil,or_false,not_or] at hn;exact ⟨f,s,h1,h2,h3,.inr ⟨t,rfl,ht.1,ht.2,hn.1,hn.2,hf,hs⟩⟩
  ·simp at h4
 ·rw [if_neg z];exact this
theorem ExIn.N (E:ExIn C H e st kvs):ExNd e:=nd_iff.mp E.nd
theorem ExIn.at (E:ExIn C H e st kvs):ExAt C H e.x (fun b=>b∈e.own) st:=⟨e,kvs,rfl,fun _=>Iff.rfl,E⟩
theorem za9 {b p:Addr} {l:List Addr} (h:p∉l) (hb:b∈l):b≠p:=fun z=>h (z▸hb)
theorem ExIn.ip (E:ExIn C H e st kvs) {i:Nat} (hi:i < st.rs.length):e.ps.getD i 0∈e.ps:=zbX (by have:=E.lp;omega)
theorem ExIn.iq (E:ExIn C H e st kvs) {i:Nat} (hi:i < st.nm.length):e.qs.getD i 0∈e.qs:=zbX (by have:=E.lq;omega)
theorem ExIn.is (E:ExIn C H e st kvs) {i:Nat} (hi:i < st.nm.length):e.ds.getD i 0∈e.ds:=zbX (by have:=E.ld;omega)
theorem ExIn.setStep (E:ExIn C H e st kvs) {s:Int} (b:But e.x H H') (h:H' e.x=some (.ins C e.dx (putF "widest_step" (.int s) (exFs (.ref e.a) (.ref e.b) (.int st.step) (.bl st.dl.isSome) (.ref e.c) (.ref e.d))))) (wf:0≤s∧s≤100):ExIn C H' e { st with step:=s } kvs:=by
 have N:=E.N;rw [exFs_ps] at h;exact ⟨h,by rw [b _ N.xa.symm];exact E.ha,by rw [b _ N.xb.symm];exact E.hb,by rw [b _ N.xc.symm];exact E.hc,by rw [b _ N.xd.symm];exact E.hd,E.lp,E.lq,E.ld,fun i hi=>by rw [b _ (za9 N.xp (E.ip hi))];exact E.rp i hi,fun i hi=>by rw [b _ (za9 N.xq (E.iq hi))];exact E.rq i hi,fun i hi=>by rw [b _ (za9 N.xs (E.is hi))];exact E.rd i hi,E.vk,E.sk,E.lk,E.nd,E.wf.ofStep wf⟩
theorem ExIn.paper (E:ExIn C H e st kvs) (hd:st.dl=none) {h:Int} (b:But e.a H H') (h1:H' e.a=some (.lst (st.hs.map V.int++[.int h]))):ExIn C H' e { st with hs:=st.hs++[h] } kvs:=by
 have N:=E.N;exact ⟨by rw [b _ N.xa];exact E.ob,by rw [h1,List.map_append];rfl,by rw [b _ N.ab.symm];exact E.hb,by rw [b _ N.ac.symm];exact E.hc,by rw [b _ N.ad.symm];exact E.hd,E.lp,E.lq,E.ld,fun i hi=>by rw [b _ (za9 N.ap (E.ip hi))];exact E.rp i hi,fun i hi=>by rw [b _ (za9 N.aq (E.iq hi))];exact E.rq i hi,fun i hi=>by rw [b _ (za9 N.as (E.is hi))];exact E.rd i hi,E.vk,E.sk,E.lk,E.nd,E.wf.ofPaper hd⟩
theorem ExIn.reader (E:ExIn C H e st kvs) {row:List Int} {r:Addr} (hr:r∉e.own) (er:H r=some (.lst (row.map V.int))) (b:But e.b H H') (h1:H' e.b=some (.lst (e.ps.map V.ref++[.ref r]))):ExIn C H' { e with ps:=e.ps++[r] } { st with rs:=st.rs++[row] } kvs:=by
 have N:=E.N;have lp:=E.lp;have nrb:r≠e.b:=fun z=>hr (z▸own_b);refine ⟨by rw [b _ N.xb];exact E.ob,by rw [b _ N.ab];exact E.ha,by rw [h1,List.map_append];rfl,by rw [b _ N.bc.symm];exact E.hc,by rw [b _ N.bd.symm];exact E.hd,by show (e.ps++[r]).length=(st.rs++[row]).length;rw [List.length_append,List.length_append,lp];rfl,E.lq,E.ld,fun i hi=>?_,fun i hi=>by rw [b _ (za9 N.bq (E.iq hi))];exact E.rq i hi,fun i hi=>by rw [b _ (za9 N.bs (E.is hi))];exact E.rd i hi,E.vk,E.sk,E.lk,?_,E.wf.ofReader⟩
 ·have hi':i < (st.rs++[row]).length:=hi;rw [List.length_append,List.length_singleton] at hi';show H' ((e.ps++[r]).getD i 0)=some (.lst (((st.rs++[row]).getD i []).map V.int))
  by_cases z:i < st.rs.length
  ·rw [zaD (by omega),zaD z,b _ (za9 N.bp (E.ip z))];exact E.rp i z
  ·have z':i=st.rs.length:=by omega
   subst z';rw [zaA,← lp,zaA,b _ nrb];exact er
 ·refine nd_iff.mpr ⟨N.xa,N.xb,N.xc,N.xd,?_,N.xq,N.xs,N.ab,N.ac,N.ad,?_,N.aq,N.as,N.bc,N.bd,?_,N.bq,N.bs,N.cd,?_,N.cq,N.cs,?_,N.dq,N.ds,?_,N.nq,N.nds,?_,?_,N.qds⟩
  ·exact fun h=>(List.mem_append.mp h).elim N.xp fun h=>hr (List.mem_singleton.mp h▸own_x)
  ·exact fun h=>(List.mem_append.mp h).elim N.ap fun h=>hr (List.mem_singleton.mp h▸own_a)
  ·exact fun h=>(List.mem_append.mp h).elim N.bp fun h=>hr (List.mem_singleton.mp h▸own_b)
  ·exact fun h=>(List.mem_append.mp h).elim N.cp fun h=>hr (List.mem_singleton.mp h▸own_c)
  ·exact fun h=>(List.mem_append.mp h).elim N.dp fun h=>hr (List.mem_singleton.mp h▸own_d)
  ·exact List.nodup_append.mpr ⟨N.np,by simp,fun c hc d hd z=>hr (by rw [← List.mem_singleton.mp hd,← z];exact zle hc)⟩
  ·exact fun c hc=>(List.mem_append.mp hc).elim (N.pq c) fun h z=>hr (by rw [← List.mem_singleton.mp h];exact zlf z)
  ·exact fun c hc=>(List.mem_append.mp hc).elim (N.pds c) fun h z=>hr (by rw [← List.mem_singleton.mp h];exact zia z)
theorem ziN {r b:Addr} (h:b∈({ e with ps:=e.ps++[r] }:ExAd).own):b∈e.own∨b=r:=by
 unfold ExAd.own at h ⊢;simp only [List.mem_cons,List.mem_append,List.not_mem_nil,or_false] at h ⊢;rcases h with h | h | h | h | h | (h | h) | h | h <;> simp [h]
theorem zf4 (E:ExIn C H e st kvs) {b:Addr} (h:H b=none):b≠e.x∧b≠e.a∧b≠e.b∧b≠e.c∧b≠e.d∧b∉e.ps∧b∉e.qs∧b∉e.ds:=by
 have n:=E.new h;exact ⟨fun z=>n (z▸own_x),fun z=>n (z▸own_a),fun z=>n (z▸own_b),fun z=>n (z▸own_c),fun z=>n (z▸own_d),fun z=>n (zle z),fun z=>n (zlf z),fun z=>n (zia z)⟩
theorem ExIn.deal {p q:Addr} {rows:List (List Int)} {ds:List Addr} {H5:Hp} (E:ExIn C H e st kvs) (hr:zaX st.hs st.rs rows=true) (R:RowsAt H p rows H1) (k:∀ b o,H1 b=some o→b≠e.x→H5 b=some o)
  (hx:H5 e.x=some (.ins C e.dx (exFs (.ref e.a) (.ref e.b) (.int st.step) (.bl true) (.ref p) (.ref q)))) (hq:H5 q=some (.lst (ds.map V.ref))) (nq:H1 q=none) (ld:ds.length=rows.length) (nd:ds.Nodup)
  (hd:∀ i,i < rows.length→H5 (ds.getD i 0)=some (.dK [])∧H1 (ds.getD i 0)=none∧ds.getD i 0≠q) :
  ∃ e',e'.x=e.x∧ExIn C H5 e' { st with dl:=some (rows,[]) } (rows.map fun _=>[])∧∀ b∈e'.own,b∈e.own∨H b=none:=by
 obtain ⟨s,np,qs,hp,lq,ndq,hrow⟩:=R;have N:=E.N;have hf:∀ {b o},H b=some o→b≠e.x→H5 b=some o:=fun h n=>k _ _ (s _ _ h) n;have mq:∀ b∈qs,H b=none∧b≠p∧∃ o,H1 b=some o:=fun b hb=>by
  obtain ⟨i,hi,ei⟩:=L2.mem_getD (d:=0) hb;obtain ⟨h1,h2,h3⟩:=hrow i (by omega);rw [ei] at h1 h2 h3;exact ⟨h2,h3,_,h1⟩
 have md:∀ b∈ds,H1 b=none∧b≠q:=fun b hb=>by
  obtain ⟨i,hi,ei⟩:=L2.mem_getD (d:=0) hb;obtain ⟨h1,h2,h3⟩:=hd i (by omega);rw [ei] at h1 h2 h3;exact ⟨h2,h3⟩
 have nqH:H q=none:=s.free nq;have P:=zf4 E np;have Q:=zf4 E nqH;have D:=fun {b} hb=>zf4 E (s.free (md b hb).1);have M:=fun {b} hb=>zf4 E (mq b hb).1;refine ⟨{ e with c:=p,d:=q,qs:=qs,ds:=ds },rfl,⟨hx,hf E.ha N.xa.symm,hf E.hb N.xb.symm,k _ _ hp P.1,hq,E.lp,lq,ld,fun i hi=>hf (E.rp i hi) (za9 N.xp (E.ip hi)),fun i hi=>?_,fun i hi=>?_,fun i hi r=>?_,fun i hi=>?_,by show (rows.map fun _=>_).length=rows.length;rw [List.length_map],nd_iff.mpr ?_,E.wf.ofDeal hr⟩,?_⟩
 ·exact k _ _ (hrow i hi).1 (M (zbX (show i < qs.length by rw [lq];exact hi))).1
 ·have hi':i < rows.length:=hi;have e0:(rows.map fun _=>([]:List (Key×V))).getD i []=[]:=by rw [List.getD_eq_getElem?_getD,List.getElem?_map,List.getElem?_eq_getElem hi'];rfl
  rw [e0];exact (hd i hi).1
 ·have hi':i < rows.length:=hi;have e0:(rows.map fun _=>([]:List (Key×V))).getD i []=[]:=by rw [List.getD_eq_getElem?_getD,List.getElem?_map,List.getElem?_eq_getElem hi'];rfl
  rw [e0];rfl
 ·have hi':i < rows.length:=hi;have e0:(rows.map fun _=>([]:List (Key×V))).getD i []=[]:=by rw [List.getD_eq_getElem?_getD,List.getElem?_map,List.getElem?_eq_getElem hi'];rfl
  rw [e0];exact Nat.zero_le _
 ·exact ⟨N.xa,N.xb,P.1.symm,Q.1.symm,N.xp,fun h=>(M h).1 rfl,fun h=>(D h).1 rfl,N.ab,P.2.1.symm,Q.2.1.symm,N.ap,fun h=>(M h).2.1 rfl,fun h=>(D h).2.1 rfl,P.2.2.1.symm,Q.2.2.1.symm,N.bp,fun h=>(M h).2.2.1 rfl,fun h=>(D h).2.2.1 rfl,
   fun z=>(by rw [← show p=q from z,hp] at nq;cases nq),P.2.2.2.2.2.1,fun h=>(mq _ h).2.1 rfl,fun h=>(by have:=(md _ h).1;rw [hp] at this;cases this),Q.2.2.2.2.2.1,fun h=>(by obtain ⟨o,z⟩:=(mq _ h).2.2;rw [nq] at z;cases z),fun h=>(md _ h).2 rfl,N.np,ndq,nd,
   fun b h h'=>(M h').2.2.2.2.2.1 h,fun b h h'=>(D h').2.2.2.2.2.1 h,fun b h h'=>(by obtain ⟨o,z⟩:=(mq _ h).2.2;rw [(md _ h').1] at z;cases z)⟩
 ·intro b hb;unfold ExAd.own at hb;simp only [List.mem_cons,List.mem_append] at hb;rcases hb with h | h | h | h | h | h | h | h
  ·exact .inl (h▸own_x)
  ·exact .inl (h▸own_a)
  ·exact .inl (h▸own_b)
  ·exact .inr (h▸np)
  ·exact .inr (h▸nqH)
  ·exact .inl (zle h)
  ·exact .inr (mq _ h).1
  ·exact .inr (s.free (md _ h).1)
theorem zbj {α:Type} {xs:List α} {k i:Nat} {v d:α} (hk:k < xs.length):(xs.set k v).getD i d=if i=k then v else xs.getD i d:=by
 rw [List.getD_eq_getElem?_getD,List.getElem?_set]
 by_cases h:i=k
 ·subst h;rw [if_pos rfl,if_pos rfl,if_pos hk];rfl
 ·rw [if_neg (fun z=>h z.symm),if_neg h,List.getD_eq_getElem?_getD]
theorem zcC {ps:List Addr} (nd:ps.Nodup) {i j:Nat} (hi:i < ps.length) (hj:j < ps.length) (h:ps.getD i 0=ps.getD j 0):i=j:=by
 rw [List.getD_eq_getElem?_getD,List.getD_eq_getElem?_getD,List.getElem?_eq_getElem hi,List.getElem?_eq_getElem hj] at h;exact (List.getElem_inj nd).mp h
theorem ExIn.enter {nm en:List (List Int)} {k:Nat} {r pts:Int} (E:ExIn C H e st kvs) (hdl:st.dl=some (nm,en)) (hk:k < nm.length) (hpt:0≤pts∧pts≤100) (b:But (e.ds.getD k 0) H H')
  (h1:H' (e.ds.getD k 0)=some (.dK (putK (kvs.getD k []) (Sum.inl r:Key) (.int pts)))) :
  ExIn C H' e { st with dl:=some (nm,en++[[(k:Int)+1,r,pts]]) } (kvs.set k (putK (kvs.getD k []) (Sum.inl r:Key) (.int pts))):=by
 have N:=E.N;have enm:st.nm=nm:=by unfold ExS.nm;rw [hdl];rfl
 have een:st.en=en:=by unfold ExS.en;rw [hdl];rfl
 have ld:=E.ld;have lk:=E.lk;rw [enm] at ld lk;have hm:e.ds.getD k 0∈e.ds:=zbX (by omega);have ne:∀ {l},l∉e.ds→l≠e.ds.getD k 0:=fun h z=>h (z▸hm);have hs:st.dl.isSome=true:=by rw [hdl];rfl
 have ob:=E.ob;rw [hs] at ob;refine ⟨by rw [b _ (ne N.xs)];exact ob,by rw [b _ (ne N.as)];exact E.ha,by rw [b _ (ne N.bs)];exact E.hb,by rw [b _ (ne N.cs)];exact E.hc,by rw [b _ (ne N.ds)];exact E.hd,E.lp,by have:=E.lq;rw [enm] at this;exact this,ld,fun i hi=>?_,fun i hi=>?_,fun i hi=>?_,fun i hi r'=>?_,fun i hi=>?_,by rw [List.length_set];exact lk,E.nd,E.wf.ofEnter hdl hpt⟩
 ·rw [b _ (ne (N.pds _ (E.ip hi)))];exact E.rp i hi
 ·have hi':i < st.nm.length:=by rw [enm];exact hi
  have:=E.rq i hi';rw [enm] at this;rw [b _ (ne (N.qds _ (E.iq hi')))];exact this
 ·have hi':i < nm.length:=hi;rw [zbj (by omega)]
  by_cases z:i=k
  ·subst z;rw [if_pos rfl];exact h1
  ·rw [if_neg z,b _ (fun w=>z (zcC N.nds (by omega) (by omega) w))];exact E.rd i (by rw [enm];exact hi)
 ·have hi':i < nm.length:=hi;have hv:=E.vk i (by rw [enm];exact hi) r';rw [een] at hv;show valV _ _=(zaE (en++[[(k:Int)+1,r,pts]]) i r').map V.int;rw [zbj (by omega),zbn]
  by_cases z:i=k
  ·subst z;rw [if_pos rfl,zkL]
   by_cases zr:r'=r
   ·subst zr;rw [if_pos rfl,if_pos ⟨rfl,rfl⟩];rfl
   ·rw [if_neg (fun w=>zr (Sum.inl.inj w)),if_neg (fun w=>zr w.2.symm)];exact hv
  ·rw [if_neg z,if_neg (fun w=>z (by have h2:(k:Int)+1=(i:Int)+1:=w.1;omega))];exact hv
 ·have hi':i < nm.length:=hi;have hv:=E.sk i (by rw [enm];exact hi);rw [een] at hv;show _≤(en++[_]).length;rw [zbj (by omega),List.length_append,List.length_singleton]
  by_cases z:i=k
  ·subst z;rw [if_pos rfl];have:=zdy (kvs.getD i []) (Sum.inl r:Key) (.int pts);omega
  ·rw [if_neg z];omega
theorem ExIn.third {nm en:List (List Int)} {k:Nat} {t:Int} (E:ExIn C H e st kvs) (hdl:st.dl=some (nm,en)) (hk:k < nm.length) {f s:Int} (hrow:nm.getD k []=[f,s]) (ht:1≤t∧t≤st.rs.length) (hn:t∉[f,s]) (hf:(zaE en k f).isSome=true) (hs':(zaE en k s).isSome=true) (b:But (e.qs.getD k 0) H H')
  (h1:H' (e.qs.getD k 0)=some (.lst ((nm.getD k []).map V.int++[.int t]))) :
  ExIn C H' e { st with dl:=some (nm.set k (nm.getD k []++[t]),en) } kvs:=by
 have N:=E.N;have enm:st.nm=nm:=by unfold ExS.nm;rw [hdl];rfl
 have een:st.en=en:=by unfold ExS.en;rw [hdl];rfl
 have lq:=E.lq;have lk:=E.lk;rw [enm] at lq lk;have hm:e.qs.getD k 0∈e.qs:=zbX (by omega);have ne:∀ {l},l∉e.qs→l≠e.qs.getD k 0:=fun h z=>h (z▸hm);have hs:st.dl.isSome=true:=by rw [hdl];rfl
 have ob:=E.ob;rw [hs] at ob;have ls:(nm.set k (nm.getD k []++[t])).length=nm.length:=List.length_set;refine ⟨by rw [b _ (ne N.xq)];exact ob,by rw [b _ (ne N.aq)];exact E.ha,by rw [b _ (ne N.bq)];exact E.hb,by rw [b _ (ne N.cq)];exact E.hc,by rw [b _ (ne N.dq)];exact E.hd,E.lp,lq.trans ls.symm,by have:=E.ld;rw [enm] at this;exact this.trans ls.symm,fun i hi=>?_,fun i hi=>?_,fun i hi=>?_,fun i hi r'=>?_,fun i hi=>?_,lk.trans ls.symm,E.nd,E.wf.ofThird hdl hk hrow ht hn hf hs'⟩
 ·rw [b _ (ne (N.pq _ (E.ip hi)))];exact E.rp i hi
 ·have hi':i < nm.length:=by rw [← ls];exact hi
  show H' _=some (.lst (((nm.set k (nm.getD k []++[t])).getD i []).map V.int));rw [zbj hk]
  by_cases z:i=k
  ·subst z;rw [if_pos rfl,h1,List.map_append];rfl
  ·rw [if_neg z,b _ (fun w=>z (zcC N.nq (by omega) (by omega) w))];have:=E.rq i (by rw [enm];exact hi');rw [enm] at this;exact this
 ·have hi':i < nm.length:=by rw [← ls];exact hi
  rw [b _ (fun w=>N.qds _ hm (by rw [← w];exact E.is (by rw [enm];exact hi')))];exact E.rd i (by rw [enm];exact hi')
 ·have hi':i < nm.length:=by rw [← ls];exact hi
  have hv:=E.vk i (by rw [enm];exact hi') r';rw [een] at hv;exact hv
 ·have hi':i < nm.length:=by rw [← ls];exact hi
  have hv:=E.sk i (by rw [enm];exact hi');rw [een] at hv;exact hv
end
theorem Wf.n10 {st:ExS} (w:Wf st) (B:InB st.hs st.rs):st.nm.length≤10:=by
 cases h:st.dl with
 | none=>rw [zmt h];exact Nat.zero_le _
 | some d=>rw [w.ln (by rw [h];rfl)];exact B.lp
theorem ExAt.wf {C x:Addr} {H:Hp} {F:Addr→Prop} {st:ExS} (E:ExAt C H x F st):Wf st:=by
 obtain ⟨e,kvs,_,_,I⟩:=E;exact I.wf
def zbY (nm en:List (List Int)) (k:Nat):List (Option Int):=(nm.getD k []).map (zaE en k)
def zaO (nm en:List (List Int)) (k:Nat):List Int:=(nm.getD k []).filter fun r=>(zaE en k r).isNone
def dueB (nm en:List (List Int)):List (List Int):=(List.range nm.length).flatMap fun k=>(zaO nm en k).map fun r=>[(k:Int)+1,r]
def dueS (st:ExS):List (List Int):=dueB st.nm st.en
def ptsOf (nm en:List (List Int)) (k:Nat):List Int:=(nm.getD k []).map fun r=>(zaE en k r).getD 0
def zgG (st:ExS):List Int:=za4 st.rs st.nm
def MarkB (xs:List Int) (s:Int):List Int:=if xs.length=2 then zft (xs.getD 0 0) (xs.getD 1 0) s else [mid3 (xs.getD 0 0) (xs.getD 1 0) (xs.getD 2 0),1]
def zbG (nm en:List (List Int)) (step:Int) (k:Nat):Option (Int×Int×List (List Int)):=if zaO nm en k=[] then some ((MarkB (ptsOf nm en k) step).getD 0 0,(MarkB (ptsOf nm en k) step).getD 1 0,((nm.getD k []).zip (ptsOf nm en k)).map fun p=>[p.1,p.2]) else none
def zcM (st:ExS):List (Option (Int×Int×List (List Int))):=match st.dl with
 | none=>(List.range st.hs.length).map fun _=>none
 | some (nm,en)=>(List.range st.hs.length).map (zbG nm en st.step)
abbrev Mk3:=Option (Int×Int×List (List Int))
def ze6 (B:Hp) (v:V) (m:Mk3) (H:Hp):Prop:=match m with
 | none=>v=.non
 | some (t,b,rows)=>∃ (q r:Addr) (ps:List Addr),v=.ref q∧B q=none∧B r=none∧H q=some (.lst [.int t,.int b,.ref r])∧H r=some (.lst (ps.map V.ref))∧ps.length=rows.length∧∀ j,j < rows.length→B (ps.getD j 0)=none∧H (ps.getD j 0)=some (.lst ((rows.getD j []).map V.int))
structure ze7 (B:Hp) (p:Addr) (ms:List Mk3) (H:Hp):Prop where
 same:Same B H
 new:B p=none
 vals:∃ vs:List V,H p=some (.lst vs)∧vs.length=ms.length∧∀ i,i < ms.length→ze6 B (vs.getD i .non) (ms.getD i none) H
theorem zda (nm en:List (List Int)) (i:Nat) (h:i < nm.length):((List.range (i+1)).flatMap fun k=>(zaO nm en k).map fun r=>[(k:Int)+1,r])=((List.range i).flatMap fun k=>(zaO nm en k).map fun r=>[(k:Int)+1,r])++(zaO nm en i).map fun r=>[(i:Int)+1,r]:=by
 rw [List.range_succ,List.flatMap_append,List.flatMap_singleton]
theorem zhr (nm en:List (List Int)) (k:Nat):(zaO nm en k).length≤(nm.getD k []).length:=List.length_filter_le _ _
theorem zf5 (nm en:List (List Int)) (k:Nat):(ptsOf nm en k).length=(nm.getD k []).length:=by unfold ptsOf;rw [List.length_map]
theorem zcD {nm en:List (List Int)} {k:Nat} (h:zaO nm en k=[]) {r:Int} (hr:r∈nm.getD k []):∃ p,zaE en k r=some p:=by
 cases e:zaE en k r with
 | some p=>exact ⟨p,rfl⟩
 | none =>
   have:r∈zaO nm en k:=List.mem_filter.mpr ⟨hr,by rw [e];rfl⟩;rw [h] at this
   cases this
theorem Wf.ptsOf {st:ExS} (w:Wf st) {k:Nat} {p:Int} (h:p∈ptsOf st.nm st.en k):0≤p∧p≤100:=by
 unfold Prf.ptsOf at h;obtain ⟨r,hr,rfl⟩:=List.mem_map.mp h
 cases e:zaE st.en k r with
 | none=>exact ⟨by decide,by decide⟩
 | some p=>exact w.pts k r p e
def zdz (B:Hp) (p:Addr) (v:V) (m:Mk3) (H:Hp):Prop:=match m with
 | none=>v=.non
 | some (t,b,rows)=>∃ (q r:Addr) (ps:List Addr),v=.ref q∧(B q=none∧q≠p)∧(B r=none∧r≠p)∧H q=some (.lst [.int t,.int b,.ref r])∧H r=some (.lst (ps.map V.ref))∧ps.length=rows.length∧∀ j,j < rows.length→(B (ps.getD j 0)=none∧ps.getD j 0≠p)∧H (ps.getD j 0)=some (.lst ((rows.getD j []).map V.int))
theorem zdz.keep {B H1 H2:Hp} {p:Addr} {v:V} {m:Mk3} (h:zdz B p v m H1) (k:∀ b o,H1 b=some o→b≠p→H2 b=some o):zdz B p v m H2:=by
 match m,h with
 | none,h=>exact h
 | some (t,b,rows),⟨q,r,ps,h1,h2,h3,h4,h5,h6,h7⟩=>exact ⟨q,r,ps,h1,h2,h3,k _ _ h4 h2.2,k _ _ h5 h3.2,h6,fun j hj=>⟨(h7 j hj).1,k _ _ (h7 j hj).2 (h7 j hj).1.2⟩⟩
theorem zdz.is {B H1:Hp} {p:Addr} {v:V} {m:Mk3} (h:zdz B p v m H1):ze6 B v m H1:=by
 match m,h with
 | none,h=>exact h
 | some (t,b,rows),⟨q,r,ps,h1,h2,h3,h4,h5,h6,h7⟩=>exact ⟨q,r,ps,h1,h2.1,h3.1,h4,h5,h6,fun j hj=>⟨(h7 j hj).1.1,(h7 j hj).2⟩⟩
theorem ze6.new {B H0 H1:Hp} {p:Addr} {v:V} {m:Mk3} {ys:List V} (h:ze6 H0 v m H1) (s:Same B H0) (hp:H0 p=some (.lst ys)):zdz B p v m H1:=by
 match m,h with
 | none,h=>exact h
 | some (t,b,rows),⟨q,r,ps,h1,h2,h3,h4,h5,h6,h7⟩=>exact ⟨q,r,ps,h1,⟨s.free h2,(zaj hp h2).symm⟩,⟨s.free h3,(zaj hp h3).symm⟩,h4,h5,h6,fun j hj=>⟨⟨s.free (h7 j hj).1,(zaj hp (h7 j hj).1).symm⟩,(h7 j hj).2⟩⟩
end Prf
namespace L2
open PySem PySem.Spec PyProof.Rows
section
variable {X:Cx} {K:PySem.W.Frag}
def znM (K:PySem.W.Frag):List V→Hp→VK→Prop:=fun xs H Q=>∃ (a:Addr) (ns:List Int),xs=[.ref a]∧SqL K H a (ns.map V.int)∧0 < ns.length∧∀ m∈ns,(∀ x∈ns,x≤m)→Q (.int m) H
theorem ze8 (hK:X.K=K) (hc:X.calm=true):zdm X (.builtin "max") (znM K):=by
 subst hK;intro pins s σ H xs us Q I r h;obtain ⟨a,ns,rfl,hl,hz,q⟩:=h;obtain ⟨u,rfl,ru⟩:=r.one
 cases ru
 obtain ⟨its,rv,pl,_⟩:=I.list hl;have hi:=intsAre_of rv;have ha:AllInts its.toArray:=hi.allInts;obtain ⟨zs,ez⟩:=ha.items;have en:zs.toList.map (·.1)=ns:=by
  have h1:=nums_intItems zs;rw [← ez] at h1;rw [← h1];exact hi.numsOf
 have hs:0 < zs.size:=by
  have:zs.size=ns.length:=by rw [← en];simp
  omega
 refine max_intList (xs:=zs) (I.ok.hd hc) (by rw [← ez];exact pl.isList) hs fun v h' tk hv k=>?_;obtain ⟨t,rfl⟩:=intItems_at hv;obtain ⟨h1,h2⟩:=argBest_gt (numAt zs) (zs.size-1);refine ⟨.int _,H,I.kept k,⟨t,rfl⟩,q _ ?_ fun x hx=>?_⟩
 ·rw [numAt_eq,← en];exact getD_mem (by rw [List.length_map,Array.length_toList];omega)
 ·rw [← en] at hx;obtain ⟨j,hj,ej⟩:=mem_getD (d:=0) hx;rw [← ej];rw [List.length_map,Array.length_toList] at hj;rw [← numAt_eq];exact h2 j (by omega)
variable {H:Hp} {Q:VK} {a:Addr} {ns:List Int}
theorem ze9 (h:SqL K H a (ns.map V.int)) (hz:0 < ns.length) (q:∀ m∈ns,(∀ x∈ns,x≤m)→Q (.int m) H):znM K [.ref a] H Q:=⟨a,ns,rfl,h,hz,q⟩
end
end L2
namespace Prf
open PySem PySem.Spec PyProof.Rows L2
theorem zli (gs:List (Option Int)):inV .non (gs.map encO)=decide (none∈gs):=by
 unfold inV
 induction gs with
 | nil=>rfl
 | cons g gs ih =>
   rw [List.map_cons,List.any_cons,ih]
   cases g with
   | none=>simp [encO,eqV]
   | some i=>simp [encO,eqV]
theorem zlj (gs:List (Option Int)):(gs.map encO).all flatV=true:=List.all_eq_true.mpr fun v hv=>by
 obtain ⟨g,_,rfl⟩:=List.mem_map.mp hv
 cases g <;> rfl
theorem zow {K:PySem.W.Frag} {H:Hp} {Q:VK} {a:Addr} {gs:List (Option Int)} (h:SqL K H a (gs.map encO)) (q:Q (.bl (decide (none∈gs))) H):rIn K false .non (.ref a) H Q :=
 ⟨a,_,rfl,.inl h,rfl,zlj gs,by show Q (.bl (inV .non (gs.map encO))) H;rw [zli];exact q⟩
theorem zmu {gs:List (Option Int)} {k:Int} (h0:0≤k) (h1:k < gs.length):atI (gs.map encO) k=some (encO (gs.getD k.toNat none)):=by
 obtain ⟨n,rfl⟩:=Int.eq_ofNat_of_zero_le h0;have hn:n < gs.length:=by omega
 refine zfU ?_;rw [List.getElem?_map,List.getD_eq_getElem?_getD,Int.toNat_natCast,List.getElem?_eq_getElem hn];rfl
theorem zmv (g:Option Int):decide (encO g=V.non)=g.isNone:=by cases g <;> rfl
theorem zdb (nm en:List (List Int)) (k:Nat):(zbY nm en k).length=(nm.getD k []).length:=by unfold zbY;rw [List.length_map]
theorem zic {nm en:List (List Int)} {k j:Nat} (h:j < (nm.getD k []).length):(zbY nm en k).getD j none=zaE en k ((nm.getD k []).getD j 0):=by
 unfold zbY;rw [List.getD_eq_getElem?_getD,List.getElem?_map,List.getElem?_eq_getElem h];rw [List.getD_eq_getElem?_getD (l:=nm.getD k []),List.getElem?_eq_getElem h];rfl
theorem zec {nm en:List (List Int)} {k:Nat}:none∈zbY nm en k↔zaO nm en k≠[]:=by
 unfold zbY zaO;constructor
 ·intro h z;obtain ⟨r,hr,e⟩:=List.mem_map.mp h;have:r∈(nm.getD k []).filter fun r=>(zaE en k r).isNone:=List.mem_filter.mpr ⟨hr,by rw [e];rfl⟩;rw [z] at this
  cases this
 ·intro h;obtain ⟨r,hr⟩:=List.exists_mem_of_ne_nil _ h;obtain ⟨h1,h2⟩:=List.mem_filter.mp hr;exact List.mem_map.mpr ⟨r,h1,Option.isNone_iff_eq_none.mp h2⟩
theorem zgH {nm en:List (List Int)} {k:Nat} (h:zaO nm en k=[]):(zbY nm en k).map encO=(ptsOf nm en k).map V.int:=by
 unfold zbY ptsOf;rw [List.map_map,List.map_map];refine List.map_congr_left fun r hr=>?_;obtain ⟨p,hp⟩:=zcD h hr;show encO (zaE en k r)=V.int ((zaE en k r).getD 0);rw [hp];rfl
theorem zkb (nm en:List (List Int)) (k:Nat):((List.range (zbY nm en k).length).filter fun j=>((zbY nm en k).getD j none).isNone).map (fun j=>(nm.getD k []).getD j 0)=zaO nm en k:=by
 rw [zdb];unfold zaO
 conv=>rhs;rw [← zcq (nm.getD k []) 0,List.filter_map]
 congr 1
 refine List.filter_congr fun j hj=>?_;rw [zic (List.mem_range.mp hj)];rfl
theorem zcT.sorted {n k:Nat} {nm en:List (List Int)} (h:zcT n en k (nm.getD k [])):(zaO nm en k).Pairwise (·≤·):=by
 unfold zaO;obtain ⟨f,s,h1,h2,h3,h4 | ⟨t,h4,_,_,_,_,t5,t6⟩⟩:=h
 ·rw [h4];refine List.Pairwise.filter _ ?_;simp;omega
 ·rw [h4];have e1:(zaE en k f).isNone=false:=by rw [← Option.not_isSome,t5];rfl
  have e2:(zaE en k s).isNone=false:=by rw [← Option.not_isSome,t6];rfl
  rw [List.filter_cons,e1,List.filter_cons,e2];refine List.Pairwise.filter _ ?_;simp
theorem zcT.nodup {n k:Nat} {en:List (List Int)} {row:List Int} (h:zcT n en k row):row.Nodup:=by
 obtain ⟨f,s,h1,h2,h3,h4 | ⟨t,h4,_,_,t1,t2,_⟩⟩:=h
 ·rw [h4];simp;omega
 ·rw [h4];simp;exact ⟨⟨by omega,fun z=>t1 z.symm⟩,fun z=>t2 z.symm⟩
theorem zkc {xs ys:List Int} (p:xs.Perm ys) (h1:xs.Pairwise (·≤·)) (h2:ys.Pairwise (·≤·)):xs=ys:=List.Perm.eq_of_pairwise (le:=(·≤·)) (fun a b _ _=>Int.le_antisymm) h1 h2 p
theorem zmw {nm en:List (List Int)} {x:List Int} (h:x∈dueB nm en):∃ k r,k < nm.length∧r∈zaO nm en k∧x=[(k:Int)+1,r]:=by
 unfold dueB at h;obtain ⟨k,hk,h2⟩:=List.mem_flatMap.mp h;obtain ⟨r,hr,e⟩:=List.mem_map.mp h2;exact ⟨k,r,List.mem_range.mp hk,hr,e.symm⟩
theorem znN {st:ExS} (w:Wf st):(dueB st.nm st.en).length≤3 * st.nm.length:=by
 have key:∀ i,i≤st.nm.length→((List.range i).flatMap fun k=>(zaO st.nm st.en k).map fun r=>[(k:Int)+1,r]).length≤3 * i:=fun i=>by
  induction i with
  | zero=>intro _;simp
  | succ i ih =>
    intro hi;rw [zda _ _ _ (by omega),List.length_append,List.length_map];have h1:=ih (by omega);have h2:=zhr st.nm st.en i;have h3:=(w.row i (by omega)).len;omega
 exact key st.nm.length (Nat.le_refl _)
theorem _root_.L2.RowsAt.mono {B H H':Hp} {p:Addr} {rs:List (List Int)} (R:RowsAt B p rs H) (s:Same H H'):RowsAt B p rs H':=by
 obtain ⟨a,b,ps,h1,h2,h3,h4⟩:=R;exact ⟨a.trans s,b,ps,s _ _ h1,h2,h3,fun i hi=>⟨s _ _ (h4 i hi).1,(h4 i hi).2⟩⟩
structure LdA where
 a:Addr
 b:Addr
 c:Addr
 d:Addr
 ps:List Addr
 qs:List Addr
 es:List Addr
def LdA.all (l:LdA):List Addr:=l.a::l.b::l.c::l.d::(l.ps++(l.qs++l.es))
structure Led (H:Hp) (l:LdA) (hs:List Int) (rs nm en:List (List Int)):Prop where
 ha:H l.a=some (.lst (hs.map V.int))
 hb:H l.b=some (.lst (l.ps.map V.ref))
 hc:H l.c=some (.lst (l.qs.map V.ref))
 hd:H l.d=some (.lst (l.es.map V.ref))
 lp:l.ps.length=rs.length
 lq:l.qs.length=nm.length
 le:l.es.length=en.length
 rp:∀ i,i < rs.length→H (l.ps.getD i 0)=some (.lst ((rs.getD i []).map V.int))
 rq:∀ i,i < nm.length→H (l.qs.getD i 0)=some (.lst ((nm.getD i []).map V.int))
 re:∀ i,i < en.length→H (l.es.getD i 0)=some (.lst ((en.getD i []).map V.int))
 nd:l.all.Nodup
section
variable {H H':Hp} {l:LdA} {hs:List Int} {rs nm en:List (List Int)} {K:PySem.W.Frag}
theorem Led.keep (L:Led H l hs rs nm en) (k:∀ b o,b∈l.all→H b=some o→H' b=some o):Led H' l hs rs nm en:=by
 have mp:∀ {b},b∈l.ps→b∈l.all:=fun h=>by unfold LdA.all;simp [h]
 have mq:∀ {b},b∈l.qs→b∈l.all:=fun h=>by unfold LdA.all;simp [h]
 have me:∀ {b},b∈l.es→b∈l.all:=fun h=>by unfold LdA.all;simp [h]
 exact ⟨k _ _ (by unfold LdA.all;simp) L.ha,k _ _ (by unfold LdA.all;simp) L.hb,k _ _ (by unfold LdA.all;simp) L.hc,k _ _ (by unfold LdA.all;simp) L.hd,L.lp,L.lq,L.le,fun i hi=>k _ _ (mp (zbX (by rw [L.lp];exact hi))) (L.rp i hi),fun i hi=>k _ _ (mq (zbX (by rw [L.lq];exact hi))) (L.rq i hi),fun i hi=>k _ _ (me (zbX (by rw [L.le];exact hi))) (L.re i hi),L.nd⟩
theorem Led.same (L:Led H l hs rs nm en) (s:Same H H'):Led H' l hs rs nm en:=L.keep fun b o _ e=>s b o e
theorem Led.mem (L:Led H l hs rs nm en) {b:Addr} (h:b∈l.all):∃ o,H b=some o:=by
 unfold LdA.all at h;simp only [List.mem_cons,List.mem_append] at h;rcases h with h | h | h | h | h | h | h
 ·exact ⟨_,h▸L.ha⟩
 ·exact ⟨_,h▸L.hb⟩
 ·exact ⟨_,h▸L.hc⟩
 ·exact ⟨_,h▸L.hd⟩
 ·obtain ⟨i,hi,ei⟩:=L2.mem_getD (d:=0) h;exact ⟨_,ei▸L.rp i (by have:=L.lp;omega)⟩
 ·obtain ⟨i,hi,ei⟩:=L2.mem_getD (d:=0) h;exact ⟨_,ei▸L.rq i (by have:=L.lq;omega)⟩
 ·obtain ⟨i,hi,ei⟩:=L2.mem_getD (d:=0) h;exact ⟨_,ei▸L.re i (by have:=L.le;omega)⟩
theorem Led.lb (L:Led H l hs rs nm en):LL K H l.b rs:=⟨l.ps,SqL.of L.hb,L.lp,L.rp⟩
theorem Led.lc (L:Led H l hs rs nm en):LL K H l.c nm:=⟨l.qs,SqL.of L.hc,L.lq,L.rq⟩
theorem Led.ld (L:Led H l hs rs nm en):LL K H l.d en:=⟨l.es,SqL.of L.hd,L.le,L.re⟩
structure LdNd (l:LdA):Prop where
 ab:l.a≠l.b
 ac:l.a≠l.c
 ad:l.a≠l.d
 ap:l.a∉l.ps
 aq:l.a∉l.qs
 ae:l.a∉l.es
 bc:l.b≠l.c
 bd:l.b≠l.d
 bp:l.b∉l.ps
 bq:l.b∉l.qs
 be:l.b∉l.es
 cd:l.c≠l.d
 cp:l.c∉l.ps
 cq:l.c∉l.qs
 ce:l.c∉l.es
 dp:l.d∉l.ps
 dq:l.d∉l.qs
 de:l.d∉l.es
 np:l.ps.Nodup
 nq:l.qs.Nodup
 ne:l.es.Nodup
 pq:∀ b,b∈l.ps→b∉l.qs
 pe:∀ b,b∈l.ps→b∉l.es
 qe:∀ b,b∈l.qs→b∉l.es
theorem ld_iff:l.all.Nodup↔LdNd l:=by
 unfold LdA.all;simp only [List.nodup_cons,List.mem_cons,List.mem_append,List.nodup_append,not_or];constructor
 ·rintro ⟨⟨ab,ac,ad,ap,aq,ae⟩,⟨bc,bd,bp,bq,be⟩,⟨cd,cp,cq,ce⟩,⟨dp,dq,de⟩,np,⟨nq,ne,qe⟩,pqe⟩;exact ⟨ab,ac,ad,ap,aq,ae,bc,bd,bp,bq,be,cd,cp,cq,ce,dp,dq,de,np,nq,ne,fun b h h'=>pqe b h b (.inl h') rfl,fun b h h'=>pqe b h b (.inr h') rfl,fun b h h'=>qe b h b h' rfl⟩
 ·intro N;exact ⟨⟨N.ab,N.ac,N.ad,N.ap,N.aq,N.ae⟩,⟨N.bc,N.bd,N.bp,N.bq,N.be⟩,⟨N.cd,N.cp,N.cq,N.ce⟩,⟨N.dp,N.dq,N.de⟩,N.np,⟨N.nq,N.ne,fun a h b h' z=>N.qe a h (z▸h')⟩,fun a h b h' z=>h'.elim (fun h'=>N.pq a h (z▸h')) fun h'=>N.pe a h (z▸h')⟩
theorem Led.entry {o:Addr} {row:List Int} (L:Led H l hs rs nm en) (ho:o∉l.all) (eo:H o=some (.lst (row.map V.int))) (b:But l.d H H') (h1:H' l.d=some (.lst (l.es.map V.ref++[.ref o]))):Led H' { l with es:=l.es++[o] } hs rs nm (en++[row]):=by
 have N:=ld_iff.mp L.nd;have le:=L.le;have no:o≠l.d:=fun z=>ho (by rw [z];unfold LdA.all;simp);refine ⟨by rw [b _ N.ad];exact L.ha,by rw [b _ N.bd];exact L.hb,by rw [b _ N.cd];exact L.hc,by rw [h1,List.map_append];rfl,L.lp,L.lq,by show (l.es++[o]).length=_;rw [List.length_append,List.length_append,le];rfl,fun i hi=>?_,fun i hi=>?_,fun i hi=>?_,?_⟩
 ·rw [b _ (za9 N.dp (zbX (by rw [L.lp];exact hi)))];exact L.rp i hi
 ·rw [b _ (za9 N.dq (zbX (by rw [L.lq];exact hi)))];exact L.rq i hi
 ·rw [List.length_append,List.length_singleton] at hi;show H' ((l.es++[o]).getD i 0)=_
  by_cases z:i < en.length
  ·rw [zaD (by omega),zaD z,b _ (za9 N.de (zbX (by omega)))];exact L.re i z
  ·have z':i=en.length:=by omega
   subst z';rw [zaA,← le,zaA,b _ no];exact eo
 ·have ho':=ho;unfold LdA.all at ho';simp only [List.mem_cons,List.mem_append,not_or] at ho';obtain ⟨oa,ob,oc,od,op,oq,oe⟩:=ho';have ma:∀ {x},x∉l.es→o≠x→x∉l.es++[o]:=fun h1 h2 z=>(List.mem_append.mp z).elim h1 fun z=>h2 (List.mem_singleton.mp z).symm;exact ld_iff.mpr ⟨N.ab,N.ac,N.ad,N.ap,N.aq,ma N.ae oa,N.bc,N.bd,N.bp,N.bq,ma N.be ob,N.cd,N.cp,N.cq,ma N.ce oc,N.dp,N.dq,ma N.de od,N.np,N.nq,List.nodup_append.mpr ⟨N.ne,by simp,fun c hc d hd z=>oe (by rw [← List.mem_singleton.mp hd,← z];exact hc)⟩,N.pq,fun c hc=>ma (N.pe c hc) (fun z=>op (z▸hc)),fun c hc=>ma (N.qe c hc) (fun z=>oq (z▸hc))⟩
theorem Led.name {k:Nat} {row:List Int} (L:Led H l hs rs nm en) (hk:k < nm.length) (b:But (l.qs.getD k 0) H H') (h1:H' (l.qs.getD k 0)=some (.lst (row.map V.int))):Led H' l hs rs (nm.set k row) en:=by
 have N:=ld_iff.mp L.nd;have lq:=L.lq;have hm:l.qs.getD k 0∈l.qs:=zbX (by omega);have ne:∀ {x},x∉l.qs→x≠l.qs.getD k 0:=fun h z=>h (z▸hm);have ls:(nm.set k row).length=nm.length:=List.length_set;refine ⟨by rw [b _ (ne N.aq)];exact L.ha,by rw [b _ (ne N.bq)];exact L.hb,by rw [b _ (ne N.cq)];exact L.hc,by rw [b _ (ne N.dq)];exact L.hd,L.lp,lq.trans ls.symm,L.le,fun i hi=>?_,fun i hi=>?_,fun i hi=>?_,L.nd⟩
 ·rw [b _ (ne (N.pq _ (zbX (by rw [L.lp];exact hi))))];exact L.rp i hi
 ·rw [ls] at hi;rw [zbj hk]
  by_cases z:i=k
  ·subst z;rw [if_pos rfl];exact h1
  ·rw [if_neg z,b _ (fun w=>z (zcC N.nq (by omega) (by omega) w))];exact L.rq i hi
 ·rw [b _ (fun w=>N.qe _ hm (by rw [← w];exact zbX (by rw [L.le];exact hi)))];exact L.re i hi
end
theorem zlk {x y s:Int}:MarkB [x,y] s=zft x y s:=rfl
theorem ziO {x y z s:Int}:MarkB [x,y,z] s=[mid3 x y z,1]:=rfl
structure Both (C:Addr) (H0 H:Hp) (x:Addr) (F:Addr→Prop) (st:ExS) (l:LdA):Prop where
 ex:ExAt C H x F st
 inb:InB st.hs st.rs
 dl:st.dl.isSome=true
 led:Led H l st.hs st.rs st.nm st.en
 nf:∀ b∈l.all,¬F b
 same:Same H0 H
 nf0:∀ b o,H0 b=some o→¬F b
 nl0:∀ b∈l.d::l.qs,H0 b=none
 e3:∀ i,i < st.en.length→(st.en.getD i []).length=3
end Prf
namespace L2
open PySem PySem.Spec PyProof.Rows
section
variable {X:Cx} {K:PySem.W.Frag}
def rEqE (K:PySem.W.Frag):R2:=fun x y H Q=>∃ a b xs,x=.ref a∧y=.ref b∧SqL K H a xs∧SqL K H b []∧Q (.bl (decide (xs=[]))) H
def rNeE (K:PySem.W.Frag):R2:=fun x y H Q=>∃ a b xs,x=.ref a∧y=.ref b∧SqL K H a xs∧SqL K H b []∧Q (.bl (!decide (xs=[]))) H
theorem znO (hu:X.A.units < cLine):OpR X (compareOp .Eq) (rEqE X.K):=by
 intro pins s σ H x y v u Q I rx ry h;obtain ⟨a,b,xs,rfl,rfl,h1,h2,q⟩:=h
 cases rx
 cases ry
 obtain ⟨its1,r1,p1,z1⟩:=I.list h1;obtain ⟨its2,r2,p2,z2⟩:=I.list h2;have l1:=r1.length;have l2:its2.length=0:=r2.length.symm
 by_cases hl:xs=[]
 ·subst hl;have l1':its1.length=0:=l1.symm;refine SeqAt.eq_listAt (e:=fun _=>true) p1.isList p2.isList (by simp;omega) hu (fun j h1 h2=>by simp at h1;omega) ⟨.bl _,H,I,rfl,?_⟩;rw [List.size_toArray,l1'];rw [decide_eq_true rfl] at q;exact q
 ·have:xs.length≠0:=fun z=>hl (List.eq_nil_of_length_eq_zero z);refine SeqAt.eq_list_lengthsAt p1.isList p2.isList (by simp;omega) hu ⟨.bl false,H,I,rfl,?_⟩;rw [decide_eq_false hl] at q;exact q
theorem znP (hu:X.A.units < cLine):OpR X (compareOp .NotEq) (rNeE X.K):=by
 intro pins s σ H x y v u Q I rx ry h;obtain ⟨a,b,xs,rfl,rfl,h1,h2,q⟩:=h
 cases rx
 cases ry
 obtain ⟨its1,r1,p1,z1⟩:=I.list h1;obtain ⟨its2,r2,p2,z2⟩:=I.list h2;have l1:=r1.length;have l2:its2.length=0:=r2.length.symm
 by_cases hl:xs=[]
 ·subst hl;have l1':its1.length=0:=l1.symm;refine SeqAt.RcNeAt.lists (e:=fun _=>true) p1.isList p2.isList (by simp;omega) hu (fun j h1 h2=>by simp at h1;omega) _ _ _ _ ⟨.bl _,H,I,rfl,?_⟩;rw [List.size_toArray,l1'];rw [decide_eq_true rfl] at q;exact q
 ·have:xs.length≠0:=fun z=>hl (List.eq_nil_of_length_eq_zero z);refine SeqAt.RcNeAt.lists_lengths p1.isList p2.isList (by simp;omega) hu _ _ _ _ ⟨.bl true,H,I,rfl,?_⟩;rw [decide_eq_false hl] at q;exact q
def rEq2 (K:PySem.W.Frag):R2:=fun x y H Q=>zkS K x y H Q∨rEqE K x y H Q
def rNe2 (K:PySem.W.Frag):R2:=fun x y H Q=>rNeG K x y H Q∨rNeE K x y H Q
theorem zbK (h:X.K=K) (hu:X.A.units < cLine):OpR X (compareOp .Eq) (rEq2 K):=(zmf h hu).or (h▸znO hu)
theorem zcN (h:X.K=K) (hu:X.A.units < cLine):OpR X (compareOp .NotEq) (rNe2 K):=(zm8 h).or (h▸znP hu)
section
variable {H:Hp} {Q:VK} {i j:Int}
theorem znQ (q:Q (.bl (decide (i=j))) H):rEq2 K (.int i) (.int j) H Q:=.inl (zmg q)
theorem znR {a b:Bool} (q:Q (.bl (decide (a=b))) H):rEq2 K (.bl a) (.bl b) H Q:=.inl (zmh q)
theorem zlD {a b:Addr} {xs:List V} (h1:SqL K H a xs) (h2:SqL K H b []) (q:Q (.bl (decide (xs=[]))) H):rEq2 K (.ref a) (.ref b) H Q:=.inr ⟨a,b,xs,rfl,rfl,h1,h2,q⟩
theorem znS (q:Q (.bl (!decide (i=j))) H):rNe2 K (.int i) (.int j) H Q:=.inl (zlB q)
theorem znT {a b:Addr} {xs:List V} (h1:SqL K H a xs) (h2:SqL K H b []) (q:Q (.bl (!decide (xs=[]))) H):rNe2 K (.ref a) (.ref b) H Q:=.inr ⟨a,b,xs,rfl,rfl,h1,h2,q⟩
end
end
end L2
namespace Prf
open PySem PySem.Spec PyProof.Rows L2
def fitT (hs:List Int) (rs:List (List Int)) (left:List Int) (k:Int) (row:List Int) (i:Nat):Bool :=
 !decide ((rs.getD i []).getD 0 0=hs.getD (k-1).toNat 0) && decide (1≤left.getD i 0) && !decide ((i:Int)+1∈row)
def trd (fit:Nat→Bool) (n:Nat):Nat→Int
 | 0=>0
 | i+1=>if fit (n-(i+1))=true then ((n-(i+1):Nat):Int)+1 else trd fit n i
theorem zlE {fit:Nat→Bool} {n k:Nat} (h:k < n):trd fit n (n-k)=if fit k=true then (k:Int)+1 else trd fit n (n-(k+1)):=by
 have e:n-k=(n-(k+1))+1:=by omega
 rw [e];show (if fit (n-(n-(k+1)+1))=true then ((n-(n-(k+1)+1):Nat):Int)+1 else _)=_;have e2:n-(n-(k+1)+1)=k:=by omega
 rw [e2]
def zbk (hs:List Int) (rs:List (List Int)) (left:List Int) (k:Int) (row:List Int):Int:=trd (fitT hs rs left k row) rs.length rs.length
theorem zf6 {fit:Nat→Bool} {n:Nat}:∀ k,k≤n→(∀ j,j < k→fit j=false)→trd fit n n=trd fit n (n-k)
 | 0,_,_=>rfl
 | k+1,h,hb=>by
   rw [zf6 k (by omega) (fun j hj=>hb j (by omega)),zlE (by omega),hb k (by omega)];rfl
theorem zgI {fit:Nat→Bool} {n k:Nat} (hk:k < n) (h:fit k=true) (hb:∀ j,j < k→fit j=false):trd fit n n=(k:Int)+1:=by
 rw [zf6 k (by omega) hb,zlE hk,if_pos h]
theorem zid {fit:Nat→Bool} {n:Nat} (hb:∀ j,j < n→fit j=false):trd fit n n=0:=by
 rw [zf6 n (Nat.le_refl _) hb,Nat.sub_self];rfl
def zbZ (st:ExS) (k:Nat):Bool:=decide ((st.nm.getD k []).length=2) && decide (zaO st.nm st.en k=[]) && !zbF ((ptsOf st.nm st.en k).getD 0 0) ((ptsOf st.nm st.en k).getD 1 0) st.step
theorem zkd {fit:Nat→Bool} {n:Nat}:∀ i,i≤n→0 < trd fit n i→∃ j,j < n∧fit j=true∧trd fit n i=(j:Int)+1
 | 0,_,h=>absurd h (by show ¬(0:Int) < 0;decide)
 | i+1,hi,h=>by
   unfold trd at h ⊢;split
   ·rename_i hf
    exact ⟨n-(i+1),by omega,hf,rfl⟩
   ·rename_i hf
    rw [if_neg hf] at h;exact zkd i (by omega) h
theorem zed {hs:List Int} {rs:List (List Int)} {left row:List Int} {k:Int} (h:0 < zbk hs rs left k row):1≤zbk hs rs left k row∧zbk hs rs left k row≤rs.length∧zbk hs rs left k row∉row∧1≤left.getD (zbk hs rs left k row-1).toNat 0∧¬(rs.getD (zbk hs rs left k row-1).toNat []).getD 0 0=hs.getD (k-1).toNat 0:=by
 obtain ⟨j,hj,hf,e⟩:=zkd (fit:=fitT hs rs left k row) rs.length (Nat.le_refl _) h;have e':zbk hs rs left k row=(j:Int)+1:=e;rw [e'];unfold fitT at hf;simp only [Bool.and_eq_true,Bool.not_eq_true',decide_eq_false_iff_not,decide_eq_true_eq] at hf;have ej:((j:Int)+1-1).toNat=j:=by omega
 rw [ej];exact ⟨by omega,by omega,hf.2,hf.1.2,hf.1.1⟩
def zaL (st:ExS) (k:Nat):Int:=if zbZ st k=true then zbk st.hs st.rs (zgG st) ((k:Int)+1) (st.nm.getD k []) else 0
def zaK (st:ExS) (k:Nat):ExS:=if 0 < zaL st k then { st with dl:=some (st.nm.set k (st.nm.getD k []++[zaL st k]),st.en) } else st
def entS (st:ExS) (k:Nat) (r p:Int):ExS:={ st with dl:=some (st.nm,st.en++[[(k:Int)+1,r,p]]) }
theorem ExFr.trans {H H1 H2:Hp} {F F1 F2:Addr→Prop} (a:ExFr H H1 F F1) (b:ExFr H1 H2 F1 F2):ExFr H H2 F F2 :=
 ⟨fun c o e n=>b.kp c o (a.kp c o e n) (fun z=>(a.fp c z).elim n fun z=>by rw [e] at z;cases z),fun c z=>(b.fp c z).elim (a.fp c) fun z=>by
  by_cases h:F c
  ·exact .inl h
  ·right
   cases hc:H c with
   | none=>rfl
   | some o=>rw [a.kp c o hc h] at z;cases z⟩
theorem zf7 {st:ExS} {k:Nat} {r p:Int}:(entS st k r p).en=st.en++[[(k:Int)+1,r,p]]:=rfl
theorem zmx {st:ExS} (w:Wf st) (hd:st.dl.isSome=true) {k:Nat} {r p:Int} (h:0≤p∧p≤100):Wf (entS st k r p):=by
 obtain ⟨d,hdl⟩:=Option.isSome_iff_exists.mp hd;obtain ⟨nm,en⟩:=d;have enm:st.nm=nm:=by unfold ExS.nm;rw [hdl];rfl
 have een:st.en=en:=by unfold ExS.en;rw [hdl];rfl
 unfold entS;rw [enm,een];exact w.ofEnter hdl h
theorem zgJ {st:ExS} (w:Wf st) (hd:st.dl.isSome=true):zcM st=(List.range st.nm.length).map (zbG st.nm st.en st.step):=by
 have hl:=w.ln hd;obtain ⟨d,hdl⟩:=Option.isSome_iff_exists.mp hd;obtain ⟨nm,en⟩:=d;have enm:st.nm=nm:=by unfold ExS.nm;rw [hdl];rfl
 have een:st.en=en:=by unfold ExS.en;rw [hdl];rfl
 rw [hl];unfold zcM;rw [hdl,enm,een]
theorem zie {hs:List Int} {rs tt:List (List Int)} (h:zaX hs rs tt=true):tt.map (List.take 2)=tt:=by
 have RP:=zc4.mp h;refine (List.map_congr_left fun r hr=>?_).trans (List.map_id tt);obtain ⟨i,hi,e⟩:=L2.mem_getD (d:=[]) hr;have:=RP.two i (by rw [← RP.len];exact hi);rw [e] at this;show r.take 2=r;rw [List.take_of_length_le (by omega)]
def cntE (nm en:List (List Int)) (k:Nat):Nat:=((nm.getD k []).filter fun r=>(zaE en k r).isSome).length
def sumE (nm en:List (List Int)):Nat→Nat
 | 0=>0
 | k+1=>sumE nm en k+cntE nm en k
theorem zgK (nm en:List (List Int)) (k:Nat):cntE nm en k+(zaO nm en k).length=(nm.getD k []).length:=by
 unfold cntE zaO
 induction nm.getD k [] with
 | nil=>rfl
 | cons r rs ih =>
   rw [List.filter_cons,List.filter_cons,List.length_cons]
   cases zaE en k r with
   | none=>simp at ih ⊢;omega
   | some p=>simp at ih ⊢;omega
theorem zee {nm nm' en en':List (List Int)}:∀ n,(∀ k,k < n→cntE nm' en' k=cntE nm en k)→sumE nm' en' n=sumE nm en n
 | 0,_=>rfl
 | n+1,h=>by
   show sumE nm' en' n+cntE nm' en' n=sumE nm en n+cntE nm en n;rw [zee n (fun k hk=>h k (by omega)),h n (by omega)]
theorem zif {nm nm' en en':List (List Int)} {k:Nat}:∀ n,k < n→(∀ j,j < n→j≠k→cntE nm' en' j=cntE nm en j)→cntE nm' en' k=cntE nm en k+1→sumE nm' en' n=sumE nm en n+1
 | 0,h,_,_=>absurd h (by omega)
 | n+1,h,ho,hk=>by
   show sumE nm' en' n+cntE nm' en' n=sumE nm en n+cntE nm en n+1
   by_cases e:k=n
   ·subst e;rw [zee k (fun j hj=>ho j (by omega) (by omega)),hk];omega
   ·rw [zif n (by omega) (fun j hj=>ho j (by omega)) hk,ho n (by omega) (fun z=>e z.symm)];omega
theorem zdT {en:List (List Int)} {k j:Nat} {r p r':Int} (h:j≠k∨r'≠r):zaE (en++[[(k:Int)+1,r,p]]) j r'=zaE en j r':=by
 rw [zbn,if_neg];rintro ⟨z1,z2⟩;have z1':(k:Int)+1=(j:Int)+1:=z1;have z2':r=r':=z2;rcases h with h | h
 ·exact h (by omega)
 ·exact h z2'.symm
theorem zll {en:List (List Int)} {k:Nat} {r p:Int}:zaE (en++[[(k:Int)+1,r,p]]) k r=some p:=by
 rw [zbn,if_pos ⟨rfl,rfl⟩];rfl
theorem znU {row:List Int} {c c':Int→Bool} {r:Int} (nd:row.Nodup) (hr:r∈row) (h0:c r=false) (h1:c' r=true) (ho:∀ x,x≠r→c' x=c x):(row.filter c').length=(row.filter c).length+1:=by
 induction row with
 | nil=>cases hr
 | cons x xs ih =>
   rw [List.filter_cons,List.filter_cons];rw [List.nodup_cons] at nd
   by_cases e:x=r
   ·subst e;rw [if_pos h1,if_neg (by rw [h0];decide)];have:xs.filter c'=xs.filter c:=List.filter_congr fun y hy=>ho y (fun z=>nd.1 (z▸hy));rw [this];rfl
   ·have hr':r∈xs:=by
     rcases List.mem_cons.mp hr with z | z
     ·exact absurd z.symm e
     ·exact z
    rw [ho x e];have:=ih nd.2 hr';split
    ·rw [List.length_cons,List.length_cons,this]
    ·exact this
def Nam (st:ExS):Prop:=∀ k r,(zaE st.en k r).isSome=true→r∈st.nm.getD k []
theorem zke {st:ExS} (W:Wf st) (N:Nam st) {k:Nat} {r p:Int} (hk:k < st.nm.length) (hr:r∈zaO st.nm st.en k):sumE (zaK (entS st k r p) k).nm (st.en++[[(k:Int)+1,r,p]]) st.nm.length=sumE st.nm st.en st.nm.length+1:=by
 obtain ⟨hr1,hr2⟩:=List.mem_filter.mp hr;have hrn:(zaE st.en k r).isSome=false:=by cases h:zaE st.en k r <;> simp_all
 have key:cntE st.nm (st.en++[[(k:Int)+1,r,p]]) k=cntE st.nm st.en k+1:=by
  unfold cntE;exact znU (W.row k hk).nodup hr1 hrn (by rw [zll];rfl) (fun x hx=>by rw [zdT (.inr hx)])
 have oth:∀ j,j < st.nm.length→j≠k→cntE st.nm (st.en++[[(k:Int)+1,r,p]]) j=cntE st.nm st.en j:=fun j _ hj=>by
  unfold cntE
  congr 1
  exact List.filter_congr fun x _=>by rw [zdT (.inl hj)]
 have base:=zif (nm:=st.nm) (nm':=st.nm) (en:=st.en) (en':=st.en++[[(k:Int)+1,r,p]]) st.nm.length hk oth key;rw [← base];refine zee _ fun j hj=>?_;unfold zaK;split
 ·rename_i h0
  show cntE (st.nm.set k (st.nm.getD k []++[zaL (entS st k r p) k])) _ j=_;unfold cntE;rw [zbj hk]
  by_cases e:j=k
  ·subst e;rw [if_pos rfl,List.filter_append,List.length_append];have hneed:zbZ (entS st j r p) j=true:=by
    unfold zaL at h0
    cases hn:zbZ (entS st j r p) j with
    | true=>rfl
    | false=>rw [hn,if_neg (by decide)] at h0;exact absurd h0 (by decide)
   have ht:zaL (entS st j r p) j=zbk st.hs st.rs (za4 st.rs st.nm) ((j:Int)+1) (st.nm.getD j []):=by unfold zaL;rw [hneed];rfl
   have h0':0 < zbk st.hs st.rs (za4 st.rs st.nm) ((j:Int)+1) (st.nm.getD j []):=by rw [← ht];exact h0
   have sp:=zed h0';rw [← ht] at sp;have hno:zaE (st.en++[[(j:Int)+1,r,p]]) j (zaL (entS st j r p) j)=none:=by
    rw [zdT (.inr (fun z=>sp.2.2.1 (by rw [z];exact hr1)))]
    cases hh:zaE st.en j (zaL (entS st j r p) j) with
    | none=>rfl
    | some q=>exact absurd (N j _ (by rw [hh];rfl)) sp.2.2.1
   have:([zaL (entS st j r p) j].filter fun r'=>(zaE (st.en++[[(j:Int)+1,r,p]]) j r').isSome)=[]:=by
    rw [List.filter_cons,hno];rfl
   rw [this];rfl
  ·rw [if_neg e]
 ·rfl
theorem zig {st:ExS} {k:Nat}:(zaK st k).en=st.en:=by
 unfold zaK;split
 ·rfl
 ·rfl
theorem zgL {st:ExS} {k:Nat}:(zaK st k).nm.length=st.nm.length:=by
 unfold zaK;split
 ·show (st.nm.set k _).length=_;rw [List.length_set]
 ·rfl
theorem zlm {st:ExS} {k:Nat}:(zaK st k).hs=st.hs:=by unfold zaK;split <;> rfl
theorem zln {st:ExS} {k:Nat}:(zaK st k).rs=st.rs:=by unfold zaK;split <;> rfl
theorem ziP {st:ExS} {k:Nat}:(zaK st k).step=st.step:=by unfold zaK;split <;> rfl
theorem zlo {st:ExS} {k:Nat} (h:st.dl.isSome=true):(zaK st k).dl.isSome=true:=by unfold zaK;split;rfl;exact h
theorem zkf {st:ExS} {k j:Nat} (hk:k < st.nm.length):(zaK st k).nm.getD j []=if j=k∧0 < zaL st k then st.nm.getD k []++[zaL st k] else st.nm.getD j []:=by
 unfold zaK;split
 ·rename_i h0
  show (st.nm.set k _).getD j []=_;rw [zbj hk]
  by_cases e:j=k
  ·rw [if_pos e,if_pos ⟨e,h0⟩]
  ·rw [if_neg e,if_neg (fun z=>e z.1)]
 ·rename_i h0
  rw [if_neg (fun z=>h0 z.2)]
structure Run (st:ExS) (i:Nat):Prop where
 nam:Nam st
 sum:sumE st.nm st.en st.nm.length=st.en.length
 len:st.en.length=i
 e3:∀ j,j < st.en.length→(st.en.getD j []).length=3
theorem Run.new {hs:List Int} {rs tt:List (List Int)} {stp:Int}:Run ⟨hs,rs,stp,some (tt,[])⟩ 0:=by
 refine ⟨fun k r h=>(by cases h),?_,rfl,fun j hj=>absurd hj (by simp [ExS.en])⟩;show sumE tt [] tt.length=0;have:∀ n,sumE tt [] n=0:=fun n=>by
  induction n with
  | zero=>rfl
  | succ n ih =>
    show sumE tt [] n+cntE tt [] n=0;rw [ih];unfold cntE;rw [List.filter_eq_nil_iff.mpr (fun r _=>by simp [ze5])];rfl
 exact this _
theorem Run.enter {st:ExS} {i k:Nat} {r p:Int} (R:Run st i) (W:Wf st) (hk:k < st.nm.length) (hr:r∈zaO st.nm st.en k):Run (zaK (entS st k r p) k) (i+1):=by
 obtain ⟨hr1,_⟩:=List.mem_filter.mp hr;have een:(zaK (entS st k r p) k).en=st.en++[[(k:Int)+1,r,p]]:=by rw [zig];rfl
 refine ⟨fun j r' h=>?_,?_,?_,?_⟩
 ·rw [zkf (st:=entS st k r p) hk];rw [een] at h;have key:r'∈st.nm.getD j []:=by
   by_cases e:j=k∧r'=r
   ·obtain ⟨rfl,rfl⟩:=e;exact hr1
   ·rw [zdT (by
     by_cases e1:j=k
     ·exact .inr fun z=>e ⟨e1,z⟩
     ·exact .inl e1)] at h
    exact R.nam j r' h
  split
  ·rename_i h2
   rw [h2.1] at key;exact List.mem_append_left _ key
  ·exact key
 ·rw [een,zgL];show sumE _ _ st.nm.length=_;rw [zke W R.nam hk hr,R.sum,List.length_append];rfl
 ·rw [een,List.length_append,R.len];rfl
 ·rw [een];intro j hj;rw [List.length_append,List.length_singleton] at hj
  by_cases e:j < st.en.length
  ·rw [zaD e];exact R.e3 j e
  ·have:j=st.en.length:=by omega
   subst this;rw [zaA];rfl
theorem zlF {st:ExS} (W:Wf st):∀ n,n≤st.nm.length→sumE st.nm st.en n≤3 * n
 | 0,_=>Nat.le_refl _
 | n+1,h=>by
   show sumE st.nm st.en n+cntE st.nm st.en n≤_;have h1:=zlF W n (by omega);have h2:=zgK st.nm st.en n;have h3:=(W.row n (by omega)).len;omega
theorem zih {st:ExS} (W:Wf st):∀ n,n≤st.nm.length→3 * n≤sumE st.nm st.en n→∀ k,k < n→zaO st.nm st.en k=[]
 | 0,_,_,k,hk=>absurd hk (by omega)
 | n+1,h,hs,k,hk=>by
   have hs':3 * (n+1)≤sumE st.nm st.en n+cntE st.nm st.en n:=hs;have h1:=zlF W n (by omega);have h2:=zgK st.nm st.en n;have h3:=(W.row n (by omega)).len
   by_cases e:k=n
   ·subst e;exact List.eq_nil_of_length_eq_zero (by omega)
   ·exact zih W n (by omega) (by omega) k (by omega)
theorem zkg {nm en:List (List Int)}:dueB nm en=[]↔∀ k,k < nm.length→zaO nm en k=[]:=by
 unfold dueB;rw [List.flatMap_eq_nil_iff];constructor
 ·intro h k hk;exact List.map_eq_nil_iff.mp (h k (List.mem_range.mpr hk))
 ·intro h k hk;rw [h k (List.mem_range.mp hk)];rfl
theorem Run.done {st:ExS} {i:Nat} (R:Run st i) (W:Wf st) (hn:3 * st.nm.length≤i):dueB st.nm st.en=[]:=by
 refine zkg.mpr (zih W _ (Nat.le_refl _) ?_);rw [R.sum,R.len];exact hn
theorem zgM {α:Type} {xs:List α} {i:Nat} {d:α} (h:i < xs.length):xs.take (i+1)=xs.take i++[xs.getD i d]:=by rw [List.take_add_one,List.getElem?_eq_getElem h,List.getD_eq_getElem?_getD,List.getElem?_eq_getElem h];rfl
end Prf
namespace L2
open PySem PySem.Spec PyProof.Rows
section
variable {X:Cx} {K:PySem.W.Frag}
def rInN (K:PySem.W.Frag) (neg:Bool):R2:=fun x y H Q=>x=.non∧∃ p vs,y=.ref p∧SqL K H p vs∧(∀ v∈vs,∃ q ys,v=.ref q∧SqL K H q ys)∧Q (.bl neg) H
def rInR (K:PySem.W.Frag) (neg:Bool):R2:=fun x y H Q=>∃ (a p:Addr) (xs:List Int) (rows:List (List Int)),x=.ref a∧y=.ref p∧H a=some (.lst (xs.map V.int))∧LL K H p rows∧Q (.bl (if neg then !decide (xs∈rows) else decide (xs∈rows))) H
theorem zlG {pins:List (Addr×Obj)} {σ:St} {H:Hp} {s:Shared} {vs:List V} {its:List Value} (hu:X.A.units+1 < cLine) (I:Inv X pins σ H s) (r:Vals vs its) (h:∀ v∈vs,∃ q ys,v=.ref q∧SqL X.K H q ys):∀ y∈its.toArray,SeqAt.EqAt X.A.in1 s y .none false:=fun y hy=>by
 have hy':y∈its:=by simpa using hy
 obtain ⟨i,hi,e⟩:=List.getElem_of_mem hy';have hl:=r.length;obtain ⟨u,hu1,hu2⟩:=r.get (i:=i) (x:=vs[i]'(by omega)) (List.getElem?_eq_getElem (by omega));rw [List.getElem?_eq_getElem hi] at hu1;have e2:u=y:=by rw [← e];exact (Option.some.inj hu1).symm
 subst e2;obtain ⟨q,ys,hq,hs⟩:=h _ (List.getElem_mem (show i < vs.length by omega));rw [hq] at hu2
 cases hu2
 obtain ⟨_,_,pl,_⟩:=I.list hs;exact SeqAt.EqAt.list_none pl.isList hu
theorem znV (hu:X.A.units+1 < cLine):OpR X (compareOp .In) (rInN X.K false):=by
 intro pins s σ H x y v u Q I rx ry h;obtain ⟨rfl,p,vs,rfl,hq,hv,q⟩:=h
 cases rx
 cases ry
 obtain ⟨its,r,pl,hz⟩:=I.list hq;refine SeqAt.in_listAt (fun _=>false) pl.isList (zlG hu I r hv) ⟨.bl _,H,I,rfl,?_⟩;rw [show its.toArray.any (fun _=>false)=false by simp];exact q
theorem zkh (hu:X.A.units+1 < cLine):OpR X (compareOp .NotIn) (rInN X.K true):=by
 intro pins s σ H x y v u Q I rx ry h;obtain ⟨rfl,p,vs,rfl,hq,hv,q⟩:=h
 cases rx
 cases ry
 obtain ⟨its,r,pl,hz⟩:=I.list hq;refine SeqAt.notIn_listAt (fun _=>false) pl.isList (zlG hu I r hv) ⟨.bl _,H,I,rfl,?_⟩;rw [show its.toArray.any (fun _=>false)=false by simp];exact q
def rowE (H:Hp) (xs:List Int):Value→Bool
 | .ref q=>match H q with
   | some (.lst vs)=>decide (vs=xs.map V.int)
   | _=>false
 | _=>false
theorem map_int_inj:∀ {xs ys:List Int},xs.map V.int=ys.map V.int→xs=ys
 | [],[],_=>rfl
 | [],_::_,h=>by simp at h
 | _::_,[],h=>by simp at h
 | x::xs,y::ys,h=>by
   rw [List.map_cons,List.map_cons] at h;injection h with h1 h2;injection h1 with h1;rw [h1,map_int_inj h2]
theorem zox {pins:List (Addr×Obj)} {σ:St} {H:Hp} {s:Shared} {a q:Addr} {xs ys:List Int} {A:Around} (hu:A.units < cLine) (I:Inv X pins σ H s) (ha:H a=some (.lst (xs.map V.int))) (hq:H q=some (.lst (ys.map V.int))):SeqAt.EqAt A s (.ref q) (.ref a) (decide (ys=xs)):=by
 by_cases e:q=a
 ·subst e;rw [ha] at hq;have:=map_int_inj (HO.lst.inj (Option.some.inj hq));rw [decide_eq_true this.symm];exact SeqAt.EqAt.same _
 ·obtain ⟨its1,r1,p1,z1⟩:=I.list (SqL.of (K:=X.K) hq);obtain ⟨its2,r2,p2,z2⟩:=I.list (SqL.of (K:=X.K) ha);have l1:=r1.length;have l2:=r2.length;rw [List.length_map] at l1 l2;refine SeqAt.EqAt.of_refs e ?_
  by_cases hl:ys.length=xs.length
  ·have key:=SeqAt.RcAt.lists (A:=A) (e:=fun j=>eqV ((ys.map V.int).getD j .non) ((xs.map V.int).getD j .non)) p1.isList p2.isList (by simp;omega) hu (fun j h1 h2=>?_)
   ·have e1:its1.toArray.size=(ys.map V.int).length:=by simp;omega
    rw [e1,eqVs_all (by simp;omega),eqVs_ints] at key;exact key
   ·simp only [List.size_toArray] at h1 h2;have e1:(ys.map V.int)[j]? = some ((ys.map V.int).getD j .non):=by rw [List.getD_eq_getElem?_getD,List.getElem?_eq_getElem (by simp;omega)];rfl
    have e2:(xs.map V.int)[j]? = some ((xs.map V.int).getD j .non):=by rw [List.getD_eq_getElem?_getD,List.getElem?_eq_getElem (by simp;omega)];rfl
    obtain ⟨u1,a1,b1⟩:=r1.get e1;obtain ⟨u2,a2,b2⟩:=r2.get e2;have c1:its1.toArray[j]=u1:=by simpa [List.getElem?_eq_getElem h1] using a1
    have c2:its2.toArray[j]=u2:=by simpa [List.getElem?_eq_getElem h2] using a2
    rw [c1,c2];have fl:∀ zs:List Int,(zs.map V.int).all flatV=true:=fun zs=>by simp [flatV]
    exact zju b1 b2 (List.all_eq_true.mp (fl _) _ (List.mem_of_getElem? e1)) (List.all_eq_true.mp (fl _) _ (List.mem_of_getElem? e2))
  ·rw [decide_eq_false (fun z=>hl (by rw [z]))];exact SeqAt.RcAt.lists_lengths p1.isList p2.isList (by simp;omega) hu
theorem zfM {pins:List (Addr×Obj)} {σ:St} {H:Hp} {s:Shared} {a:Addr} {xs:List Int} {rows:List (List Int)} {ps:List Addr} {its:List Value} (hu:X.A.units+1 < cLine) (I:Inv X pins σ H s) (ha:H a=some (.lst (xs.map V.int))) (r:Vals (ps.map V.ref) its) (hl:ps.length=rows.length)
  (hr:∀ i,i < rows.length→H (ps.getD i 0)=some (.lst ((rows.getD i []).map V.int))):(∀ y∈its.toArray,SeqAt.EqAt X.A.in1 s y (.ref a) (rowE H xs y))∧its.toArray.any (rowE H xs)=decide (xs∈rows):=by
 have hlen:=r.length;rw [List.length_map] at hlen;have at_:∀ i (hi:i < its.length),its[i]=.ref (ps.getD i 0):=fun i hi=>by
  obtain ⟨u,hu1,hu2⟩:=r.get (i:=i) (x:=.ref (ps.getD i 0)) (by rw [List.getElem?_map,List.getElem?_eq_getElem (by omega),List.getD_eq_getElem?_getD,List.getElem?_eq_getElem (by omega)];rfl);rw [List.getElem?_eq_getElem hi] at hu1
  cases hu2
  exact Option.some.inj hu1
 have ev:∀ i,i < rows.length→rowE H xs (.ref (ps.getD i 0))=decide (rows.getD i []=xs):=fun i hi=>by
  unfold rowE;simp only [hr i hi];rw [decide_eq_decide];exact ⟨map_int_inj,fun z=>by rw [z]⟩
 refine ⟨fun y hy=>?_,?_⟩
 ·obtain ⟨i,hi,e⟩:=List.getElem_of_mem (show y∈its by simpa using hy);rw [← e,at_ i hi,ev i (by omega)];exact zox (A:=X.A.in1) hu I ha (hr i (by omega))
 ·rw [show its.toArray.any (rowE H xs)=its.any (rowE H xs) by simp,Bool.eq_iff_iff,List.any_eq_true,decide_eq_true_eq];constructor
  ·rintro ⟨y,hy,e⟩;obtain ⟨i,hi,e'⟩:=List.getElem_of_mem hy;rw [← e',at_ i hi,ev i (by omega)] at e;rw [← of_decide_eq_true e];rw [List.getD_eq_getElem?_getD,List.getElem?_eq_getElem (show i < rows.length by omega)];exact List.getElem_mem _
  ·intro h;obtain ⟨i,hi,e⟩:=L2.mem_getD (d:=[]) h;refine ⟨its[i]'(by omega),List.getElem_mem _,?_⟩;rw [at_ i (by omega),ev i hi,decide_eq_true e]
theorem znW (hu:X.A.units+1 < cLine):OpR X (compareOp .In) (rInR X.K false):=by
 intro pins s σ H x y v u Q I rx ry h;obtain ⟨a,p,xs,rows,rfl,rfl,ha,⟨ps,hp,hl,hr⟩,q⟩:=h
 cases rx
 cases ry
 obtain ⟨its,r,pl,hz⟩:=I.list hp;obtain ⟨h1,h2⟩:=zfM hu I ha r hl hr;refine SeqAt.in_listAt (rowE H xs) pl.isList h1 ⟨.bl _,H,I,rfl,?_⟩;rw [h2];exact q
theorem zki (hu:X.A.units+1 < cLine):OpR X (compareOp .NotIn) (rInR X.K true):=by
 intro pins s σ H x y v u Q I rx ry h;obtain ⟨a,p,xs,rows,rfl,rfl,ha,⟨ps,hp,hl,hr⟩,q⟩:=h
 cases rx
 cases ry
 obtain ⟨its,r,pl,hz⟩:=I.list hp;obtain ⟨h1,h2⟩:=zfM hu I ha r hl hr;refine SeqAt.notIn_listAt (rowE H xs) pl.isList h1 ⟨.bl _,H,I,rfl,?_⟩;rw [h2];exact q
def rIn2 (K:PySem.W.Frag) (neg:Bool):R2:=fun x y H Q=>rIn K neg x y H Q∨(rInN K neg x y H Q∨rInR K neg x y H Q)
theorem zes (h:X.K=K) (hu:X.A.units+1 < cLine):OpR X (compareOp .In) (rIn2 K false):=(zm7 h).or ((h▸znV hu).or (h▸znW hu))
theorem zdU (h:X.K=K) (hu:X.A.units+1 < cLine):OpR X (compareOp .NotIn) (rIn2 K true):=(zjG h).or ((h▸zkh hu).or (h▸zki hu))
end
section
variable {H:Hp} {K:PySem.W.Frag} {Q:VK} {i:Int} {a p:Addr}
theorem zmy {nx bk ct:St→Hp→Prop} {rt:VK} {σ:St} (h:bk σ H):tBreak ⟨nx,rt,bk,ct⟩ σ H:=h
theorem znX {xs:List Int} (h:SqL K H a (xs.map V.int)) (q:Q (.bl (decide (i∈xs))) H):rIn2 K false (.int i) (.ref a) H Q:=.inl (zor h q)
theorem zkj {xs:List Int} (h:SqL K H a (xs.map V.int)) (q:Q (.bl (!decide (i∈xs))) H):rIn2 K true (.int i) (.ref a) H Q:=.inl (zkT h q)
theorem zlH {gs:List (Option Int)} (h:SqL K H a (gs.map Prf.encO)) (q:Q (.bl (decide (none∈gs))) H):rIn2 K false .non (.ref a) H Q:=.inl (Prf.zow h q)
theorem zkk {xs:List Int} {rows:List (List Int)} (ha:H a=some (.lst (xs.map V.int))) (h:LL K H p rows) (q:Q (.bl (!decide (xs∈rows))) H):rIn2 K true (.ref a) (.ref p) H Q:=.inr (.inr ⟨a,p,xs,rows,rfl,rfl,ha,h,q⟩)
end
end L2
namespace Prf
open PySem PySem.Spec PyProof.Rows L2
theorem zmz {l:LdA}:(l.a∈l.all∧l.b∈l.all∧l.c∈l.all∧l.d∈l.all)∧(∀ y∈l.ps,y∈l.all)∧(∀ y∈l.qs,y∈l.all)∧∀ y∈l.es,y∈l.all:=by
 unfold LdA.all;refine ⟨⟨by simp,by simp,by simp,by simp⟩,fun y h=>by simp [h],fun y h=>by simp [h],fun y h=>by simp [h]⟩
theorem Both.mk0 {C:Addr} {H0 H:Hp} {x a b c d:Addr} {F:Addr→Prop} {hs:List Int} {rs nm:List (List Int)} {stp:Int} {ps qs:List Addr} (E:ExAt C H x F ⟨hs,rs,stp,some (nm,[])⟩) (B:InB hs rs) (s:Same H0 H) (nf0:∀ b o,H0 b=some o→¬F b)
  (ha:H0 a=some (.lst (hs.map V.int))) (hb:H0 b=some (.lst (ps.map V.ref))) (lp:ps.length=rs.length) (rp:∀ i,i < rs.length→H0 (ps.getD i 0)=some (.lst ((rs.getD i []).map V.int))) (nd0:(a::b::ps).Nodup)
  (hc:H c=some (.lst (qs.map V.ref))) (lq:qs.length=nm.length) (rq:∀ i,i < nm.length→H (qs.getD i 0)=some (.lst ((nm.getD i []).map V.int))) (nq:qs.Nodup) (cq:c∉qs) (hd:H d=some (.lst [])) (dn:d∉c::qs) (new:∀ y∈d::c::qs,H0 y=none∧¬F y) :
  Both C H0 H x F ⟨hs,rs,stp,some (nm,[])⟩ ⟨a,b,c,d,ps,qs,[]⟩:=by
 have mp:∀ y∈ps,∃ o,H0 y=some o:=fun y hy=>by
  obtain ⟨i,hi,ei⟩:=L2.mem_getD (d:=0) hy;exact ⟨_,ei▸rp i (by omega)⟩
 have ne:∀ {y z},(∃ o,H0 y=some o)→z∈d::c::qs→y≠z:=fun h hz e=>by
  obtain ⟨o,h⟩:=h;rw [e,(new _ hz).1] at h
  cases h
 have md:d∈d::c::qs:=List.mem_cons_self;have mc:c∈d::c::qs:=List.mem_cons_of_mem _ List.mem_cons_self;have mq:∀ {y},y∈qs→y∈d::c::qs:=fun h=>List.mem_cons_of_mem _ (List.mem_cons_of_mem _ h);simp only [List.nodup_cons,List.mem_cons,not_or] at nd0 dn;obtain ⟨⟨ab,ap⟩,bp,np⟩:=nd0;have xa:∃ o,H0 a=some o:=⟨_,ha⟩
 have xb:∃ o,H0 b=some o:=⟨_,hb⟩
 refine ⟨E,B,rfl,⟨s _ _ ha,s _ _ hb,hc,hd,lp,lq,rfl,fun i hi=>s _ _ (rp i hi),rq,fun i hi=>absurd hi (by simp [ExS.en]),?_⟩,fun y hy=>?_,s,nf0,fun y hy=>?_,fun i hi=>absurd hi (by simp [ExS.en])⟩
 ·refine ld_iff.mpr ⟨ab,ne xa mc,ne xa md,ap,fun h=>ne xa (mq h) rfl,by simp,ne xb mc,ne xb md,bp,fun h=>ne xb (mq h) rfl,by simp,fun z=>dn.1 z.symm,fun h=>ne (mp _ h) mc rfl,cq,by simp,fun h=>ne (mp _ h) md rfl,dn.2,by simp,np,nq,List.nodup_nil,fun y h h'=>ne (mp _ h) (mq h') rfl,by simp,by simp⟩
 ·unfold LdA.all at hy;simp only [List.mem_cons,List.mem_append,List.append_nil] at hy;rcases hy with h | h | h | h | h | h
  ·exact h▸nf0 _ _ ha
  ·exact h▸nf0 _ _ hb
  ·exact h▸(new _ mc).2
  ·exact h▸(new _ md).2
  ·obtain ⟨o,e⟩:=mp _ h;exact nf0 _ _ e
  ·exact (new _ (mq h)).2
 ·rcases List.mem_cons.mp hy with h | h
  ·exact h▸(new _ md).1
  ·exact (new _ (mq h)).1
theorem zlp {B H:Hp} {p:Addr} {rs:List (List Int)} (R:RowsAt B p rs H):∃ zs:List V,H p=some (.lst zs)∧(zs=[]↔rs=[]):=by
 obtain ⟨zs,h1,h2⟩:=R.lst;refine ⟨zs,h1,fun h=>?_,fun h=>?_⟩
 ·rw [h] at h2;exact List.eq_nil_of_length_eq_zero h2.symm
 ·rw [h] at h2;exact List.eq_nil_of_length_eq_zero h2
end Prf
namespace L2
open PySem PySem.Spec PyProof.Rows
section
variable {X:Cx} {K:PySem.W.Frag} {H:Hp} {Q:VK} {i:Int} {b:Bool}
end
end L2
namespace Prf
open PySem PySem.Spec PyProof.Rows L2
end Prf
namespace Prf
open PySem PySem.Spec PyProof.Rows L2
theorem zii {x:Int} {r':List Int}:∀ {rows:List (List Int)} {k:Nat},k < rows.length→cntB (rows.set k r') x+(if x∈rows.getD k [] then 1 else 0)=cntB rows x+(if x∈r' then 1 else 0)
 | [],k,h=>absurd h (by simp)
 | r::rs,0,_=>by
   show ((r'::rs).filter _).length+(if x∈r then 1 else 0)=((r::rs).filter _).length+_;rw [List.filter_cons,List.filter_cons]
   by_cases h1:x∈r <;> by_cases h2:x∈r' <;> simp [h1,h2]
 | r::rs,k+1,h=>by
   have ih:=zii (x:=x) (r':=r') (rows:=rs) (k:=k) (by simpa using h);unfold cntB at ih ⊢;show ((r::rs.set k r').filter _).length+(if x∈rs.getD k [] then 1 else 0)=((r::rs).filter _).length+_;rw [List.filter_cons,List.filter_cons];split
   ·rw [List.length_cons,List.length_cons];omega
   ·exact ih
structure Grow (tt nm:List (List Int)):Prop where
 len:nm.length=tt.length
 row:∀ k,k < tt.length→∃ z,nm.getD k []=tt.getD k []++z
 cnt:∀ x,cntB tt x≤cntB nm x
theorem Grow.new {tt:List (List Int)}:Grow tt tt:=⟨rfl,fun k _=>⟨[],by simp⟩,fun _=>Nat.le_refl _⟩
theorem Grow.named {tt:List (List Int)} {st:ExS} {k:Nat} {r p:Int} (G:Grow tt st.nm) (hk:k < st.nm.length):Grow tt (zaK (entS st k r p) k).nm:=by
 by_cases h:0 < zaL (entS st k r p) k
 ·have hm:(zaK (entS st k r p) k).nm=st.nm.set k (st.nm.getD k []++[zaL (entS st k r p) k]):=by unfold zaK;rw [if_pos h];rfl
  rw [hm];refine ⟨by rw [List.length_set];exact G.len,fun i hi=>?_,fun x=>?_⟩
  ·rw [zbj hk];obtain ⟨z,e⟩:=G.row i hi;split
   ·rename_i e';subst e'
    exact ⟨z++[zaL (entS st i r p) i],by rw [e,List.append_assoc]⟩
   ·exact ⟨z,e⟩
  ·have:=zii (x:=x) (r':=st.nm.getD k []++[zaL (entS st k r p) k]) hk;have h2:=G.cnt x;have:x∈st.nm.getD k []→x∈st.nm.getD k []++[zaL (entS st k r p) k]:=fun z=>List.mem_append_left _ z;split at * <;> split at * <;> first | omega | (exfalso;simp_all)
 ·have hm:zaK (entS st k r p) k=entS st k r p:=by unfold zaK;rw [if_neg h]
  rw [hm];exact G
end Prf
namespace L2
open PySem PySem.Spec PyProof.Rows
section
variable {σ:St} {H:Hp} {Q:VK} {K:PySem.W.Frag} {js:List Nat} {te:TE} {J:It} {n k:Nat} {g:TG} {w:Nat→St} {x:Nat→V}
end
end L2
namespace Prf
open PySem PySem.Spec PyProof.Rows L2
section
variable {C:Addr} {H H' H1 Hb:Hp} {x m a b c d:Addr} {F F':Addr→Prop} {st:ExS} {l:LdA} {i:Nat} {ps qs:List Addr} {hs:List Int} {rs rows:List (List Int)} {stp:Int} {G G' G1:Addr→Prop}
theorem ExAt.has (E:ExAt C H x F st) {b:Addr} (h:F b):∃ o,H b=some o:=by
 cases e:H b with
 | none=>exact absurd h (E.new e)
 | some o=>exact ⟨o,rfl⟩
theorem far (f:ExFr H H' G G') (dis:∀ b,G b→¬G1 b) (has:∀ b,G1 b→∃ o,H b=some o):(∀ b o,G1 b→H b=some o→H' b=some o)∧∀ b,G' b→¬G1 b :=
 ⟨fun b o h e=>f.kp b o e fun z=>dis b z h,fun b h h1=>(f.fp b h).elim (fun z=>dis b z h1) fun z=>by obtain ⟨o,e⟩:=has b h1;rw [z] at e;cases e⟩
end
end Prf
namespace Prf
open PySem PySem.Spec PyProof.Rows L2
abbrev E3:=Nat×Int×Int
def rowE (e:E3):List Int:=[(e.1:Int)+1,e.2.1,e.2.2]
def keyE (e:E3):Nat×Int:=(e.1,e.2.1)
def zby (st:ExS) (e:E3):ExS:=zaK (entS st e.1 e.2.1 e.2.2) e.1
def okE (st:ExS) (e:E3):Prop:=e.1 < st.nm.length∧e.2.1∈zaO st.nm st.en e.1∧0≤e.2.2∧e.2.2≤100
def runS (st:ExS) (es:List E3):ExS:=es.foldl zby st
def okS:ExS→List E3→Prop
 | _,[]=>True
 | st,e::es=>okE st e∧okS (zby st e) es
theorem zcE (st:ExS) (es:List E3) (e:E3):runS st (es++[e])=zby (runS st es) e:=by unfold runS;rw [List.foldl_append];rfl
theorem ok_snoc:∀ (st:ExS) (es:List E3) (e:E3),okS st (es++[e])↔okS st es∧okE (runS st es) e
 | st,[],e=>⟨fun h=>⟨trivial,h.1⟩,fun h=>⟨h.2,trivial⟩⟩
 | st,a::es,e=>by
   show okE st a∧okS (zby st a) (es++[e])↔(okE st a∧okS (zby st a) es)∧okE (runS (zby st a) es) e;rw [ok_snoc (zby st a) es e,and_assoc]
theorem zf8 {st:ExS}:∀ {es fs:List E3},okS st (es++fs)→okS st es:=fun {es fs} h=>by
 induction es generalizing st with
 | nil=>trivial
 | cons e es ih=>exact ⟨h.1,ih h.2⟩
theorem zmA (st:ExS) (e:E3):(zby st e).en=st.en++[rowE e]:=by unfold zby;rw [zig];rfl
theorem zlq (st:ExS) (e:E3):(zby st e).nm.length=st.nm.length:=by unfold zby;rw [zgL];rfl
theorem zmB (st:ExS) (e:E3):(zby st e).hs=st.hs∧(zby st e).rs=st.rs∧(zby st e).step=st.step:=by unfold zby;rw [zlm,zln,ziP];exact ⟨rfl,rfl,rfl⟩
theorem zlI (st:ExS) (es:List E3):(runS st es).en=st.en++es.map rowE:=by
 induction es generalizing st with
 | nil=>show st.en=st.en++[];rw [List.append_nil]
 | cons e es ih =>
   show (runS (zby st e) es).en=_;rw [ih,zmA,List.append_assoc];rfl
theorem zcO (st:ExS) (es:List E3):(runS st es).hs=st.hs∧(runS st es).rs=st.rs∧(runS st es).step=st.step∧(runS st es).nm.length=st.nm.length:=by
 induction es generalizing st with
 | nil=>exact ⟨rfl,rfl,rfl,rfl⟩
 | cons e es ih =>
   obtain ⟨h1,h2,h3,h4⟩:=ih (zby st e);obtain ⟨k1,k2,k3⟩:=zmB st e;exact ⟨h1.trans k1,h2.trans k2,h3.trans k3,h4.trans (zlq st e)⟩
theorem zdV (L:List E3) (e:E3) (k:Nat) (r:Int):zaE ((L++[e]).map rowE) k r=if e.1=k∧e.2.1=r then some e.2.2 else zaE (L.map rowE) k r:=by
 rw [List.map_append];show zaE (L.map rowE++[rowE e]) k r=_;rw [zbn]
 by_cases h:e.1=k∧e.2.1=r
 ·rw [if_pos h,if_pos ⟨by show (e.1:Int)+1=_;rw [h.1],h.2⟩];rfl
 ·rw [if_neg h,if_neg (fun z=>h ⟨by have:(e.1:Int)+1=(k:Int)+1:=z.1;omega,z.2⟩)]
theorem zdk {P:List E3→Prop} (h0:P []) (hs:∀ L e,P L→P (L++[e])):∀ L,P L:=fun L=>by
 have:∀ n,∀ L:List E3,L.length=n→P L:=fun n=>by
  induction n with
  | zero=>intro L h;rw [List.length_eq_zero_iff.mp h];exact h0
  | succ n ih =>
    intro L h;have hne:L≠[]:=fun z=>by rw [z] at h;cases h
    rw [← List.dropLast_concat_getLast hne];exact hs _ _ (ih _ (by rw [List.length_dropLast];omega))
 exact this _ L rfl
theorem zkl (L:List E3) (k:Nat) (r:Int):(zaE (L.map rowE) k r).isSome=true↔(k,r)∈L.map keyE:=by
 refine zdk (P:=fun L=>(zaE (L.map rowE) k r).isSome=true↔(k,r)∈L.map keyE) ?_ ?_ L
 ·simp [ze5]
 ·intro L e ih;rw [zdV,List.map_append,List.mem_append]
  by_cases h:e.1=k∧e.2.1=r
  ·rw [if_pos h];refine ⟨fun _=>.inr (List.mem_singleton.mpr ?_),fun _=>rfl⟩;show (k,r)=(e.1,e.2.1);rw [h.1,h.2]
  ·rw [if_neg h,ih];refine ⟨.inl,fun z=>z.elim id fun z=>?_⟩;have:(k,r)=(e.1,e.2.1):=List.mem_singleton.mp z;exact absurd ⟨(Prod.mk.inj this).1.symm,(Prod.mk.inj this).2.symm⟩ h
theorem zef {L:List E3} (nd:(L.map keyE).Nodup) (k:Nat) (r p:Int):zaE (L.map rowE) k r=some p↔(k,r,p)∈L:=by
 revert nd
 refine zdk (P:=fun L=>(L.map keyE).Nodup→(zaE (L.map rowE) k r=some p↔(k,r,p)∈L)) ?_ ?_ L
 ·intro _;simp [ze5]
 ·intro L e ih nd;rw [List.map_append,List.nodup_append] at nd;have ih:=ih nd.1;rw [zdV,List.mem_append]
  by_cases h:e.1=k∧e.2.1=r
  ·rw [if_pos h];constructor
   ·intro z;refine .inr (List.mem_singleton.mpr ?_);have z:=Option.some.inj z;rw [← h.1,← h.2,← z]
   ·rintro (z | z)
    ·have hk:keyE (k,r,p)∈L.map keyE:=List.mem_map.mpr ⟨_,z,rfl⟩;exact absurd (by show (k,r)=(e.1,e.2.1);rw [h.1,h.2]) (nd.2.2 _ hk (keyE e) (by simp))
    ·rw [← List.mem_singleton.mp z]
  ·rw [if_neg h,ih];refine ⟨.inl,fun z=>z.elim id fun z=>?_⟩;have:=List.mem_singleton.mp z;exact absurd ⟨by rw [← this],by rw [← this]⟩ h
theorem ziQ {ap:Nat→Bool} {k:Nat} (h:ap k=true) (L:List E3) (r:Int):zaE (L.map rowE) k r=zaE ((L.filter fun e=>ap e.1).map rowE) k r:=by
 refine zdk (P:=fun L=>zaE (L.map rowE) k r=zaE ((L.filter fun e=>ap e.1).map rowE) k r) rfl ?_ L;intro L e ih;rw [zdV,List.filter_append]
 by_cases he:ap e.1=true
 ·rw [show List.filter (fun e=>ap e.1) [e]=[e] from by rw [List.filter_cons,if_pos he];rfl,zdV,ih]
 ·rw [show List.filter (fun e=>ap e.1) [e]=[] from by rw [List.filter_cons,if_neg he];rfl,List.append_nil,← ih,if_neg (fun z=>he (by rw [z.1];exact h))]
theorem zdl {nm en en':List (List Int)} {k:Nat} (h:∀ r,zaE en k r=zaE en' k r):zaO nm en k=zaO nm en' k:=by
 unfold zaO;exact List.filter_congr fun r _=>by rw [h r]
theorem zgN {nm en en':List (List Int)} {k:Nat} (h:∀ r,zaE en k r=zaE en' k r):ptsOf nm en k=ptsOf nm en' k:=by
 unfold ptsOf;exact List.map_congr_left fun r _=>by rw [h r]
theorem zeP (st:ExS) (k:Nat):(zaK st k).nm=if 0 < zaL st k then st.nm.set k (st.nm.getD k []++[zaL st k]) else st.nm:=by
 unfold zaK;split <;> rfl
theorem ziR {s1 s2:ExS} {e:E3} (hh:s1.hs=s2.hs) (hr:s1.rs=s2.rs) (hs:s1.step=s2.step) (hn:s1.nm=s2.nm) (he:∀ r,zaE s1.en e.1 r=zaE s2.en e.1 r):(okE s1 e↔okE s2 e)∧(zby s1 e).nm=(zby s2 e).nm:=by
 have h2:∀ r,zaE (entS s1 e.1 e.2.1 e.2.2).en e.1 r=zaE (entS s2 e.1 e.2.1 e.2.2).en e.1 r:=fun r=>by
  rw [zf7,zf7,zbn,zbn,he r]
 have hn2:(entS s1 e.1 e.2.1 e.2.2).nm=(entS s2 e.1 e.2.1 e.2.2).nm:=hn;refine ⟨?_,?_⟩
 ·unfold okE;rw [hn,zdl he]
 ·have ht:zaL (entS s1 e.1 e.2.1 e.2.2) e.1=zaL (entS s2 e.1 e.2.1 e.2.2) e.1:=by
   unfold zaL zbZ zgG;rw [hn2,zdl h2,zgN h2,show (entS s1 e.1 e.2.1 e.2.2).step=(entS s2 e.1 e.2.1 e.2.2).step from hs,show (entS s1 e.1 e.2.1 e.2.2).hs=(entS s2 e.1 e.2.1 e.2.2).hs from hh,show (entS s1 e.1 e.2.1 e.2.2).rs=(entS s2 e.1 e.2.1 e.2.2).rs from hr]
  unfold zby;rw [zeP,zeP,ht,hn2]
section
variable {hs:List Int} {rs tt:List (List Int)} {stp:Int} {tab:Nat→List Int} {ap:Nat→Bool}
def zfa (tt:List (List Int)) (tab:Nat→List Int) (e:E3):Prop:=(e.2.1=(tt.getD e.1 []).getD 0 0→e.2.2=(tab e.1).getD 0 0)∧(e.2.1=(tt.getD e.1 []).getD 1 0→e.2.2=(tab e.1).getD 1 0)
abbrev S0 (hs:List Int) (rs tt:List (List Int)) (stp:Int):ExS:=⟨hs,rs,stp,some (tt,[])⟩
theorem en0 (L:List E3):(runS (S0 hs rs tt stp) L).en=L.map rowE:=by rw [zlI];rfl
theorem keys_nd:∀ {L:List E3},okS (S0 hs rs tt stp) L→(L.map keyE).Nodup:=fun {L}=>by
 refine zdk (P:=fun L=>okS (S0 hs rs tt stp) L→(L.map keyE).Nodup) (fun _=>List.nodup_nil) ?_ L;intro L e ih h;obtain ⟨h1,h2⟩:=(ok_snoc _ _ _).mp h;rw [List.map_append];refine List.nodup_append.mpr ⟨ih h1,by simp,fun x hx y hy z=>?_⟩;have hy:y=(e.1,e.2.1):=List.mem_singleton.mp hy;subst hy;have:=(List.mem_filter.mp h2.2.1).2;rw [en0] at this;have hs':=(zkl L e.1 e.2.1).mpr (z▸hx);rw [Option.isSome_iff_exists] at hs';obtain ⟨q,hq⟩:=hs';rw [hq] at this
 cases this
theorem zkm {L:List E3} {e:E3} (h2:(tt.getD e.1 []).length=2) (hne:(tt.getD e.1 []).getD 0 0≠(tt.getD e.1 []).getD 1 0) (hag:zbF ((tab e.1).getD 0 0) ((tab e.1).getD 1 0) stp=true) (hp:∀ x∈L++[e],zfa tt tab x) (hrow:(runS (S0 hs rs tt stp) L).nm.getD e.1 []=tt.getD e.1 []) (ok:okS (S0 hs rs tt stp) (L++[e])):(zby (runS (S0 hs rs tt stp) L) e).nm=(runS (S0 hs rs tt stp) L).nm:=by
 have nd:=keys_nd ok;obtain ⟨f,s,hfs⟩:∃ f s,tt.getD e.1 []=[f,s]:=by
  match hh:tt.getD e.1 [],h2 with
  | [f,s],_=>exact ⟨f,s,rfl⟩
 rw [hfs] at hrow hne;have ht:zaL (entS (runS (S0 hs rs tt stp) L) e.1 e.2.1 e.2.2) e.1=0:=by
  unfold zaL;rw [if_neg];intro hn;unfold zbZ at hn;simp only [Bool.and_eq_true,decide_eq_true_eq,Bool.not_eq_true'] at hn;obtain ⟨⟨_,hw⟩,hna⟩:=hn;have hrow':(entS (runS (S0 hs rs tt stp) L) e.1 e.2.1 e.2.2).nm.getD e.1 []=[f,s]:=hrow;have hen:(entS (runS (S0 hs rs tt stp) L) e.1 e.2.1 e.2.2).en=(L++[e]).map rowE:=by rw [zf7,en0,List.map_append];rfl
  obtain ⟨pf,hf⟩:=zcD hw (r:=f) (by rw [hrow'];simp);obtain ⟨ps,hs'⟩:=zcD hw (r:=s) (by rw [hrow'];simp);have e1:(ptsOf (entS (runS (S0 hs rs tt stp) L) e.1 e.2.1 e.2.2).nm (entS (runS (S0 hs rs tt stp) L) e.1 e.2.1 e.2.2).en e.1)=[pf,ps]:=by
   unfold ptsOf;rw [hrow',List.map_cons,List.map_cons,List.map_nil,hf,hs'];rfl
  rw [e1] at hna;rw [hen] at hf hs';have m1:=(zef nd _ _ _).mp hf;have m2:=(zef nd _ _ _).mp hs';have q1:pf=(tab e.1).getD 0 0:=(hp _ m1).1 (by show f=(tt.getD e.1 []).getD 0 0;rw [hfs];rfl);have q2:ps=(tab e.1).getD 1 0:=(hp _ m2).2 (by show s=(tt.getD e.1 []).getD 1 0;rw [hfs];rfl);have hna:zbF pf ps stp=false:=by
   have h3:=(zcO (S0 hs rs tt stp) L).2.2.1;rw [show (entS (runS (S0 hs rs tt stp) L) e.1 e.2.1 e.2.2).step=stp from h3] at hna;exact hna
  rw [q1,q2,hag] at hna
  cases hna
 unfold zby;rw [zeP,ht,if_neg (by decide)];rfl
def Rel (hs:List Int) (rs tt:List (List Int)) (stp:Int) (ap:Nat→Bool) (L:List E3):Prop :=
 okS (S0 hs rs tt stp) L∧okS (S0 hs rs tt stp) (L.filter fun e=>ap e.1)∧(runS (S0 hs rs tt stp) L).nm=(runS (S0 hs rs tt stp) (L.filter fun e=>ap e.1)).nm∧∀ k,ap k=false→(runS (S0 hs rs tt stp) L).nm.getD k []=tt.getD k []
structure Tame (tt:List (List Int)) (tab:Nat→List Int) (stp:Int) (ap:Nat→Bool):Prop where
 two:∀ k,k < tt.length→(tt.getD k []).length=2
 ne:∀ k,k < tt.length→(tt.getD k []).getD 0 0≠(tt.getD k []).getD 1 0
 ag:∀ k,k < tt.length→ap k=false→zbF ((tab k).getD 0 0) ((tab k).getD 1 0) stp=true
theorem zhs {α:Type} {xs:List α} {k j:Nat} {v d:α} (h:j≠k):(xs.set k v).getD j d=xs.getD j d:=by
 rw [List.getD_eq_getElem?_getD,List.getElem?_set_ne (fun z=>h z.symm),List.getD_eq_getElem?_getD]
theorem Rel.nil:Rel hs rs tt stp ap []:=⟨trivial,trivial,rfl,fun _ _=>rfl⟩
theorem Rel.apart {L:List E3} {e:E3} (R:Rel hs rs tt stp ap L) (he:ap e.1=true) (ok:okE (runS (S0 hs rs tt stp) L) e∨okE (runS (S0 hs rs tt stp) (L.filter fun e=>ap e.1)) e):Rel hs rs tt stp ap (L++[e]):=by
 obtain ⟨r1,r2,r3,r4⟩:=R;have g1:=zcO (S0 hs rs tt stp) L;have g2:=zcO (S0 hs rs tt stp) (L.filter fun e=>ap e.1);obtain ⟨a1,a2⟩:=ziR (e:=e) (g1.1.trans g2.1.symm) (g1.2.1.trans g2.2.1.symm) (g1.2.2.1.trans g2.2.2.1.symm) r3 (fun r=>by rw [en0,en0];exact ziQ he L r);have ef:(L++[e]).filter (fun e=>ap e.1)=L.filter (fun e=>ap e.1)++[e]:=by rw [List.filter_append,List.filter_cons,if_pos he];rfl
 have o1:okE (runS (S0 hs rs tt stp) L) e:=ok.elim id a1.mpr;refine ⟨(ok_snoc _ _ _).mpr ⟨r1,o1⟩,by rw [ef];exact (ok_snoc _ _ _).mpr ⟨r2,a1.mp o1⟩,by rw [ef,zcE,zcE];exact a2,fun k hk=>?_⟩;rw [zcE];unfold zby;rw [zeP];have hne:k≠e.1:=fun z=>by rw [z,he] at hk;cases hk
 split
 ·rw [zhs hne];exact r4 k hk
 ·exact r4 k hk
theorem Rel.calm {L:List E3} {e:E3} (R:Rel hs rs tt stp ap L) (M:Tame tt tab stp ap) (he:ap e.1=false) (hk:e.1 < tt.length) (hp:∀ x∈L++[e],zfa tt tab x) (ok:okE (runS (S0 hs rs tt stp) L) e):Rel hs rs tt stp ap (L++[e]):=by
 obtain ⟨r1,r2,r3,r4⟩:=R;have o:=(ok_snoc _ _ _).mpr ⟨r1,ok⟩;have ef:(L++[e]).filter (fun e=>ap e.1)=L.filter (fun e=>ap e.1):=by rw [List.filter_append,List.filter_cons,if_neg (by rw [he];decide)];exact List.append_nil _
 have c:=zkm (M.two _ hk) (M.ne _ hk) (M.ag _ hk he) hp (r4 _ he) o;exact ⟨o,by rw [ef];exact r2,by rw [ef,zcE,c];exact r3,fun k hk'=>by rw [zcE,c];exact r4 k hk'⟩
theorem Rel.of {E:List E3} (M:Tame tt tab stp ap) (ok:okS (S0 hs rs tt stp) E) (hp:∀ x∈E,zfa tt tab x):Rel hs rs tt stp ap E:=by
 revert ok hp
 refine zdk (P:=fun E=>okS (S0 hs rs tt stp) E→(∀ x∈E,zfa tt tab x)→Rel hs rs tt stp ap E) (fun _ _=>Rel.nil) ?_ E;intro L e ih ok hp;obtain ⟨h1,h2⟩:=(ok_snoc _ _ _).mp ok;have R:=ih h1 fun x hx=>hp x (List.mem_append_left _ hx)
 cases he:ap e.1 with
 | true=>exact R.apart he (.inl h2)
 | false=>exact R.calm M he (by have:=h2.1;rw [(zcO (S0 hs rs tt stp) L).2.2.2] at this;exact this) hp h2
theorem zkn {E E2:List E3} (M:Tame tt tab stp ap) (ok:okS (S0 hs rs tt stp) E) (hp:∀ x∈E,zfa tt tab x) (hf:(E2.filter fun e=>ap e.1)=E.filter fun e=>ap e.1) (hc:(E2.filter fun e=>!ap e.1).Perm (E.filter fun e=>!ap e.1)) :
  okS (S0 hs rs tt stp) E2∧(runS (S0 hs rs tt stp) E2).nm=(runS (S0 hs rs tt stp) E).nm∧∀ k r,zaE (runS (S0 hs rs tt stp) E2).en k r=zaE (runS (S0 hs rs tt stp) E).en k r:=by
 have RE:=Rel.of M ok hp;have ndE:=keys_nd ok;have perm:E2.Perm E:=by
  have p1:=List.filter_append_perm (fun e:E3=>ap e.1) E2;have p2:=List.filter_append_perm (fun e:E3=>ap e.1) E;refine p1.symm.trans (.trans ?_ p2);rw [hf];exact List.Perm.append_left _ hc
 have nd2:(E2.map keyE).Nodup:=(perm.map keyE).nodup_iff.mpr ndE;have hp2:∀ x∈E2,zfa tt tab x:=fun x hx=>hp x (perm.mem_iff.mp hx);have hcalm:∀ e∈E,ap e.1=false→e.1 < tt.length∧e.2.1∈tt.getD e.1 []∧0≤e.2.2∧e.2.2≤100:=fun e he ha=>by
  obtain ⟨A,B,rfl⟩:=List.append_of_mem he;have o1:okS (S0 hs rs tt stp) (A++[e]):=zf8 (fs:=B) (by rw [List.append_assoc];exact ok);obtain ⟨h1,h2⟩:=(ok_snoc _ _ _).mp o1;have R:=Rel.of M h1 fun x hx=>hp x (List.mem_append_left _ hx);have hr:=(List.mem_filter.mp h2.2.1).1;rw [R.2.2.2 _ ha] at hr;exact ⟨by have:=h2.1;rw [(zcO (S0 hs rs tt stp) A).2.2.2] at this;exact this,hr,h2.2.2⟩
 have key:∀ L B,E2=L++B→Rel hs rs tt stp ap L:=fun L=>by
  refine zdk (P:=fun L=>∀ B,E2=L++B→Rel hs rs tt stp ap L) (fun _ _=>Rel.nil) ?_ L;intro L e ih B hB;have hB':E2=L++([e]++B):=by rw [hB,List.append_assoc]
  have R:=ih _ hB';have heE:e∈E:=perm.mem_iff.mp (by rw [hB];simp)
  cases he:ap e.1 with
  | true =>
    refine R.apart he (.inr ?_);have o:=RE.2.1;rw [← hf,hB',List.filter_append,List.filter_append,List.filter_cons,if_pos he,← List.append_assoc] at o;exact ((ok_snoc _ _ _).mp (zf8 o)).2
  | false =>
    obtain ⟨c1,c2,c3,c4⟩:=hcalm e heE he;refine R.calm M he c1 (fun x hx=>hp2 x (by rw [hB];exact List.mem_append_left _ hx)) ⟨by rw [(zcO (S0 hs rs tt stp) L).2.2.2];exact c1,List.mem_filter.mpr ⟨by rw [R.2.2.2 _ he];exact c2,?_⟩,c3,c4⟩;rw [en0]
    cases hh:zaE (L.map rowE) e.1 e.2.1 with
    | none=>rfl
    | some q =>
      have hk:=(zkl L e.1 e.2.1).mp (by rw [hh];rfl);rw [hB,List.map_append,List.map_append,List.nodup_append,List.nodup_append] at nd2;exact absurd rfl (nd2.1.2.2 _ hk (keyE e) (by simp))
 have R2:=key E2 [] (List.append_nil _).symm;refine ⟨R2.1,?_,fun k r=>?_⟩
 ·rw [R2.2.2.1,hf];exact RE.2.2.1.symm
 ·rw [en0,en0]
  cases h:zaE (E.map rowE) k r with
  | some p=>exact (zef nd2 _ _ _).mpr (perm.mem_iff.mpr ((zef ndE _ _ _).mp h))
  | none =>
    cases h2:zaE (E2.map rowE) k r with
    | none=>rfl
    | some p =>
      have:=(zef ndE _ _ _).mpr (perm.mem_iff.mp ((zef nd2 _ _ _).mp h2));rw [h] at this;cases this
end
end Prf
namespace L2
open PySem PySem.Spec PyProof.Rows
section
variable {X:Cx}
def rIndex:V→List V→Hp→VK→Prop:=fun x vs H Q=>∃ (l:Addr) (ns:List Int) (i:Int),x=.ref l∧vs=[.int i]∧H l=some (.lst (ns.map V.int))∧i∈ns∧∀ j:Nat,j < ns.length→ns.getD j 0=i→(∀ m,m < j→ns.getD m 0≠i)→Q (.int (j:Int)) H
theorem mt_index:MtM X "list.index" rIndex:=by
 intro pins s σ H x vs v us Q I rx rv h;obtain ⟨l,ns,i,rfl,rfl,hH,hi,q⟩:=h
 cases rx
 obtain ⟨u,rfl,t,rfl⟩:=rv.one;obtain ⟨z,its,n,r,hl,e⟩:=I.lstM hH;rw [List.length_map] at hl z;obtain ⟨j,hj,e1,e2,e3⟩:=erase_at hi;have hsl:=sizeLine_eq;have at_:∀ (m:Nat) (h:m < its.length),∃ t,its[m]=.int (ns[m]'(by omega)) t:=fun m h=>vals_int_at r m (by omega) h;refine call_meets F.slot_list_index ⟨_,e,rfl⟩ F.entry_list_index (F.args_list_index_2 _ _)
  (MeetsSeq.list_index l its.toArray n (.int i t) (fun y=>match y with | .int a _=>a == i | _=>false) (fun y hy=>?_) j (by simpa using (show j < its.length by omega)) ?_ ?_ (fun m hm hlt=>?_)) ⟨e,?_⟩
 ·obtain ⟨m,hm,rfl⟩:=List.getElem_of_mem (by simpa using hy:y∈its);obtain ⟨t',et⟩:=at_ m hm;rw [et];exact MeetsSeq.EqGives.int _ _ _ _
 ·omega
 ·obtain ⟨t',et⟩:=at_ j (by omega);rw [List.getElem_toArray,et];simpa using e1
 ·have hm':m < its.length:=by simpa using hm
  obtain ⟨t',et⟩:=at_ m hm';rw [List.getElem_toArray,et];simpa using e2 m (by omega) hlt
 ·refine ⟨.int (j:Int),H,I.tok _,⟨_,rfl⟩,q j hj ?_ fun m hm=>?_⟩
  ·rw [List.getD_eq_getElem?_getD,List.getElem?_eq_getElem hj];exact e1
  ·rw [List.getD_eq_getElem?_getD,List.getElem?_eq_getElem (by omega)];exact e2 m (by omega) hm
theorem ziS {H:Hp} {Q:VK} {p:Addr} {ns:List Int} {i:Int} (h:H p=some (.lst (ns.map V.int))) (hi:i∈ns) (q:∀ j:Nat,j < ns.length→ns.getD j 0=i→(∀ m,m < j→ns.getD m 0≠i)→Q (.int (j:Int)) H):rIndex (.ref p) [.int i] H Q:=⟨p,ns,i,rfl,rfl,h,hi,q⟩
end
end L2
namespace Prf
open PySem PySem.Spec PyProof.Rows L2
theorem zko {st:ExS} {e:E3}:(zby st e).dl.isSome=true:=by unfold zby;exact zlo rfl
theorem zmC {st:ExS} {e:E3} (W:Wf st) (hd:st.dl.isSome=true) (o:okE st e):Wf (zby st e):=by
 obtain ⟨hk,hr,p0,p1⟩:=o;have W1:=zmx W hd (k:=e.1) (r:=e.2.1) (p:=e.2.2) ⟨p0,p1⟩;unfold zby
 by_cases h:0 < zaL (entS st e.1 e.2.1 e.2.2) e.1
 ·have h0t:zbZ (entS st e.1 e.2.1 e.2.2) e.1=true∧0 < zbk st.hs st.rs (za4 st.rs st.nm) ((e.1:Int)+1) (st.nm.getD e.1 [])∧zaL (entS st e.1 e.2.1 e.2.2) e.1=zbk st.hs st.rs (za4 st.rs st.nm) ((e.1:Int)+1) (st.nm.getD e.1 []):=by
   have c4':=h;unfold zaL at c4' ⊢
   cases hn':zbZ (entS st e.1 e.2.1 e.2.2) e.1 with
   | true=>rw [hn',if_pos rfl] at c4';rw [if_pos rfl];exact ⟨rfl,c4',rfl⟩
   | false=>rw [hn',if_neg (by decide)] at c4';exact absurd c4' (by decide)
  obtain ⟨hn,h1,h2⟩:=h0t;obtain ⟨s1,s2,s3,s4,s5⟩:=zed h1;rw [← h2] at s1 s2 s3;unfold zbZ at hn;simp only [Bool.and_eq_true,decide_eq_true_eq,Bool.not_eq_true'] at hn;obtain ⟨⟨hl,hw⟩,_⟩:=hn;have hl:(st.nm.getD e.1 []).length=2:=hl;obtain ⟨f,s,hfs⟩:∃ f s,st.nm.getD e.1 []=[f,s]:=by
   match hh:st.nm.getD e.1 [],hl with
   | [f,s],_=>exact ⟨f,s,rfl⟩
  rw [hfs] at s3;have hfs':(entS st e.1 e.2.1 e.2.2).nm.getD e.1 []=[f,s]:=hfs;obtain ⟨pf,hf⟩:=zcD hw (r:=f) (by rw [hfs'];simp);obtain ⟨ps,hs⟩:=zcD hw (r:=s) (by rw [hfs'];simp);unfold zaK;rw [if_pos h];exact Wf.ofThird W1 rfl hk hfs ⟨s1,s2⟩ s3 (by show (zaE (entS st e.1 e.2.1 e.2.2).en e.1 f).isSome=true;rw [hf];rfl) (by show (zaE (entS st e.1 e.2.1 e.2.2).en e.1 s).isSome=true;rw [hs];rfl)
 ·unfold zaK;rw [if_neg h];exact W1
theorem zkp {tt:List (List Int)} {st:ExS} {e:E3} (G:Grow tt st.nm) (hk:e.1 < st.nm.length):Grow tt (zby st e).nm:=G.named hk
theorem nb_anti:∀ {a b:List (List Int)},a.length=b.length→(∀ i,i < a.length→(a.getD i []).length=2)→(∀ i,i < b.length→(b.getD i []).length=2)→nbB a b=true→nbB b a=true→a=b
 | [],[],_,_,_,_,_=>rfl
 | [],_::_,h,_,_,_,_=>by simp at h
 | _::_,[],h,_,_,_,_=>by simp at h
 | x::a,y::b,h,ha,hb,h1,h2=>by
   have x2:x.length=2:=ha 0 (by simp);have y2:y.length=2:=hb 0 (by simp)
   match x,y,x2,y2 with
   | [x0,x1],[y0,y1],_,_ =>
     have h1:(if x0=y0 then (if x1=y1 then nbB a b else decide (x1 < y1)) else decide (x0 < y0))=true:=h1;have h2:(if y0=x0 then (if y1=x1 then nbB b a else decide (y1 < x1)) else decide (y0 < x0))=true:=h2
     by_cases e0:x0=y0
     ·subst e0;rw [if_pos rfl] at h1 h2
      by_cases e1:x1=y1
      ·subst e1;rw [if_pos rfl] at h1 h2;rw [nb_anti (by simpa using h) (fun i hi=>ha (i+1) (by simp;omega)) (fun i hi=>hb (i+1) (by simp;omega)) h1 h2]
      ·rw [if_neg e1] at h1;rw [if_neg (fun z=>e1 z.symm)] at h2;have:=of_decide_eq_true h1;have:=of_decide_eq_true h2;omega
     ·rw [if_neg e0] at h1;rw [if_neg (fun z=>e0 z.symm)] at h2;have:=of_decide_eq_true h1;have:=of_decide_eq_true h2;omega
theorem znY {tt nm:List (List Int)} {tab:Nat→List Int} {k j:Nat} {r:Int} (G:Grow tt nm) (hk:k < tt.length) (h2:(tt.getD k []).length=2) (hne:(tt.getD k []).getD 0 0≠(tt.getD k []).getD 1 0) (hj:(nm.getD k []).getD j 0=r) (hm:∀ m,m < j→(nm.getD k []).getD m 0≠r):zfa tt tab (k,r,(tab k).getD j 0):=by
 obtain ⟨z,e⟩:=G.row k hk;obtain ⟨f,s,hfs⟩:∃ f s,tt.getD k []=[f,s]:=by
  match hh:tt.getD k [],h2 with
  | [f,s],_=>exact ⟨f,s,rfl⟩
 rw [hfs] at e hne;have e0:(nm.getD k []).getD 0 0=f:=by rw [e];rfl
 have e1:(nm.getD k []).getD 1 0=s:=by rw [e];rfl
 refine ⟨fun h=>?_,fun h=>?_⟩
 ·have hrf:r=f:=by have:r=(tt.getD k []).getD 0 0:=h;rw [hfs] at this;exact this
  match j,hm with
  | 0,_=>rfl
  | j+1,hm=>exact absurd (e0.trans hrf.symm) (hm 0 (by omega))
 ·have hrs:r=s:=by have:r=(tt.getD k []).getD 1 0:=h;rw [hfs] at this;exact this
  match j,hm,hj with
  | 0,_,hj=>exact absurd (e0.symm.trans (hj.trans hrs)) hne
  | 1,_,_=>rfl
  | j+2,hm,_=>exact absurd (e1.trans hrs.symm) (hm 1 (by omega))
theorem zmD {a b:E3} (h:rowE a=rowE b):a=b:=by
 unfold rowE at h;injection h with h1 h2;injection h2 with h2 h3;injection h3 with h3;have:a.1=b.1:=by omega
 exact Prod.ext this (Prod.ext h2 h3)
theorem ziT {nm en en':List (List Int)} {s:Int} (h:∀ k r,zaE en k r=zaE en' k r) (k:Nat):zbG nm en s k=zbG nm en' s k:=by
 unfold zbG;rw [zdl (h k),zgN (h k)]
theorem zkq {nm en en':List (List Int)} (h:∀ k r,zaE en k r=zaE en' k r):dueB nm en=dueB nm en':=by
 unfold dueB
 congr 1
 funext k
 rw [zdl (h k)]
end Prf
namespace L2
open PySem PySem.Spec PyProof.Rows
section
variable {P:Program} {w:World} {l:List Env} {H H':Hp} {h0 B h h':Heap}
end
section
variable {P:Program} {w:World} {K:PySem.W.Frag} {mg:Str→Option Value} {base:Heap} {N:List Str} {qual:Str} {scope:Scope} {f:Addr} {cd:Value} {A:Around} {outer:List Env} {s:Shared} {H:Hp} {E:XK}
end
end L2
namespace L2
open PySem PySem.Spec PyProof.Rows
section
variable {P:Program} {w:World} {K:PySem.W.Frag} {mg:Str→Option Value} {base:Heap}
end
section
variable {X:Cx} {pins:List (Addr×Obj)} {σ:St} {H:Hp} {s:Shared}
variable {k:Nat} {f C:Addr} {fd:FuncData} {ps:List Str} {sp:Sp} {x m:Str} {p pos apos:Pos} {e o:Expr} {es:List Expr} {ta:TE} {t:TA}
theorem zmE {body:List Stmt} {h0:ExceptHandler} {hs:List ExceptHandler} {tb:TS} (hno:∀ e s,¬X.xe e s) (hb:PSs X body tb):PS X (.Try body (h0::hs) [] [] pos) tb:=by
 intro pins s σ H D I hq;refine wpAny_Try_except (wpAny_mono (hb pins s σ H D I hq) (fun f s1 z=>?_) fun e s1 z=>(hno e s1 z).elim)
 cases f with
 | next=>exact wpAny_execs_nil z
 | brk=>exact z
 | cont=>exact z
 | ret u=>exact z
end
end L2
namespace L2
open PySem PySem.Spec PyProof.Rows
section
variable {X:Cx} {K:PySem.W.Frag} {C:Addr} {m:Str} {sp:Sp} {ta:TE} {tl:TA} {σ:St} {H:Hp} {Q:VK} {E:XK} {D:Ends} {tb:(Value→Shared→Prop)→List (Addr×Obj)→TS} {th:Value→TS} {ts:TS} {cls:Value}
end
end L2
open PySem PySem.Spec PyProof.Rows L2
local macro_rules | `(tactic| walk_at "ne")=>`(tactic| first | assumption | (exact Ne.symm (by assumption)) | (exact zaj (by assumption) (by assumption)) | (exact Ne.symm (zaj (by assumption) (by assumption))))
local macro_rules | `(tactic| walk_at "hp")=>`(tactic| first | assumption | (exact zay) | (exact SqL.of zay) | (exact SqL.of (by assumption)) | (exact Eq.trans (zaR (by walk_at "ne")) (by walk_at "hp")) | (exact SqL.of (Eq.trans (zaR (by walk_at "ne")) (by walk_at "hp"))))
local macro_rules | `(tactic| walk_at "ty")=>`(tactic| first | (exact TyOf.int _) | (exact TyOf.bl _) | (exact TyOf.non) | (exact TyOf.str _) | (exact TyOf.lst (by walk_at "hp")))
local macro_rules | `(tactic| walk_at "ix")=>`(tactic| first | (exact zdi (by omega) (by omega)) | (exact zkP (by omega) (by omega)) | (exact rfl))
local macro_rules | `(tactic| walk_at "rd1")=>`(tactic| first
 | (with_reducible refine zjI ?_) | (with_reducible refine zol ?_) | (with_reducible refine zom ?_) | (with_reducible refine zok ?_) | (with_reducible refine znf ?_) | (with_reducible refine zng ?_) | (with_reducible refine zmy ?_) | (with_reducible refine r_intI ?_) | (with_reducible refine r_intB ?_) | (with_reducible refine zl9 ?_)
 | (with_reducible refine r_op ?_) | ((with_reducible refine' zeE ?rv ?_);(case rv=>exact rfl)) | (with_reducible refine r_c ?_)
 | (with_reducible refine r_I0 ?_) | (with_reducible refine znl ?_) | (with_reducible refine znQ ?_) | (with_reducible refine znR ?_) | (with_reducible refine znS ?_) | (with_reducible refine r_ne2B ?_) | (with_reducible refine r_eqGI ?_) | (with_reducible refine zlB ?_) | (with_reducible refine r_eqGB ?_) | (with_reducible refine r_neGB ?_)
 | (with_reducible refine r_cb ?_) | (with_reducible refine zfF ?_) | (with_reducible refine zeF ?_) | (with_reducible refine zm9 ?_) | (with_reducible refine zoh ?_) | (with_reducible refine r_bm ?_)
 | (with_reducible refine znb ?_) | (with_reducible refine r_orV ?_) | (with_reducible refine znc ?_) | (with_reducible refine znd ?_) | (with_reducible refine zne ?_) | (with_reducible refine r_tB ?_)
 | (with_reducible refine zoi ?_) | (with_reducible refine r_or ?_) | (with_reducible refine zoj ?_) | (with_reducible refine r_if ?_) | (with_reducible refine r_tt ?_) | (with_reducible refine zma ?_) | (with_reducible refine zmb ?_)
 | ((with_reducible refine' znX ?h1 ?_);(case h1=>walk_at "hp")) | ((with_reducible refine' zkj ?h1 ?_);(case h1=>walk_at "hp")) | (with_reducible refine r_forZ ?_)
 | (with_reducible refine zos ?_) | (with_reducible refine znu ?_)
 | (with_reducible refine znp ?_) | (with_reducible refine znq ?_) | ((with_reducible refine' znr ?h1 ?h2 ?_);(case h1=>omega);(case h2=>omega)) | ((with_reducible refine' r_pow ?h1 ?_);(case h1=>exact ⟨by decide,by decide,by decide⟩))
 | ((with_reducible refine' r_mulB ?h1 ?_);(case h1=>first | (exact .inl (.inr ⟨by decide,by decide⟩)) | (exact .inl (.inl ⟨by omega,by omega⟩)) | (exact .inl (.inr ⟨by omega,by omega⟩)) | (exact .inr ⟨⟨by omega,by omega⟩,by omega,by omega⟩)))
 | (with_reducible refine r_lr ?_) | (with_reducible refine r_sl ?_) | (with_reducible refine zmi ?_) | (with_reducible refine zns ?_) | (with_reducible refine zmj ?_) | (with_reducible refine zkU ?_) | (with_reducible refine znt ?_)
 | (with_reducible refine r_maxD ?_) | ((with_reducible refine' leaf_max ?h1 ?_);(case h1=>walk_at "hp"))
 | (with_reducible refine r_for3 ?_) | (with_reducible refine r_tun ?_) | (with_reducible refine r_un ?_)
 | (with_reducible refine znh ?_) | (with_reducible refine zni ?_) | (with_reducible refine znm ?_) | (with_reducible refine zmc ?_) | (with_reducible refine zmd ?_) | (with_reducible refine zme ?_) | (with_reducible refine zny ?_) | (with_reducible refine zmp ?_) | (with_reducible refine zmq ?_)
 | (with_reducible refine zot ?_) | (with_reducible refine znB ?_) | (with_reducible refine znC ?_) | (with_reducible refine znD ?_) | (with_reducible refine znE ?_) | (with_reducible refine zou ?_) | (with_reducible refine zov ?_) | (with_reducible refine znK ?_) | (with_reducible refine znL ?_) | (with_reducible refine znG ?_)
 | ((with_reducible refine' zk9 ?h1 ?h2 ?h3 ?h4 ?_);(case h1=>assumption);(case h2=>assumption);(case h3=>assumption);(case h4=>assumption))
 | ((with_reducible refine' zop ?h1 ?_);(case h1=>omega)) | ((with_reducible refine' r_div ?h1 ?h2 ?_);(case h1=>omega);(case h2=>omega)) | ((with_reducible refine' r_mul ?h1 ?_);(case h1=>first | (exact .inr ⟨by decide,by decide⟩) | (exact .inl ⟨by omega,by omega⟩) | (exact .inr ⟨by omega,by omega⟩))) | ((with_reducible refine' zoq ?h1 ?_);(case h1=>walk_at "hp"))
 | ((with_reducible refine' zeX ?h1 ?h2 ?_);(case h1=>walk_at "hp");(case h2=>walk_at "ix"))
 | ((with_reducible refine' znj ?h1 ?_);(case h1=>walk_at "hp")) | ((with_reducible refine' znk ?h1 ?_);(case h1=>walk_at "hp")) | ((with_reducible refine' zon ?h1 ?_);(case h1=>walk_at "hp"))
 | ((with_reducible refine' zoo ?h1 ?h2 ?_);(case h1=>walk_at "ty");(case h2=>rfl)))
local macro_rules | `(tactic| walk_at "rd")=>`(tactic| repeat (walk_at "rd1"))
local macro_rules | `(tactic| walk_at "st")=>`(tactic| repeat ((fail_if_success (with_reducible refine zjI ?_));walk_at "rd1"))
local macro_rules | `(tactic| walk_at "rdk")=>`(tactic| repeat (first | walk_at "rd1" | (with_reducible refine iteF ?_) | (with_reducible refine iteT ?_) | (refine zbi (fun h=>absurd h (by omega)) (fun _=>?_)) | (refine zbi (fun _=>?_) (fun h=>absurd (by omega) h))))
local macro_rules | `(tactic| symm)=>`(tactic| walk_at "rd")
set_option hygiene false
local macro_rules | `(tactic| walk_at "hd")=>`(tactic| (obtain ⟨e,kvs,rfl,hF,I⟩:=E0;have hcl:=T.cl_Exam;have nA:=T.n_Exam_paper_houses;have nB:=T.n_Exam_reader_rows;have nS:=T.n_Exam_widest_step;have nD:=T.n_Exam_is_dealt;have nC:=T.n_Exam_named_readers;have nE:=T.n_Exam_entered_points;have hob:=I.ob;have fA:=@exFs_a (.ref e.a) (.ref e.b) (.int st.step) (.bl st.dl.isSome) (.ref e.c) (.ref e.d);have fB:=@exFs_b (.ref e.a) (.ref e.b) (.int st.step) (.bl st.dl.isSome) (.ref e.c) (.ref e.d);have fS:=@exFs_s (.ref e.a) (.ref e.b) (.int st.step) (.bl st.dl.isSome) (.ref e.c) (.ref e.d);have fD:=@exFs_d (.ref e.a) (.ref e.b) (.int st.step) (.bl st.dl.isSome) (.ref e.c) (.ref e.d);have fC:=@exFs_c (.ref e.a) (.ref e.b) (.int st.step) (.bl st.dl.isSome) (.ref e.c) (.ref e.d);have fE:=@exFs_e (.ref e.a) (.ref e.b) (.int st.step) (.bl st.dl.isSome) (.ref e.c) (.ref e.d);have hha:=I.ha;have hhb:=I.hb;have hhc:=I.hc;have hhd:=I.hd))
set_option hygiene true
namespace Prf
open PySem PySem.Spec PyProof.Rows L2
def top (i:Nat):Stmt:=PySem.Challenge.pw_secondread_k42_whole_order.main.body.getD i (.Pass ⟨0,0,0,0⟩)
abbrev s_47:Stmt:=top 45
theorem sc_47:zao ["_law_script","_law_k"] ["_law_script","_law_k"] (zac s_47):=⟨rfl,rfl,rfl,by decide +kernel,rfl,by decide +kernel,by decide +kernel⟩
abbrev s_52:Stmt:=top 50
theorem sc_52:zao ["_law_script","_law_first","_law_least","_law_shape","_law_count","_law_few","_law_spare_here","_law_staff","_law_homes","_law_rows_here","_law_k","_law_cell","_law_one","_law_two","_law_fit","_law_used"] ["_law_script","_law_first","_law_least"] (zac s_52):=⟨rfl,rfl,rfl,by decide +kernel,rfl,by decide +kernel,by decide +kernel⟩
abbrev s_63:Stmt:=top 61
theorem sc_63:zao ["_law_cell"] ["_law_cell"] (zac s_63):=⟨rfl,rfl,rfl,by decide +kernel,rfl,by decide +kernel,by decide +kernel⟩
abbrev s_24:Stmt:=za2 (top 43) 0
theorem sc_24:zao ["self"] ["self"] (zac s_24):=⟨rfl,rfl,rfl,by decide +kernel,rfl,by decide +kernel,by decide +kernel⟩
abbrev s_39:Stmt:=za2 (top 43) 15
theorem sc_39:zao ["self"] ["self"] (zac s_39):=⟨rfl,rfl,rfl,by decide +kernel,rfl,by decide +kernel,by decide +kernel⟩
abbrev s_21:Stmt:=top 38
theorem sc_21:zao ["number","most"] ["number","most"] (zac s_21):=⟨rfl,rfl,rfl,by decide +kernel,rfl,by decide +kernel,by decide +kernel⟩
abbrev s_27:Stmt:=za2 (top 43) 3
theorem sc_27:zao ["self","step"] ["self","step"] (zac s_27):=⟨rfl,rfl,rfl,by decide +kernel,rfl,by decide +kernel,by decide +kernel⟩
abbrev s_20:Stmt:=top 37
theorem sc_20:zao ["number","least","most"] ["number","least","most"] (zac s_20):=⟨rfl,rfl,rfl,by decide +kernel,rfl,by decide +kernel,by decide +kernel⟩
abbrev s_22:Stmt:=top 39
theorem sc_22:zao ["many","most"] ["many","most"] (zac s_22):=⟨rfl,rfl,rfl,by decide +kernel,rfl,by decide +kernel,by decide +kernel⟩
abbrev s_25:Stmt:=za2 (top 43) 1
theorem sc_25:zao ["self","house"] ["self","house"] (zac s_25):=⟨rfl,rfl,rfl,by decide +kernel,rfl,by decide +kernel,by decide +kernel⟩
abbrev s_26:Stmt:=za2 (top 43) 2
theorem sc_26:zao ["self","house","limit"] ["self","house","limit"] (zac s_26):=⟨rfl,rfl,rfl,by decide +kernel,rfl,by decide +kernel,by decide +kernel⟩
abbrev s_55:Stmt:=top 53
theorem sc_55:zao ["_law_homes","_law_staff","_law_step_here","_law_turn","_law_exam_here","_law_house","_law_one"] ["_law_homes","_law_staff","_law_step_here","_law_turn"] (zac s_55):=⟨rfl,rfl,rfl,by decide +kernel,rfl,by decide +kernel,by decide +kernel⟩
abbrev s_49:Stmt:=top 47
theorem sc_49:zao ["_law_found","_law_due"] ["_law_found","_law_due"] (zac s_49):=⟨rfl,rfl,rfl,by decide +kernel,rfl,by decide +kernel,by decide +kernel⟩
abbrev s_12:Stmt:=top 20
theorem sc_12:zao ["numbers","pairs","place","first","second"] ["numbers"] (zac s_12):=⟨rfl,rfl,rfl,by decide +kernel,rfl,by decide +kernel,by decide +kernel⟩
abbrev s_1:Stmt:=top 2
theorem sc_1:zao ["papers","readers","paper","reader","reader_house"] ["papers","readers","paper","reader"] (zac s_1):=⟨rfl,rfl,rfl,by decide +kernel,rfl,by decide +kernel,by decide +kernel⟩
abbrev s_2:Stmt:=top 3
theorem sc_2:zao ["papers","readers","paper"] ["papers","readers","paper"] (zac s_2):=⟨rfl,rfl,rfl,by decide +kernel,rfl,by decide +kernel,by decide +kernel⟩
abbrev s_9:Stmt:=top 17
theorem sc_9:zao ["rows","reader"] ["rows","reader"] (zac s_9):=⟨rfl,rfl,rfl,by decide +kernel,rfl,by decide +kernel,by decide +kernel⟩
abbrev s_8:Stmt:=top 16
theorem sc_8:zao ["readers","rows"] ["readers","rows"] (zac s_8):=⟨rfl,rfl,rfl,by decide +kernel,rfl,by decide +kernel,by decide +kernel⟩
abbrev s_7:Stmt:=top 15
theorem sc_7:zao ["readers","rows"] ["readers","rows"] (zac s_7):=⟨rfl,rfl,rfl,by decide +kernel,rfl,by decide +kernel,by decide +kernel⟩
abbrev s_Attempt___init__:Stmt:=za2 (top 13) 0
theorem sc_Attempt___init__:zao ["self","papers","readers"] ["self","papers","readers"] (zac s_Attempt___init__):=⟨rfl,rfl,rfl,by decide +kernel,rfl,by decide +kernel,by decide +kernel⟩
abbrev s_Attempt_free_reading:Stmt:=za2 (top 13) 2
theorem sc_Attempt_free_reading:zao ["self","reader","asked","paper"] ["self","reader","asked"] (zac s_Attempt_free_reading):=⟨rfl,rfl,rfl,by decide +kernel,rfl,by decide +kernel,by decide +kernel⟩
abbrev s_Attempt_find_reader:Stmt:=za2 (top 13) 1
theorem sc_Attempt_find_reader:zao ["self","paper","asked","reader"] ["self","paper","asked"] (zac s_Attempt_find_reader):=⟨rfl,rfl,rfl,by decide +kernel,rfl,by decide +kernel,by decide +kernel⟩
abbrev s_3:Stmt:=top 12
theorem sc_3:zao ["papers","readers","attempt","paper","turn"] ["papers","readers"] (zac s_3):=⟨rfl,rfl,rfl,by decide +kernel,rfl,by decide +kernel,by decide +kernel⟩
abbrev s_14:Stmt:=top 22
theorem sc_14:zao ["readers","limits"] ["readers","limits"] (zac s_14):=⟨rfl,rfl,rfl,by decide +kernel,rfl,by decide +kernel,by decide +kernel⟩
abbrev s_13:Stmt:=top 21
theorem sc_13:zao ["papers","readers","rows"] ["papers","readers","rows"] (zac s_13):=⟨rfl,rfl,rfl,by decide +kernel,rfl,by decide +kernel,by decide +kernel⟩
abbrev s_11:Stmt:=top 19
theorem sc_11:zao ["papers","readers","rows","paper","row"] ["papers","readers","rows"] (zac s_11):=⟨rfl,rfl,rfl,by decide +kernel,rfl,by decide +kernel,by decide +kernel⟩
abbrev s_10:Stmt:=top 18
theorem sc_10:zao ["papers","readers","rows","row"] ["papers","readers"] (zac s_10):=⟨rfl,rfl,rfl,by decide +kernel,rfl,by decide +kernel,by decide +kernel⟩
abbrev s_28:Stmt:=za2 (top 43) 4
theorem sc_28:zao ["self","rows"] ["self"] (zac s_28):=⟨rfl,rfl,rfl,by decide +kernel,rfl,by decide +kernel,by decide +kernel⟩
abbrev s_34:Stmt:=za2 (top 43) 10
theorem sc_34:zao ["self"] ["self"] (zac s_34):=⟨rfl,rfl,rfl,by decide +kernel,rfl,by decide +kernel,by decide +kernel⟩
abbrev s_48:Stmt:=top 46
theorem sc_48:zao ["_law_found"] ["_law_found"] (zac s_48):=⟨rfl,rfl,rfl,by decide +kernel,rfl,by decide +kernel,by decide +kernel⟩
abbrev s_50:Stmt:=top 48
theorem sc_50:zao ["_law_found","_law_due","_law_k"] ["_law_found","_law_due"] (zac s_50):=⟨rfl,rfl,rfl,by decide +kernel,rfl,by decide +kernel,by decide +kernel⟩
abbrev s_51:Stmt:=top 49
theorem sc_51:zao ["_law_found","_law_due","_law_k"] ["_law_found","_law_due"] (zac s_51):=⟨rfl,rfl,rfl,by decide +kernel,rfl,by decide +kernel,by decide +kernel⟩
abbrev s_53:Stmt:=top 51
theorem sc_53:zao ["_law_staff","_law_house","_law_row_here","_law_one"] ["_law_staff","_law_house","_law_row_here"] (zac s_53):=⟨rfl,rfl,rfl,by decide +kernel,rfl,by decide +kernel,by decide +kernel⟩
abbrev s_54:Stmt:=top 52
theorem sc_54:zao ["_law_homes","_law_staff","_law_rows_here","_law_k"] ["_law_homes","_law_staff","_law_rows_here"] (zac s_54):=⟨rfl,rfl,rfl,by decide +kernel,rfl,by decide +kernel,by decide +kernel⟩
abbrev s_62:Stmt:=top 60
theorem sc_62:zao ["_law_cell","_law_step_here","_law_given_here","_law_points_here","_law_known","_law_edge"] ["_law_cell","_law_step_here","_law_given_here"] (zac s_62):=⟨rfl,rfl,rfl,by decide +kernel,rfl,by decide +kernel,by decide +kernel⟩
abbrev s_65:Stmt:=top 63
theorem sc_65:zao ["_law_script","_law_step_here","_law_many","_law_made","_law_k","_law_cell","_law_one","_law_two"] ["_law_script","_law_step_here","_law_many"] (zac s_65):=⟨rfl,rfl,rfl,by decide +kernel,rfl,by decide +kernel,by decide +kernel⟩
abbrev s_56:Stmt:=top 54
theorem sc_56:zao ["_law_names","_law_entries","_law_paper","_law_found","_law_reader","_law_points_here","_law_one"] ["_law_names","_law_entries","_law_paper"] (zac s_56):=⟨rfl,rfl,rfl,by decide +kernel,rfl,by decide +kernel,by decide +kernel⟩
abbrev s_57:Stmt:=top 55
theorem sc_57:zao ["_law_names","_law_entries","_law_rows_here","_law_k","_law_given_here","_law_wanted","_law_reader"] ["_law_names","_law_entries"] (zac s_57):=⟨rfl,rfl,rfl,by decide +kernel,rfl,by decide +kernel,by decide +kernel⟩
abbrev s_59:Stmt:=top 57
theorem sc_59:zao ["_law_staff","_law_names","_law_left","_law_k"] ["_law_staff","_law_names"] (zac s_59):=⟨rfl,rfl,rfl,by decide +kernel,rfl,by decide +kernel,by decide +kernel⟩
abbrev s_60:Stmt:=top 58
theorem sc_60:zao ["_law_homes","_law_staff","_law_names","_law_paper","_law_left","_law_k","_law_fresh"] ["_law_homes","_law_staff","_law_names","_law_paper"] (zac s_60):=⟨rfl,rfl,rfl,by decide +kernel,rfl,by decide +kernel,by decide +kernel⟩
abbrev s_61:Stmt:=top 59
theorem sc_61:zao ["_law_homes","_law_staff","_law_step_here","_law_names","_law_entries","_law_one","_law_given_here","_law_third_here"] ["_law_homes","_law_staff","_law_step_here","_law_names","_law_entries","_law_one"] (zac s_61):=⟨rfl,rfl,rfl,by decide +kernel,rfl,by decide +kernel,by decide +kernel⟩
abbrev s_66:Stmt:=top 64
theorem sc_66:zao ["_law_script","_law_homes","_law_staff","_law_step_here","_law_names","_law_table_here","_law_entries","_law_k","_law_waiting_here","_law_one","_law_spot"] ["_law_script","_law_homes","_law_staff","_law_step_here","_law_names","_law_table_here"] (zac s_66):=⟨rfl,rfl,rfl,by decide +kernel,rfl,by decide +kernel,by decide +kernel⟩
abbrev s_40:Stmt:=za2 (top 43) 16
theorem sc_40:zao ["self"] ["self"] (zac s_40):=⟨rfl,rfl,rfl,by decide +kernel,rfl,by decide +kernel,by decide +kernel⟩
abbrev s_42:Stmt:=za2 (top 43) 18
theorem sc_42:zao ["self","paper","entered"] ["self","paper"] (zac s_42):=⟨rfl,rfl,rfl,by decide +kernel,rfl,by decide +kernel,by decide +kernel⟩
abbrev s_41:Stmt:=za2 (top 43) 17
theorem sc_41:zao ["self","paper","reader"] ["self","paper","reader"] (zac s_41):=⟨rfl,rfl,rfl,by decide +kernel,rfl,by decide +kernel,by decide +kernel⟩
abbrev s_43:Stmt:=za2 (top 43) 19
theorem sc_43:zao ["self","paper","entered"] ["self","paper"] (zac s_43):=⟨rfl,rfl,rfl,by decide +kernel,rfl,by decide +kernel,by decide +kernel⟩
abbrev s_17:Stmt:=top 33
theorem sc_17:zao ["one","other","step"] ["one","other","step"] (zac s_17):=⟨rfl,rfl,rfl,by decide +kernel,rfl,by decide +kernel,by decide +kernel⟩
abbrev s_46:Stmt:=za2 (top 43) 22
theorem sc_46:zao ["self","paper","points"] ["self","paper"] (zac s_46):=⟨rfl,rfl,rfl,by decide +kernel,rfl,by decide +kernel,by decide +kernel⟩
abbrev s_23:Stmt:=top 41
theorem sc_23:zao ["papers","readers","left","paper","row","reader"] ["papers","readers","left","paper","row"] (zac s_23):=⟨rfl,rfl,rfl,by decide +kernel,rfl,by decide +kernel,by decide +kernel⟩
abbrev s_38:Stmt:=za2 (top 43) 14
theorem sc_38:zao ["self"] ["self"] (zac s_38):=⟨rfl,rfl,rfl,by decide +kernel,rfl,by decide +kernel,by decide +kernel⟩
abbrev s_45:Stmt:=za2 (top 43) 21
theorem sc_45:zao ["self","paper","named","third"] ["self","paper"] (zac s_45):=⟨rfl,rfl,rfl,by decide +kernel,rfl,by decide +kernel,by decide +kernel⟩
abbrev s_29:Stmt:=za2 (top 43) 5
theorem sc_29:zao ["self","paper","reader","points"] ["self","paper","reader","points"] (zac s_29):=⟨rfl,rfl,rfl,by decide +kernel,rfl,by decide +kernel,by decide +kernel⟩
abbrev s_68:Stmt:=top 66
theorem sc_68:zao ["_law_exam_here","_law_entries","_law_one","_law_found"] ["_law_exam_here","_law_entries"] (zac s_68):=⟨rfl,rfl,rfl,by decide +kernel,rfl,by decide +kernel,by decide +kernel⟩
abbrev s_67:Stmt:=top 65
theorem sc_67:zao ["_law_script","_law_step_here","_law_table_here","_law_entries","_law_apart","_law_calm","_law_made","_law_k","_law_cell"] ["_law_script","_law_step_here","_law_table_here","_law_entries"] (zac s_67):=⟨rfl,rfl,rfl,by decide +kernel,rfl,by decide +kernel,by decide +kernel⟩
abbrev s_36:Stmt:=za2 (top 43) 12
theorem sc_36:zao ["self","rows","paper"] ["self"] (zac s_36):=⟨rfl,rfl,rfl,by decide +kernel,rfl,by decide +kernel,by decide +kernel⟩
abbrev s_58:Stmt:=top 56
theorem sc_58:zao ["_law_given_here","_law_step_here"] ["_law_given_here","_law_step_here"] (zac s_58):=⟨rfl,rfl,rfl,by decide +kernel,rfl,by decide +kernel,by decide +kernel⟩
abbrev s_64:Stmt:=top 62
theorem sc_64:zao ["_law_found","_law_names","_law_entries","_law_step_here","_law_k","_law_given_here","_law_readings"] ["_law_found","_law_names","_law_entries","_law_step_here"] (zac s_64):=⟨rfl,rfl,rfl,by decide +kernel,rfl,by decide +kernel,by decide +kernel⟩
abbrev s_16:Stmt:=top 32
theorem sc_16:zao ["one","other","divisor","rest","next_rest"] ["one","other"] (zac s_16):=⟨rfl,rfl,rfl,by decide +kernel,rfl,by decide +kernel,by decide +kernel⟩
abbrev s_15:Stmt:=top 31
theorem sc_15:zao ["top","bottom","divisor"] ["top","bottom"] (zac s_15):=⟨rfl,rfl,rfl,by decide +kernel,rfl,by decide +kernel,by decide +kernel⟩
abbrev s_19:Stmt:=top 35
theorem sc_19:zao ["points"] ["points"] (zac s_19):=⟨rfl,rfl,rfl,by decide +kernel,rfl,by decide +kernel,by decide +kernel⟩
abbrev s_18:Stmt:=top 34
theorem sc_18:zao ["points","step"] ["points","step"] (zac s_18):=⟨rfl,rfl,rfl,by decide +kernel,rfl,by decide +kernel,by decide +kernel⟩
abbrev s_44:Stmt:=za2 (top 43) 20
theorem sc_44:zao ["self","paper","points","readings"] ["self","paper"] (zac s_44):=⟨rfl,rfl,rfl,by decide +kernel,rfl,by decide +kernel,by decide +kernel⟩
abbrev s_37:Stmt:=za2 (top 43) 13
theorem sc_37:zao ["self"] ["self"] (zac s_37):=⟨rfl,rfl,rfl,by decide +kernel,rfl,by decide +kernel,by decide +kernel⟩
abbrev s_69:Stmt:=top 67
theorem sc_69:zao ["_law_script","_law_made","_law_step_here","_law_first","_law_second","_law_names","_law_table_here","_law_entries","_law_exam_here"] ["_law_script"] (zac s_69):=⟨rfl,rfl,rfl,by decide +kernel,rfl,by decide +kernel,by decide +kernel⟩
set_option genInjectivity false in
set_option genSizeOf false in
structure Adr where
 f_47:Addr
 d_47:FuncData
 f_52:Addr
 d_52:FuncData
 f_63:Addr
 d_63:FuncData
 f_24:Addr
 d_24:FuncData
 f_39:Addr
 d_39:FuncData
 f_21:Addr
 d_21:FuncData
 f_27:Addr
 d_27:FuncData
 f_20:Addr
 d_20:FuncData
 f_22:Addr
 d_22:FuncData
 f_25:Addr
 d_25:FuncData
 f_26:Addr
 d_26:FuncData
 f_55:Addr
 d_55:FuncData
 f_49:Addr
 d_49:FuncData
 f_12:Addr
 d_12:FuncData
 f_1:Addr
 d_1:FuncData
 f_2:Addr
 d_2:FuncData
 f_9:Addr
 d_9:FuncData
 f_8:Addr
 d_8:FuncData
 f_7:Addr
 d_7:FuncData
 f_Attempt___init__:Addr
 d_Attempt___init__:FuncData
 f_Attempt_free_reading:Addr
 d_Attempt_free_reading:FuncData
 f_Attempt_find_reader:Addr
 d_Attempt_find_reader:FuncData
 f_3:Addr
 d_3:FuncData
 f_14:Addr
 d_14:FuncData
 f_13:Addr
 d_13:FuncData
 f_11:Addr
 d_11:FuncData
 f_10:Addr
 d_10:FuncData
 f_28:Addr
 d_28:FuncData
 f_34:Addr
 d_34:FuncData
 f_48:Addr
 d_48:FuncData
 f_50:Addr
 d_50:FuncData
 f_51:Addr
 d_51:FuncData
 f_53:Addr
 d_53:FuncData
 f_54:Addr
 d_54:FuncData
 f_62:Addr
 d_62:FuncData
 f_65:Addr
 d_65:FuncData
 f_56:Addr
 d_56:FuncData
 f_57:Addr
 d_57:FuncData
 f_59:Addr
 d_59:FuncData
 f_60:Addr
 d_60:FuncData
 f_61:Addr
 d_61:FuncData
 f_66:Addr
 d_66:FuncData
 f_40:Addr
 d_40:FuncData
 f_42:Addr
 d_42:FuncData
 f_41:Addr
 d_41:FuncData
 f_43:Addr
 d_43:FuncData
 f_17:Addr
 d_17:FuncData
 f_46:Addr
 d_46:FuncData
 f_23:Addr
 d_23:FuncData
 f_38:Addr
 d_38:FuncData
 f_45:Addr
 d_45:FuncData
 f_29:Addr
 d_29:FuncData
 f_68:Addr
 d_68:FuncData
 f_67:Addr
 d_67:FuncData
 f_36:Addr
 d_36:FuncData
 f_58:Addr
 d_58:FuncData
 f_64:Addr
 d_64:FuncData
 f_16:Addr
 d_16:FuncData
 f_15:Addr
 d_15:FuncData
 f_19:Addr
 d_19:FuncData
 f_18:Addr
 d_18:FuncData
 f_44:Addr
 d_44:FuncData
 f_37:Addr
 d_37:FuncData
 f_69:Addr
 d_69:FuncData
 C_Attempt:Addr
 C_Exam:Addr
 k_READERS_EACH:Value
 k_MOST_HOUSES:Value
 k_MOST_PAPERS:Value
 k_MOST_LIMIT:Value
 k_MOST_READERS:Value
 k_MOST_STEP:Value
 k_MOST_POINTS:Value
set_option genInjectivity false in
set_option genSizeOf false in
structure Txt (K:PySem.W.Frag) (mg:Str→Option Value) (t:Adr):Prop where
 F_47:Fun K "_law_at" "_law_at" s_47 t.f_47 t.d_47
 b_47:Binds K t.d_47 ["_law_script","_law_k"] []
 m_47:mg "_law_at" = some (.ref t.f_47)
 F_52:Fun K "_law_planted" "_law_planted" s_52 t.f_52 t.d_52
 b_52:Binds K t.d_52 ["_law_script","_law_first","_law_least"] []
 m_52:mg "_law_planted" = some (.ref t.f_52)
 F_63:Fun K "_law_step" "_law_step" s_63 t.f_63 t.d_63
 b_63:Binds K t.d_63 ["_law_cell"] []
 m_63:mg "_law_step" = some (.ref t.f_63)
 F_24:Fun K "__init__" "Exam.__init__" s_24 t.f_24 t.d_24
 b_24:Binds K t.d_24 ["self"] []
 mk_Exam:Mk K t.C_Exam t.f_24
 F_39:Fun K "refuse_behind_dealing" "Exam.refuse_behind_dealing" s_39 t.f_39 t.d_39
 b_39:Binds K t.d_39 ["self"] []
 me_39:Meth K t.C_Exam "refuse_behind_dealing" t.f_39
 F_21:Fun K "refuse_out_of_bounds" "refuse_out_of_bounds" s_21 t.f_21 t.d_21
 b_21:Binds K t.d_21 ["number","most"] []
 m_21:mg "refuse_out_of_bounds" = some (.ref t.f_21)
 F_27:Fun K "set_step" "Exam.set_step" s_27 t.f_27 t.d_27
 b_27:Binds K t.d_27 ["self","step"] []
 me_27:Meth K t.C_Exam "set_step" t.f_27
 F_20:Fun K "refuse_unknown" "refuse_unknown" s_20 t.f_20 t.d_20
 b_20:Binds K t.d_20 ["number","least","most"] []
 m_20:mg "refuse_unknown" = some (.ref t.f_20)
 F_22:Fun K "refuse_full" "refuse_full" s_22 t.f_22 t.d_22
 b_22:Binds K t.d_22 ["many","most"] []
 m_22:mg "refuse_full" = some (.ref t.f_22)
 F_25:Fun K "bring_paper" "Exam.bring_paper" s_25 t.f_25 t.d_25
 b_25:Binds K t.d_25 ["self","house"] []
 me_25:Meth K t.C_Exam "bring_paper" t.f_25
 F_26:Fun K "bring_reader" "Exam.bring_reader" s_26 t.f_26 t.d_26
 b_26:Binds K t.d_26 ["self","house","limit"] []
 me_26:Meth K t.C_Exam "bring_reader" t.f_26
 F_55:Fun K "_law_exam" "_law_exam" s_55 t.f_55 t.d_55
 b_55:Binds K t.d_55 ["_law_homes","_law_staff","_law_step_here","_law_turn"] []
 m_55:mg "_law_exam" = some (.ref t.f_55)
 F_49:Fun K "_law_truth" "_law_truth" s_49 t.f_49 t.d_49
 b_49:Binds K t.d_49 ["_law_found","_law_due"] []
 m_49:mg "_law_truth" = some (.ref t.f_49)
 F_12:Fun K "pairs_of" "pairs_of" s_12 t.f_12 t.d_12
 b_12:Binds K t.d_12 ["numbers"] []
 m_12:mg "pairs_of" = some (.ref t.f_12)
 F_1:Fun K "may_read" "may_read" s_1 t.f_1 t.d_1
 b_1:Binds K t.d_1 ["papers","readers","paper","reader"] []
 m_1:mg "may_read" = some (.ref t.f_1)
 F_2:Fun K "readers_for" "readers_for" s_2 t.f_2 t.d_2
 b_2:Binds K t.d_2 ["papers","readers","paper"] []
 m_2:mg "readers_for" = some (.ref t.f_2)
 F_9:Fun K "times_in" "times_in" s_9 t.f_9 t.d_9
 b_9:Binds K t.d_9 ["rows","reader"] []
 m_9:mg "times_in" = some (.ref t.f_9)
 F_8:Fun K "left_after" "left_after" s_8 t.f_8 t.d_8
 b_8:Binds K t.d_8 ["readers","rows"] []
 m_8:mg "left_after" = some (.ref t.f_8)
 F_7:Fun K "keeps_to_limits" "keeps_to_limits" s_7 t.f_7 t.d_7
 b_7:Binds K t.d_7 ["readers","rows"] []
 m_7:mg "keeps_to_limits" = some (.ref t.f_7)
 F_Attempt___init__:Fun K "__init__" "Attempt.__init__" s_Attempt___init__ t.f_Attempt___init__ t.d_Attempt___init__
 b_Attempt___init__:Binds K t.d_Attempt___init__ ["self","papers","readers"] []
 mk_Attempt:Mk K t.C_Attempt t.f_Attempt___init__
 F_Attempt_free_reading:Fun K "free_reading" "Attempt.free_reading" s_Attempt_free_reading t.f_Attempt_free_reading t.d_Attempt_free_reading
 b_Attempt_free_reading:Binds K t.d_Attempt_free_reading ["self","reader","asked"] []
 me_Attempt_free_reading:Meth K t.C_Attempt "free_reading" t.f_Attempt_free_reading
 F_Attempt_find_reader:Fun K "find_reader" "Attempt.find_reader" s_Attempt_find_reader t.f_Attempt_find_reader t.d_Attempt_find_reader
 b_Attempt_find_reader:Binds K t.d_Attempt_find_reader ["self","paper","asked"] []
 me_Attempt_find_reader:Meth K t.C_Attempt "find_reader" t.f_Attempt_find_reader
 F_3:Fun K "readers_suffice" "readers_suffice" s_3 t.f_3 t.d_3
 b_3:Binds K t.d_3 ["papers","readers"] []
 m_3:mg "readers_suffice" = some (.ref t.f_3)
 F_14:Fun K "with_limits" "with_limits" s_14 t.f_14 t.d_14
 b_14:Binds K t.d_14 ["readers","limits"] []
 m_14:mg "with_limits" = some (.ref t.f_14)
 F_13:Fun K "can_go_on" "can_go_on" s_13 t.f_13 t.d_13
 b_13:Binds K t.d_13 ["papers","readers","rows"] []
 m_13:mg "can_go_on" = some (.ref t.f_13)
 F_11:Fun K "first_row_behind" "first_row_behind" s_11 t.f_11 t.d_11
 b_11:Binds K t.d_11 ["papers","readers","rows"] []
 m_11:mg "first_row_behind" = some (.ref t.f_11)
 F_10:Fun K "first_dealing" "first_dealing" s_10 t.f_10 t.d_10
 b_10:Binds K t.d_10 ["papers","readers"] []
 m_10:mg "first_dealing" = some (.ref t.f_10)
 F_28:Fun K "deal" "Exam.deal" s_28 t.f_28 t.d_28
 b_28:Binds K t.d_28 ["self"] []
 me_28:Meth K t.C_Exam "deal" t.f_28
 F_34:Fun K "dealing" "Exam.dealing" s_34 t.f_34 t.d_34
 b_34:Binds K t.d_34 ["self"] []
 me_34:Meth K t.C_Exam "dealing" t.f_34
 F_48:Fun K "_law_whole" "_law_whole" s_48 t.f_48 t.d_48
 b_48:Binds K t.d_48 ["_law_found"] []
 m_48:mg "_law_whole" = some (.ref t.f_48)
 F_50:Fun K "_law_row" "_law_row" s_50 t.f_50 t.d_50
 b_50:Binds K t.d_50 ["_law_found","_law_due"] []
 m_50:mg "_law_row" = some (.ref t.f_50)
 F_51:Fun K "_law_rows" "_law_rows" s_51 t.f_51 t.d_51
 b_51:Binds K t.d_51 ["_law_found","_law_due"] []
 m_51:mg "_law_rows" = some (.ref t.f_51)
 F_53:Fun K "_law_pair" "_law_pair" s_53 t.f_53 t.d_53
 b_53:Binds K t.d_53 ["_law_staff","_law_house","_law_row_here"] []
 m_53:mg "_law_pair" = some (.ref t.f_53)
 F_54:Fun K "_law_right" "_law_right" s_54 t.f_54 t.d_54
 b_54:Binds K t.d_54 ["_law_homes","_law_staff","_law_rows_here"] []
 m_54:mg "_law_right" = some (.ref t.f_54)
 F_62:Fun K "_law_points" "_law_points" s_62 t.f_62 t.d_62
 b_62:Binds K t.d_62 ["_law_cell","_law_step_here","_law_given_here"] []
 m_62:mg "_law_points" = some (.ref t.f_62)
 F_65:Fun K "_law_table" "_law_table" s_65 t.f_65 t.d_65
 b_65:Binds K t.d_65 ["_law_script","_law_step_here","_law_many"] []
 m_65:mg "_law_table" = some (.ref t.f_65)
 F_56:Fun K "_law_given" "_law_given" s_56 t.f_56 t.d_56
 b_56:Binds K t.d_56 ["_law_names","_law_entries","_law_paper"] []
 m_56:mg "_law_given" = some (.ref t.f_56)
 F_57:Fun K "_law_waiting" "_law_waiting" s_57 t.f_57 t.d_57
 b_57:Binds K t.d_57 ["_law_names","_law_entries"] []
 m_57:mg "_law_waiting" = some (.ref t.f_57)
 F_59:Fun K "_law_spare" "_law_spare" s_59 t.f_59 t.d_59
 b_59:Binds K t.d_59 ["_law_staff","_law_names"] []
 m_59:mg "_law_spare" = some (.ref t.f_59)
 F_60:Fun K "_law_third" "_law_third" s_60 t.f_60 t.d_60
 b_60:Binds K t.d_60 ["_law_homes","_law_staff","_law_names","_law_paper"] []
 m_60:mg "_law_third" = some (.ref t.f_60)
 F_61:Fun K "_law_then" "_law_then" s_61 t.f_61 t.d_61
 b_61:Binds K t.d_61 ["_law_homes","_law_staff","_law_step_here","_law_names","_law_entries","_law_one"] []
 m_61:mg "_law_then" = some (.ref t.f_61)
 F_66:Fun K "_law_first_order" "_law_first_order" s_66 t.f_66 t.d_66
 b_66:Binds K t.d_66 ["_law_script","_law_homes","_law_staff","_law_step_here","_law_names","_law_table_here"] []
 m_66:mg "_law_first_order" = some (.ref t.f_66)
 F_40:Fun K "refuse_ahead_of_dealing" "Exam.refuse_ahead_of_dealing" s_40 t.f_40 t.d_40
 b_40:Binds K t.d_40 ["self"] []
 me_40:Meth K t.C_Exam "refuse_ahead_of_dealing" t.f_40
 F_42:Fun K "due_readers" "Exam.due_readers" s_42 t.f_42 t.d_42
 b_42:Binds K t.d_42 ["self","paper"] []
 me_42:Meth K t.C_Exam "due_readers" t.f_42
 F_41:Fun K "refuse_not_due" "Exam.refuse_not_due" s_41 t.f_41 t.d_41
 b_41:Binds K t.d_41 ["self","paper","reader"] []
 me_41:Meth K t.C_Exam "refuse_not_due" t.f_41
 F_43:Fun K "points_for" "Exam.points_for" s_43 t.f_43 t.d_43
 b_43:Binds K t.d_43 ["self","paper"] []
 me_43:Meth K t.C_Exam "points_for" t.f_43
 F_17:Fun K "agree" "agree" s_17 t.f_17 t.d_17
 b_17:Binds K t.d_17 ["one","other","step"] []
 m_17:mg "agree" = some (.ref t.f_17)
 F_46:Fun K "needs_third" "Exam.needs_third" s_46 t.f_46 t.d_46
 b_46:Binds K t.d_46 ["self","paper"] []
 me_46:Meth K t.C_Exam "needs_third" t.f_46
 F_23:Fun K "third_for" "third_for" s_23 t.f_23 t.d_23
 b_23:Binds K t.d_23 ["papers","readers","left","paper","row"] []
 m_23:mg "third_for" = some (.ref t.f_23)
 F_38:Fun K "left" "Exam.left" s_38 t.f_38 t.d_38
 b_38:Binds K t.d_38 ["self"] []
 me_38:Meth K t.C_Exam "left" t.f_38
 F_45:Fun K "name_third" "Exam.name_third" s_45 t.f_45 t.d_45
 b_45:Binds K t.d_45 ["self","paper"] []
 me_45:Meth K t.C_Exam "name_third" t.f_45
 F_29:Fun K "enter" "Exam.enter" s_29 t.f_29 t.d_29
 b_29:Binds K t.d_29 ["self","paper","reader","points"] []
 me_29:Meth K t.C_Exam "enter" t.f_29
 F_68:Fun K "_law_entered" "_law_entered" s_68 t.f_68 t.d_68
 b_68:Binds K t.d_68 ["_law_exam_here","_law_entries"] []
 m_68:mg "_law_entered" = some (.ref t.f_68)
 F_67:Fun K "_law_second_order" "_law_second_order" s_67 t.f_67 t.d_67
 b_67:Binds K t.d_67 ["_law_script","_law_step_here","_law_table_here","_law_entries"] []
 m_67:mg "_law_second_order" = some (.ref t.f_67)
 F_36:Fun K "due" "Exam.due" s_36 t.f_36 t.d_36
 b_36:Binds K t.d_36 ["self"] []
 me_36:Meth K t.C_Exam "due" t.f_36
 F_58:Fun K "_law_mark" "_law_mark" s_58 t.f_58 t.d_58
 b_58:Binds K t.d_58 ["_law_given_here","_law_step_here"] []
 m_58:mg "_law_mark" = some (.ref t.f_58)
 F_64:Fun K "_law_all_marked" "_law_all_marked" s_64 t.f_64 t.d_64
 b_64:Binds K t.d_64 ["_law_found","_law_names","_law_entries","_law_step_here"] []
 m_64:mg "_law_all_marked" = some (.ref t.f_64)
 F_16:Fun K "greatest_divisor" "greatest_divisor" s_16 t.f_16 t.d_16
 b_16:Binds K t.d_16 ["one","other"] []
 m_16:mg "greatest_divisor" = some (.ref t.f_16)
 F_15:Fun K "lowest" "lowest" s_15 t.f_15 t.d_15
 b_15:Binds K t.d_15 ["top","bottom"] []
 m_15:mg "lowest" = some (.ref t.f_15)
 F_19:Fun K "middle_of" "middle_of" s_19 t.f_19 t.d_19
 b_19:Binds K t.d_19 ["points"] []
 m_19:mg "middle_of" = some (.ref t.f_19)
 F_18:Fun K "mark_of" "mark_of" s_18 t.f_18 t.d_18
 b_18:Binds K t.d_18 ["points","step"] []
 m_18:mg "mark_of" = some (.ref t.f_18)
 F_44:Fun K "mark_for" "Exam.mark_for" s_44 t.f_44 t.d_44
 b_44:Binds K t.d_44 ["self","paper"] []
 me_44:Meth K t.C_Exam "mark_for" t.f_44
 F_37:Fun K "marks" "Exam.marks" s_37 t.f_37 t.d_37
 b_37:Binds K t.d_37 ["self"] []
 me_37:Meth K t.C_Exam "marks" t.f_37
 F_69:Fun K "law" "law" s_69 t.f_69 t.d_69
 b_69:Binds K t.d_69 ["_law_script"] []
 m_69:mg "law" = some (.ref t.f_69)
 cl_Attempt:Cls K t.C_Attempt
 mg_Attempt:mg "Attempt" = some (.ref t.C_Attempt)
 n_Attempt_allowed:zbE K t.C_Attempt "allowed"
 n_Attempt_given:zbE K t.C_Attempt "given"
 n_Attempt_spare:zbE K t.C_Attempt "spare"
 cl_Exam:Cls K t.C_Exam
 mg_Exam:mg "Exam" = some (.ref t.C_Exam)
 n_Exam_paper_houses:zbE K t.C_Exam "paper_houses"
 n_Exam_reader_rows:zbE K t.C_Exam "reader_rows"
 n_Exam_widest_step:zbE K t.C_Exam "widest_step"
 n_Exam_is_dealt:zbE K t.C_Exam "is_dealt"
 n_Exam_named_readers:zbE K t.C_Exam "named_readers"
 n_Exam_entered_points:zbE K t.C_Exam "entered_points"
 v_READERS_EACH:mg "READERS_EACH" = some t.k_READERS_EACH
 w_READERS_EACH:RelV (.int 2) t.k_READERS_EACH
 v_MOST_HOUSES:mg "MOST_HOUSES" = some t.k_MOST_HOUSES
 w_MOST_HOUSES:RelV (.int 6) t.k_MOST_HOUSES
 v_MOST_PAPERS:mg "MOST_PAPERS" = some t.k_MOST_PAPERS
 w_MOST_PAPERS:RelV (.int 10) t.k_MOST_PAPERS
 v_MOST_LIMIT:mg "MOST_LIMIT" = some t.k_MOST_LIMIT
 w_MOST_LIMIT:RelV (.int 30) t.k_MOST_LIMIT
 v_MOST_READERS:mg "MOST_READERS" = some t.k_MOST_READERS
 w_MOST_READERS:RelV (.int 8) t.k_MOST_READERS
 v_MOST_STEP:mg "MOST_STEP" = some t.k_MOST_STEP
 w_MOST_STEP:RelV (.int 100) t.k_MOST_STEP
 v_MOST_POINTS:mg "MOST_POINTS" = some t.k_MOST_POINTS
 w_MOST_POINTS:RelV (.int 100) t.k_MOST_POINTS
 z_abs:mg "abs" = none
 z_all:mg "all" = none
 z_bool:mg "bool" = none
 z_enumerate:mg "enumerate" = none
 z_int:mg "int" = none
 z_isinstance:mg "isinstance" = none
 z_len:mg "len" = none
 z_list:mg "list" = none
 z_max:mg "max" = none
 z_min:mg "min" = none
 z_range:mg "range" = none
 z_sorted:mg "sorted" = none
 z_sum:mg "sum" = none
 z_zip:mg "zip" = none
end Prf
namespace Prf
open PySem PySem.Spec PyProof.Rows L2
section
variable {P:Program} {w:World} {K:PySem.W.Frag} {mg:Str→Option Value} {base:Heap} {t:Adr}
def zgO (K:PySem.W.Frag):Sp:=fun vs H Q _=>vs.length=2∧∃ (a:Addr) (ns:List Int) (k:Int),vs=[.ref a,.int k]∧SqL K H a (ns.map V.int)∧ns.length≤63∧Q (.int (zbJ ns k)) H
theorem zdc (T:Txt K mg t):FnOk P w K mg base CX0 1 t.f_47 t.d_47 ["_law_script","_law_k"] (zgO K):=by
 refine T.F_47.ok sc_47 (fun _ _ _ _ h=>h.1) fun cdv A outer s H vs Q E hr h=>by
  refine ⟨_,(zab (zaS (zap (zbK (K:=K) rfl hr.units0) (zag (zai (K:=K) rfl) (by rfl) T.z_len (by rfl) (zaa (pv 0) pa_nil)) zad (zaC _))
   (zae (zak zad)) pss_nil)
   (zae (zak (zaq (op_addG) (zaw (zaf (K:=K) rfl) (pv 0) (zaq (op_mod) (pv 1) (zag (zai (K:=K) rfl) (by rfl) T.z_len (by rfl) (zaa (pv 0) pa_nil))) (fun _ _=>rfl)) (zaq (op_fdivB) (pv 1) (zag (zai (K:=K) rfl) (by rfl) T.z_len (by rfl) (zaa (pv 0) pa_nil))))))),?_⟩
  obtain ⟨_,a,ns,k,rfl,hS,hl,q⟩:=h;symm;unfold zbJ at q;refine zbi (fun h0=>?_) (fun h0=>?_)
  ·rw [if_pos h0] at q;symm;exact q
  ·rw [if_neg h0] at q;have h3:(0:Int) < ns.length:=by omega
   symm;refine zeX hS (zdi (Int.emod_nonneg _ h0) (Int.emod_lt_of_pos _ h3)) ?_;symm;exact q
theorem zij {H:Hp} {a:Addr} {ns:List Int} {k:Int} {Q:VK} {E:XK} (h:SqL K H a (ns.map V.int)) (hl:ns.length≤63) (q:Q (.int (zbJ ns k)) H):zgO K [.ref a,.int k] H Q E:=⟨rfl,a,ns,k,rfl,h,hl,q⟩
local macro_rules | `(tactic| walk_at "rd1")=>`(tactic| ((with_reducible refine' zij ?h1 ?h2 ?_);(case h1=>walk_at "hp");(case h2=>omega)))
theorem few3 {k:Int} (h0:0≤k) (h1:k < 3):2≤([6,2,3]:List Int).getD k.toNat 0∧([6,2,3]:List Int).getD k.toNat 0≤6:=by
 have:k=0∨k=1∨k=2:=by omega
 rcases this with rfl | rfl | rfl <;> decide
theorem znZ {k:Int} (h0:0≤k) (h1:k < 3):1≤([31,1,2]:List Int).getD k.toNat 0∧([31,1,2]:List Int).getD k.toNat 0≤31:=by
 have:k=0∨k=1∨k=2:=by omega
 rcases this with rfl | rfl | rfl <;> decide
structure zcF (B:Hp) (p ph ps pr:Addr) (sa ra:List Addr) (hs:List Int) (rs rows:List (List Int)) (H:Hp):Prop where
 same:Same B H
 at_p:H p=some (.lst [.ref ph,.ref ps,.ref pr])
 at_h:H ph=some (.lst (hs.map V.int))
 at_s:H ps=some (.lst (sa.map V.ref))
 at_r:H pr=some (.lst (ra.map V.ref))
 sl:sa.length=rs.length
 rl:ra.length=rows.length
 s_at:∀ i,i < rs.length→H (sa.getD i 0)=some (.lst ((rs.getD i []).map V.int))
 r_at:∀ i,i < rows.length→H (ra.getD i 0)=some (.lst ((rows.getD i []).map V.int))
 apart:(p::ph::ps::pr::(sa++ra)).Nodup
 new:∀ b∈p::ph::ps::pr::(sa++ra),B b=none
theorem zcF.ls {K:PySem.W.Frag} {B H:Hp} {p ph ps pr:Addr} {sa ra:List Addr} {hs:List Int} {rs rows:List (List Int)} (P:zcF B p ph ps pr sa ra hs rs rows H):LL K H ps rs:=⟨sa,SqL.of P.at_s,P.sl,P.s_at⟩
theorem zcF.mono {B H H':Hp} {p ph ps pr:Addr} {sa ra:List Addr} {hs:List Int} {rs rows:List (List Int)} (P:zcF B p ph ps pr sa ra hs rs rows H) (s:Same H H'):zcF B p ph ps pr sa ra hs rs rows H' :=
 ⟨P.same.trans s,s _ _ P.at_p,s _ _ P.at_h,s _ _ P.at_s,s _ _ P.at_r,P.sl,P.rl,fun i hi=>s _ _ (P.s_at i hi),fun i hi=>s _ _ (P.r_at i hi),P.apart,P.new⟩
theorem zcF.nd {B H:Hp} {p ph ps pr:Addr} {sa ra:List Addr} {hs:List Int} {rs rows:List (List Int)} (P:zcF B p ph ps pr sa ra hs rs rows H):(ph::ps::sa).Nodup:=by
 have h:=P.apart;simp only [List.nodup_cons,List.mem_cons,List.mem_append,not_or,List.nodup_append] at h ⊢;exact ⟨⟨h.2.1.1,h.2.1.2.2.1⟩,h.2.2.1.2.1,h.2.2.2.2.1⟩
def stB (hB lB:Nat→Int) (c i:Nat):List (List Int):=(List.range c).map fun j=>[hB j,if j < i then lB j else 0]
theorem zeg {hB lB:Nat→Int} {c i j:Nat} (h:j < c):(stB hB lB c i).getD j []=[hB j,if j < i then lB j else 0]:=zaB h
theorem zcG {hB lB:Nat→Int} {c i:Nat}:(stB hB lB c i).length=c:=by unfold stB;rw [List.length_map,List.length_range]
theorem ziU {least:Int} {c:Nat} {hB lB:Nat→Int} {hs:List Int} {rows:List (List Int)} (c2:2≤c) (c8:c≤8) (l0:least≤hs.length) (l1:hs.length≤10) (hl:rows.length=hs.length) (hP:∀ i,i < hs.length→PRow c hB (hs.getD i 0) (rows.getD i []))
  (hh:∀ j,j < c→0≤hB j∧hB j≤6) (hlim:∀ j,j < c→(cntB rows (0+(j:Int)+1):Int)≤lB j∧lB j≤30):zhk least hs (stB hB lB c c) rows:=by
 refine ⟨⟨l1,by rw [zcG];exact c8,fun i hi=>(hP i hi).rng,fun i hi=>?_,fun i hi=>?_,fun i hi=>?_⟩,by rw [zcG];exact c2,hl,l0,fun i hi=>?_,?_⟩
 ·rw [zcG] at hi;rw [zeg hi];rfl
 ·rw [zcG] at hi;rw [zeg hi];exact hh i hi
 ·rw [zcG] at hi;rw [zeg hi,if_pos hi];have:=hlim i hi;show 0≤lB i∧lB i≤30;omega
 ·obtain ⟨⟨x,y,_,_,e,_⟩,_⟩:=hP i (by omega);rw [e];rfl
 ·unfold zaX;rw [decide_eq_true hl,Bool.true_and,zbe (fun k hk=>(hP k hk).pair zcG fun j hj=>by rw [zeg hj];rfl),Bool.true_and];refine zbe fun k hk=>decide_eq_true ?_;rw [zcG] at hk;rw [zeg hk,if_pos hk];exact (hlim k hk).1
def zdp (K:PySem.W.Frag):Sp:=fun vs H Q _=>vs.length=3∧∃ (a:Addr) (ns:List Int) (first least:Int),vs=[.ref a,.int first,.int least]∧SqL K H a (ns.map V.int)∧ns.length≤63∧0≤least∧least≤10 ∧
 ∀ (p ph ps pr:Addr) (sa ra:List Addr) (hs:List Int) (rs rows:List (List Int)) (H2:Hp),zcF H p ph ps pr sa ra hs rs rows H2→zhk least hs rs rows→Q (.ref p) H2
theorem zfu (T:Txt K mg t):FnOk P w K mg base CX0 2 t.f_52 t.d_52 ["_law_script","_law_first","_law_least"] (zdp K):=by
 have G_47:=zdc (P:=P) (w:=w) (base:=base) T;refine T.F_52.ok sc_52 (fun _ _ _ _ h=>h.1) fun cdv A outer s H vs Q E hr h=>by
  refine ⟨_,(zab (zax (i:=3) sc_52.nd rfl (Or.inl rfl) (zal G_47 (hr.mono (by decide)) (by rfl) T.m_47 T.F_47.kp T.b_47 .nil zau (zaa (pv 0) (zaa (pv 1) pa_nil))))
   (zab (zax (i:=4) sc_52.nd rfl (Or.inl rfl) (zaq (op_addG) zad (zaq (op_mod) (pv 3) zad)))
   (zab (zax (i:=5) sc_52.nd rfl (Or.inr rfl) (zaw (zaf (K:=K) rfl) (zaM (zaa zad (zaa zad (zaa zad pa_nil)))) (zaq (op_mod) (zaq (op_fdivB) (pv 3) zad) zad) (fun _ _=>rfl)))
   (zab (zax (i:=6) sc_52.nd rfl (Or.inl rfl) (zaw (zaf (K:=K) rfl) (zaM (zaa zad (zaa zad (zaa zad pa_nil)))) (zaq (op_mod) (zaq (op_fdivB) (pv 3) zad) zad) (fun _ _=>rfl)))
   (zab (zax (i:=7) sc_52.nd rfl (Or.inr rfl) (za7 (zas (sc:=zac s_52) (XN:=["_law_script","_law_first","_law_least","_law_shape","_law_count","_law_few","_law_spare_here","_law_staff","_law_homes","_law_rows_here","_law_k","_law_cell","_law_one","_law_two","_law_fit","_law_used"]) (N:=["_law_k","_law_script","_law_first","_law_few"]) (own:=1) (js:=[0,1,5]) rfl rfl (by decide +kernel)) rfl (zaW (by rfl) T.z_range (zaa (pv 4) pa_nil)) (fun _ _ _ _ _=>(zar (i:=0) (show List.Nodup [(Str.ofString "_law_k"),(Str.ofString "_law_script"),(Str.ofString "_law_first"),(Str.ofString "_law_few")] by decide +kernel) rfl (Or.inl rfl))) (fun _ _ _ _ _=>zbx) (fun _ _ _ _ _=>(zaM (zaa (zaq (op_mod) (zaq (op_mod) (zal G_47 (hr.mono (by decide)) (by rfl) T.m_47 T.F_47.kp T.b_47 .nil zau (zaa (pv 1) (zaa (zaq (op_addG) (zaq (op_addG) (pv 2) zad) (pv 0)) pa_nil))) zad) (zaq (op_addG) (pv 3) zad)) (zaa zad pa_nil))))))
   (zab (zax (i:=8) sc_52.nd rfl (Or.inl rfl) (zaM pa_nil))
   (zab (zax (i:=9) sc_52.nd rfl (Or.inl rfl) (zaM pa_nil))
   (zab (zaZ PassesOwn.never rfl (zaW (by rfl) T.z_range (zaa (zaq (op_addG) (pv 2) (zaq (op_mod) (zal G_47 (hr.mono (by decide)) (by rfl) T.m_47 T.F_47.kp T.b_47 .nil zau (zaa (pv 0) (zaa (zaq (op_addG) (pv 1) zad) pa_nil))) (zaq (op_sub) zad (pv 2)))) pa_nil)) (zar (i:=10) sc_52.nd rfl (Or.inr rfl))
   (zab (zax (i:=11) sc_52.nd rfl (Or.inl rfl) (zal G_47 (hr.mono (by decide)) (by rfl) T.m_47 T.F_47.kp T.b_47 .nil zau (zaa (pv 0) (zaa (zaq (op_addG) (zaq (op_addG) (pv 1) zad) (pv 10)) pa_nil))))
   (zab (zax (i:=12) sc_52.nd rfl (Or.inr rfl) (zaq (op_mod) (pv 11) (pv 4)))
   (zab (zax (i:=13) sc_52.nd rfl (Or.inr rfl) (zaq (op_mod) (zaq (op_addG) (zaq (op_addG) (pv 12) zad) (zaq (op_mod) (zaq (op_fdivB) (pv 11) zad) (zaq (op_sub) (pv 4) zad))) (pv 4)))
   (zab (zb3 (i:=14) sc_52.nd rfl (Or.inl rfl) (by rfl) (zas (sc:=zac s_52) (XN:=["_law_script","_law_first","_law_least","_law_shape","_law_count","_law_few","_law_spare_here","_law_staff","_law_homes","_law_rows_here","_law_k","_law_cell","_law_one","_law_two","_law_fit","_law_used"]) (N:=["_law_h","_law_staff","_law_one","_law_two"]) (own:=1) (js:=[7,12,13]) rfl rfl (by decide +kernel)) rfl (zb4 (by rfl) T.z_range (zaa zad (zaa zad pa_nil))) (fun _ _ _ _ _=>(zar (i:=0) (show List.Nodup [(Str.ofString "_law_h"),(Str.ofString "_law_staff"),(Str.ofString "_law_one"),(Str.ofString "_law_two")] by decide +kernel) rfl (Or.inl rfl))) (fun _ _ _ _ _=>(zb5 (zeo (zap (zcN (K:=K) rfl hr.units0) (pv 0) (zaw (zaf (K:=K) rfl) (zaw (zaf (K:=K) rfl) (pv 1) (pv 2) (fun _ _=>rfl)) zad (fun _ _=>rfl)) (zaC _)) (zcX (zap (zcN (K:=K) rfl hr.units0) (pv 0) (zaw (zaf (K:=K) rfl) (zaw (zaf (K:=K) rfl) (pv 1) (pv 3) (fun _ _=>rfl)) zad (fun _ _=>rfl)) (zaC _)))).pt)) (fun _ _ _ _ _=>(pv 0)))
   (zab (zaS (zap (op_lt) (pv 5) zad (zaC _))
   (zae (zax (i:=14) sc_52.nd rfl (Or.inl rfl) (zdL (zdP (K:=K) rfl) (pv 14) po_none (zeU zad)))) pss_nil)
   (zab (zaG (zbp (K:=K) rfl PySem.F.plainAttrs_list PySem.F.slot_list_append PySem.F.type_list_append mt_append (pv 8) (zaa (zaw (zaf (K:=K) rfl) (pv 14) (zaq (op_mod) (zaq (op_fdivB) (pv 11) zad) (zag (zai (K:=K) rfl) (by rfl) T.z_len (by rfl) (zaa (pv 14) pa_nil))) (fun _ _=>rfl)) pa_nil)))
   (zae (zaG (zbp (K:=K) rfl PySem.F.plainAttrs_list PySem.F.slot_list_append PySem.F.type_list_append mt_append (pv 9) (zaa (zaM (zaa (zaq (op_addG) (zag (zfH rfl) (by rfl) T.z_min (by rfl) (zaa (pv 12) (zaa (pv 13) pa_nil))) zad) (zaa (zaq (op_addG) (zag (ziB rfl) (by rfl) T.z_max (by rfl) (zaa (pv 12) (zaa (pv 13) pa_nil))) zad) pa_nil))) pa_nil)))))))))))
   (zab (zaZ PassesOwn.never rfl (zaW (by rfl) T.z_range (zaa (pv 4) pa_nil)) (zar (i:=10) sc_52.nd rfl (Or.inr rfl))
   (zab (zax (i:=15) sc_52.nd rfl (Or.inl rfl) (zag (zai (K:=K) rfl) (by rfl) T.z_len (by rfl) (zaa (za7 (zas (sc:=zac s_52) (XN:=["_law_script","_law_first","_law_least","_law_shape","_law_count","_law_few","_law_spare_here","_law_staff","_law_homes","_law_rows_here","_law_k","_law_cell","_law_one","_law_two","_law_fit","_law_used"]) (N:=["_law_row_here","_law_k"]) (own:=1) (js:=[10]) rfl rfl (by decide +kernel)) rfl (zaJ (K:=K) rfl (pv 9)) (fun _ _ _ _ _=>(zar (i:=0) (show List.Nodup [(Str.ofString "_law_row_here"),(Str.ofString "_law_k")] by decide +kernel) rfl (Or.inl rfl))) (fun _ _ _ _ _=>(zb5 (zap (zes (K:=K) rfl (zcY hr)) (zaq (op_addG) (pv 1) zad) (pv 0) (by with_unfolding_all rfl)))) (fun _ _ _ _ _=>(pv 0))) pa_nil)))
   (zae (zmT (zag (zfH rfl) (by rfl) T.z_min (by rfl) (zaa zad (zaa (zaq (op_addG) (pv 15) (zaq (op_mod) (zaq (op_fdivB) (zal G_47 (hr.mono (by decide)) (by rfl) T.m_47 T.F_47.kp T.b_47 .nil zau (zaa (pv 0) (zaa (zaq (op_addG) (zaq (op_addG) (pv 1) zad) (pv 10)) pa_nil))) zad) (pv 6))) pa_nil))) (zmS (zaw (zaf (K:=K) rfl) (pv 7) (pv 10) (fun _ _=>rfl)) zad set_list)))))
   (zae (zak (zaM (zaa (pv 8) (zaa (pv 7) (zaa (pv 9) pa_nil))))))))))))))),?_⟩
  obtain ⟨_,a,ns,first,least,rfl,hS,hl,l0,l1,q⟩:=h;symm;generalize hsh:zbJ ns first=shape
  refine zat (by decide) fun p1 H1 f1 s1 e1=>?_;have hS1:=s1.seq hS;symm;have hfew:=few3 (k:=shape / 7 % 3) (by omega) (by omega);refine zeX (SqL.of e1) (zdi (ns:=[6,2,3]) (by omega) (by simp only [List.length_cons,List.length_nil];omega)) ?_;generalize ([6,2,3]:List Int).getD (shape / 7 % 3).toNat 0=few at hfew ⊢;symm;refine zat (by decide) fun p1' H1' f1' s1' e1'=>?_;have hS1':=s1'.seq hS1;symm;have hspare:=znZ (k:=shape / 21 % 3) (by omega) (by omega);refine zeX (SqL.of e1') (zdi (ns:=[31,1,2]) (by omega) (by simp only [List.length_cons,List.length_nil];omega)) ?_;generalize ([31,1,2]:List Int).getD (shape / 21 % 3).toNat 0=spare at hspare ⊢;obtain ⟨c,hc⟩:∃ c:Nat,2+shape % 7=(c:Int):=⟨(2+shape % 7).toNat,by omega⟩
  have c2:2≤c:=by omega
  have c8:c≤8:=by omega
  rw [hc];symm;refine zbU (by omega) (by omega) ?_;have ecN:((c:Int)).toNat=c:=by omega
  rw [ecN];refine ziA (zbM _ _ _) (za1 (by omega)) (fun i=>[.int (zbJ ns (first+2+(0+(i:Int))) % 7 % (few+1)),.int 0]) (fun i H' Q' hi s q'=>?_) fun ps sa H2 f2 s2 hsl hps hsa snd=>?_
  ·have hS':=s.seq hS1';symm;exact ⟨Nat.le_of_lt (za1 (by simp)),q'⟩
  generalize hhB:(fun i:Nat=>zbJ ns (first+2+(0+(i:Int))) % 7 % (few+1))=hB;have hhb:∀ j:Nat,zbJ ns (first+2+(0+(j:Int))) % 7 % (few+1)=hB j:=fun j=>by rw [← hhB]
  have hBr:∀ j,0≤hB j∧hB j≤6:=fun j=>by
   rw [← hhb];have:=Int.emod_nonneg (zbJ ns (first+2+(0+(j:Int))) % 7) (show few+1≠0 by omega);have:=Int.emod_lt_of_pos (zbJ ns (first+2+(0+(j:Int))) % 7) (show 0 < few+1 by omega);omega
  have s02:Same H H2:=(s1.trans s1').trans s2;have s01:Same H H1':=s1.trans s1';have hS2:=s2.seq hS1';have hsa':∀ j,j < c→H2 (sa.getD j 0)=some (.lst [.int (hB j),.int 0]):=fun j hj=>by rw [← hhb];exact (hsa j hj).1
  symm;refine zat (by decide) fun ph H3 f3 s3 e3=>?_;symm;refine zat (by decide) fun pr H4 f4 s4 e4=>?_;have hS4:=s4.seq (s3.seq hS2);have s24:Same H2 H4:=s3.trans s4;have npr:ph≠pr:=zaj e3 f4;have f4':H2 pr=none:=s3.free f4;symm;have hm1:=Int.emod_nonneg (zbJ ns (first+1)) (show 11-least≠0 by omega);have hm2:=Int.emod_lt_of_pos (zbJ ns (first+1)) (show 0 < 11-least by omega);refine zbU (by omega) (by omega) ?_;obtain ⟨n,hn⟩:∃ n:Nat,least+zbJ ns (first+1) % (11-least)=(n:Int):=⟨(least+zbJ ns (first+1) % (11-least)).toNat,by omega⟩
  rw [hn];have enN:((n:Int)).toNat=n:=by omega
  rw [enN];have n10:n≤10:=by omega
  refine zbV (fun i σ H'=>∃ v10 v11 v12 v13 v14 hs rows ra,σ=[some (.ref a),some (.int first),some (.int least),some (.int shape),some (.int c),some (.int few),some (.int spare),some (.ref ps),some (.ref ph),some (.ref pr),v10,v11,v12,v13,v14,none] ∧
   Same H2 H'∧hs.length=i∧rows.length=i∧H' ph=some (.lst (hs.map V.int))∧H' pr=some (.lst (ra.map V.ref))∧ra.length=i∧ra.Nodup∧(∀ j,j < i→H' (ra.getD j 0)=some (.lst ((rows.getD j []).map V.int))∧H2 (ra.getD j 0)=none∧ra.getD j 0≠pr∧ra.getD j 0≠ph)∧(∀ j,j < i→PRow c hB (hs.getD j 0) (rows.getD j [])))
   ⟨none,none,none,none,none,[],[],[],rfl,s24,rfl,rfl,s4 _ _ e3,e4,rfl,List.nodup_nil,fun j hj=>absurd hj (by omega),fun j hj=>absurd hj (by omega)⟩ ?_ ?_
  ·rintro i σ H' hi ⟨v10,v11,v12,v13,v14,hs,rows,ra,rfl,s',lh,lr,hph,hpr,lra,ndr,hra,hP⟩;have hS':=s'.seq hS2;have hps':=s' _ _ hps;have ho1:=Int.emod_nonneg (zbJ ns (first+10+(0+(i:Int)))) (show (c:Int)≠0 by omega);have ho2:=Int.emod_lt_of_pos (zbJ ns (first+10+(0+(i:Int)))) (show 0 < (c:Int) by omega);have hq1:=Int.emod_nonneg (zbJ ns (first+10+(0+(i:Int))) / 8) (show (c:Int)-1≠0 by omega);have hq2:=Int.emod_lt_of_pos (zbJ ns (first+10+(0+(i:Int))) / 8) (show 0 < (c:Int)-1 by omega);symm;generalize zbJ ns (first+10+(0+(i:Int)))=cell at ho1 ho2 hq1 hq2 ⊢;generalize cell % (c:Int)=one at ho1 ho2 ⊢;generalize cell / 8 % ((c:Int)-1)=gap at hq1 hq2 ⊢;have ht:(one+1+gap) % (c:Int)=if one+1+gap < c then one+1+gap else one+1+gap-c:=by
    split
    ·exact Int.emod_eq_of_lt (by omega) (by omega)
    ·rw [← Int.sub_emod_right];exact Int.emod_eq_of_lt (by omega) (by omega)
   have ht1:0≤(one+1+gap) % (c:Int)∧(one+1+gap) % (c:Int) < c∧(one+1+gap) % (c:Int)≠one:=by
    rw [ht];split <;> omega
   generalize (one+1+gap) % (c:Int)=two at ht1 ⊢;obtain ⟨ht1,ht2,ht3⟩:=ht1;have h1':=s' _ _ (hsa' one.toNat (by omega));have h2':=s' _ _ (hsa' two.toNat (by omega));symm;refine zeY ⟨by omega,by omega,by omega,by omega⟩ ?_;refine zeZ (zbM _ _ _) (by decide) (fun i=>!decide (1+(i:Int)=hB one.toNat) && !decide (1+(i:Int)=hB two.toNat)) (fun i=>1+(i:Int)) (fun i H5 Q' hi s5 q'=>?_) (fun i H5 Q' hi s5 hc q'=>?_) fun pf H5 f5 s5 e5=>?_
   ·have hps5:=s5 _ _ hps';have h15:=s5 _ _ h1';have h25:=s5 _ _ h2';symm;refine zjJ (d:=!decide (1+(i:Int)=hB two.toNat)) (fun _ Q3 q3=>?_) q';symm;exact q3
   ·symm;exact q'
   change H5 pf=some (.lst ((fitB (hB one.toNat) (hB two.toNat)).map V.int)) at e5;have hS5:=s5.seq hS';symm;refine znn (fun σ' H6=>∃ (pf:Addr) (fs:List Int),σ'=[some (.ref a),some (.int first),some (.int least),some (.int shape),some (.int c),some (.int few),some (.int spare),some (.ref ps),some (.ref ph),some (.ref pr),some (.int (0+(i:Int))),some (.int cell),some (.int one),some (.int two),some (.ref pf),none]∧Same H' H6 ∧
    H6 pf=some (.lst (fs.map V.int))∧0 < fs.length∧fs.length≤6∧∀ x∈fs,x∈fitB (hB one.toNat) (hB two.toNat)) (fun _ nx hnx=>?_) (fun _ nx hnx=>?_) ?_
   ·symm;refine zct (SqL.of e5) fun pg H6 f6 s6 e6=>?_;have e2:cutV ((fitB (hB one.toNat) (hB two.toNat)).map V.int) none (some 2)=((fitB (hB one.toNat) (hB two.toNat)).take 2).map V.int:=by
     rw [show (some (2:Int))=some ((2:Nat):Int) from rfl,zhi,List.map_take]
    rw [e2] at e6;have l1:=zh0 (hB one.toNat) (hB two.toNat);refine hnx _ _ ⟨pg,_,rfl,s5.trans s6,e6,by rw [List.length_take];omega,by rw [List.length_take];omega,fun x hx=>List.mem_of_mem_take hx⟩
   ·symm;exact hnx _ _ ⟨pf,_,rfl,s5,e5,zh0 _ _,zmk _ _,fun x hx=>hx⟩
   clear e5 hS5 s5 f5;rintro σ' H6 ⟨pf,fs,rfl,s6,e6,lf1,lf2,hfs⟩;have hm1:=Int.emod_nonneg (cell / 64) (show (fs.length:Int)≠0 by omega);have hm2:=Int.emod_lt_of_pos (cell / 64) (show (0:Int) < fs.length by omega);have hph6:=s6 _ _ hph;have hpr6:=s6 _ _ hpr;symm;have hh:=hfs _ (getD_mem (d:=0) (show (cell / 64 % (fs.length:Int)).toNat < fs.length by omega));generalize fs.getD (cell / 64 % (fs.length:Int)).toNat 0=hou at hh ⊢;obtain ⟨g1,g2,g3,g4⟩:=zkY hh;refine zaI hph6 (by rw [List.length_map];omega) fun H7 b7 e7=>?_;have hpr7:H7 pr=some (.lst (ra.map V.ref)):=by rw [b7 _ npr.symm];exact hpr6
   have s7:Same H2 H7:=(s'.trans s6).but b7 f3;symm;refine zat (by simp) fun pw H8 f8 s8 e8=>?_;symm;refine zaI (s8 _ _ hpr7) (by rw [List.length_map];omega) fun H9 b9 e9=>?_;symm;have s9:Same H2 H9:=(s7.trans s8).but b9 f4';have npw:pw≠pr:=(zaj hpr7 f8).symm;have npw2:pw≠ph:=(zaj e7 f8).symm;refine ⟨_,_,_,_,_,hs++[hou],rows++[[(if two < one then two else one)+1,(if two > one then two else one)+1]],ra++[pw],rfl,s9,by simp [lh],by simp [lr],?_,by rw [e9,List.map_append];rfl,by simp [lra],?_,fun j hj=>?_,fun j hj=>?_⟩
   ·rw [b9 _ npr,List.map_append];exact s8 _ _ e7
   ·refine List.nodup_append.mpr ⟨ndr,by simp,fun x hx y hy=>?_⟩;have hy':y=pw:=by simpa using hy
    subst hy';obtain ⟨k,hk,ek⟩:=mem_getD (d:=0) hx;have hrk:=hra k (by omega);rw [ek] at hrk;exact zaj (show H7 x=_ by rw [b7 _ hrk.2.2.2];exact s6 _ _ hrk.1) f8
   ·by_cases hlt:j < i
    ·obtain ⟨r1,r2,r3,r4⟩:=hra j hlt;rw [zaD (by omega),zaD (by omega)];refine ⟨?_,r2,r3,r4⟩;rw [b9 _ r3];refine s8 _ _ ?_;rw [b7 _ r4];exact s6 _ _ r1
    ·have ej:j=i:=by omega
     subst ej;have ea:(ra++[pw]).getD j 0=pw:=by rw [← lra];exact zaA
     have eb:(rows++[[(if two < one then two else one)+1,(if two > one then two else one)+1]]).getD j []=[(if two < one then two else one)+1,(if two > one then two else one)+1]:=by rw [← lr];exact zaA
     rw [ea,eb];refine ⟨?_,s7.free f8,npw,npw2⟩;rw [b9 _ npw];exact e8
   ·by_cases hlt:j < i
    ·rw [zaD (by omega),zaD (by omega)];exact hP j hlt
    ·have ej:j=i:=by omega
     subst ej;have ea:(hs++[hou]).getD j 0=hou:=by rw [← lh];exact zaA
     have eb:(rows++[[(if two < one then two else one)+1,(if two > one then two else one)+1]]).getD j []=[(if two < one then two else one)+1,(if two > one then two else one)+1]:=by rw [← lr];exact zaA
     rw [ea,eb]
     by_cases hlt2:two < one
     ·rw [if_pos hlt2,if_neg (by omega)];exact ⟨⟨two.toNat,one.toNat,by omega,by omega,by rw [Int.toNat_of_nonneg ht1,Int.toNat_of_nonneg ho1],g4,g3⟩,g1,g2⟩
     ·rw [if_neg hlt2,if_pos (by omega)];exact ⟨⟨one.toNat,two.toNat,by omega,by omega,by rw [Int.toNat_of_nonneg ht1,Int.toNat_of_nonneg ho1],g3,g4⟩,g1,g2⟩
  rintro σ H5 ⟨v10,v11,v12,v13,v14,hs,rows,ra,rfl,s5,lh,lr,hph,hpr,lra,ndr,hra,hP⟩;symm;refine zbU (by omega) (by omega) ?_;rw [ecN];generalize hlB:(fun j:Nat=>if (cntB rows (0+(j:Int)+1):Int)+zbJ ns (first+2+(0+(j:Int))) / 7 % spare < 30 then (cntB rows (0+(j:Int)+1):Int)+zbJ ns (first+2+(0+(j:Int))) / 7 % spare else 30)=lB;have hlb:∀ j:Nat,(if (cntB rows (0+(j:Int)+1):Int)+zbJ ns (first+2+(0+(j:Int))) / 7 % spare < 30 then (cntB rows (0+(j:Int)+1):Int)+zbJ ns (first+2+(0+(j:Int))) / 7 % spare else 30)=lB j:=fun j=>by rw [← hlB]
  have hlim:∀ j,j < c→(cntB rows (0+(j:Int)+1):Int)≤lB j∧lB j≤30:=fun j _=>by
   have h1:=Int.emod_nonneg (zbJ ns (first+2+(0+(j:Int))) / 7) (show spare≠0 by omega);have h2:=zml rows (0+(j:Int)+1);rw [← hlb];split <;> omega
  have inS:∀ b,b∈sa→∃ j,j < c∧sa.getD j 0=b:=fun b hb=>by
   obtain ⟨k,hk,ek⟩:=mem_getD (d:=0) hb;exact ⟨k,by omega,ek⟩
  have nS:∀ b,H2 b=none→b∉sa:=fun b hb z=>by
   obtain ⟨k,hk,ek⟩:=inS b z;have:=hsa' k hk;rw [ek,hb] at this
   cases this
  have oldS:∀ b o,H b=some o→b∉sa:=fun b o hb z=>by
   obtain ⟨k,hk,ek⟩:=inS b z;have:=s01.free (hsa k hk).2.1;rw [ek,hb] at this
   cases this
  have psS:ps∉sa:=fun z=>by
   obtain ⟨k,hk,ek⟩:=inS ps z;exact (hsa k hk).2.2 ek
  have raS:∀ j,j < n→ra.getD j 0∉sa:=fun j hj=>nS _ (hra j hj).2.1;refine zbV (fun i σ H'=>∃ v10 v15,σ=[some (.ref a),some (.int first),some (.int least),some (.int shape),some (.int c),some (.int few),some (.int spare),some (.ref ps),some (.ref ph),some (.ref pr),v10,v11,v12,v13,v14,v15] ∧
   (∀ b o,b∉sa→H5 b=some o→H' b=some o)∧∀ j,j < c→H' (sa.getD j 0)=some (.lst [.int (hB j),.int (if j < i then lB j else 0)])) ⟨v10,none,rfl,fun b o _ e=>e,fun j hj=>by rw [if_neg (by omega)];exact s5 _ _ (hsa' j hj)⟩ ?_ ?_
  ·rintro i σ H' hi ⟨v10,v15,rfl,kp,hst⟩;have sH:Same H H':=fun b o e=>kp b o (oldS b o e) ((s02.trans s5) b o e);have hS':=sH.seq hS;have hps':=kp _ _ psS (s5 _ _ hps);have hpr':=kp _ _ (nS _ f4') hpr;symm;refine zaT (SqL.of hpr') ?_;refine zeM (rows:=rows) (x:=0+(i:Int)+1) (SqL.of hpr') (by omega) (by omega) (fun j H6 Q' hj s6 q'=>?_) fun pz H6 zs f6 s6 e6 z6=>?_
   ·have hrj:=s6 _ _ (kp _ _ (raS j (by omega)) (hra j (by omega)).1);symm;exact q'
   have hS6:=s6.seq hS';have hps6:=s6 _ _ hps';symm;rw [z6];have ei:(0+(i:Int)).toNat=i:=by omega
   rw [hlb i,ei];have hi6:=s6 _ _ (hst i hi);refine zhZ hi6 (by decide) (by simp) fun H7 b7 e7=>?_;have en7:∀ j,j < c→j≠i→sa.getD j 0≠sa.getD i 0:=fun j hj hji z=>hji (by
    have h1:sa[j]? = some (sa.getD j 0):=by rw [List.getD_eq_getElem?_getD,List.getElem?_eq_getElem (by omega)];rfl
    have h2:sa[i]? = some (sa.getD i 0):=by rw [List.getD_eq_getElem?_getD,List.getElem?_eq_getElem (by omega)];rfl
    rw [z] at h1;obtain ⟨a1,a2⟩:=List.getElem?_eq_some_iff.mp h1;obtain ⟨b1,b2⟩:=List.getElem?_eq_some_iff.mp h2;exact (List.getElem_inj snd).mp (a2.trans b2.symm))
   refine ⟨_,_,rfl,fun b o hb e=>?_,fun j hj=>?_⟩
   ·rw [b7 _ (fun z=>hb (by rw [z];exact getD_mem (by omega)))];exact s6 _ _ (kp b o hb e)
   ·by_cases e:j=i
    ·subst e;rw [e7,if_neg (Nat.lt_irrefl j),if_pos (Nat.lt_succ_self j)];rfl
    ·rw [b7 _ (en7 j hj e),s6 _ _ (hst j hj)]
     by_cases hlt:j < i
     ·rw [if_pos hlt,if_pos (by omega)]
     ·rw [if_neg hlt,if_neg (by omega)]
  rintro σ H6 ⟨v10',v15,rfl,kp,hst⟩;have sH:Same H H6:=fun b o e=>kp b o (oldS b o e) ((s02.trans s5) b o e);have hps6:=kp _ _ psS (s5 _ _ hps);have hpr6:=kp _ _ (nS _ f4') hpr;have hph6:=kp _ _ (nS _ f3) hph;have hra6:∀ j,j < n→H6 (ra.getD j 0)=some (.lst ((rows.getD j []).map V.int)):=fun j hj=>kp _ _ (raS j hj) (hra j hj).1;symm;refine zat (by simp) fun p H7 f7 s7 e7=>?_;have hrlen:rows.length=n:=lr;refine q p ph ps pr sa ra hs (stB hB lB c c) rows H7 ⟨sH.trans s7,e7,s7 _ _ hph6,s7 _ _ hps6,s7 _ _ hpr6,by rw [zcG];omega,by omega,fun j hj=>?_,fun j hj=>s7 _ _ (hra6 j (by omega)),?_,fun b hb=>?_⟩ (ziU c2 c8 (by omega) (by omega) (by omega) (fun j hj=>hP j (by omega)) (fun j _=>hBr j) hlim)
  ·rw [zcG] at hj;rw [zeg hj];exact s7 _ _ (hst j hj)
  ·have inR:∀ b,b∈ra→∃ j,j < n∧ra.getD j 0=b:=fun b hb=>by
    obtain ⟨k,hk,ek⟩:=mem_getD (d:=0) hb;exact ⟨k,by omega,ek⟩
   have nps:ps≠ph:=zaj hps f3;have nps2:ps≠pr:=zaj hps f4';have nraps:∀ b∈ra,b≠ps:=fun b hb z=>by
    obtain ⟨k,hk,ek⟩:=inR b hb;have:=(hra k hk).2.1;rw [ek,z,hps] at this
    cases this
   refine List.nodup_cons.mpr ⟨fun z=>?_,List.nodup_cons.mpr ⟨fun z=>?_,List.nodup_cons.mpr ⟨fun z=>?_,List.nodup_cons.mpr ⟨fun z=>?_,List.nodup_append.mpr ⟨snd,ndr,fun x hx y hy=>?_⟩⟩⟩⟩⟩
   ·have:∃ o,H6 p=some o:=by
     rcases List.mem_cons.mp z with z | z
     ·exact ⟨_,z▸hph6⟩
     rcases List.mem_cons.mp z with z | z
     ·exact ⟨_,z▸hps6⟩
     rcases List.mem_cons.mp z with z | z
     ·exact ⟨_,z▸hpr6⟩
     rcases List.mem_append.mp z with z | z
     ·obtain ⟨k,hk,ek⟩:=inS p z;exact ⟨_,ek▸hst k hk⟩
     ·obtain ⟨k,hk,ek⟩:=inR p z;exact ⟨_,ek▸hra6 k hk⟩
    obtain ⟨o,ho⟩:=this;rw [f7] at ho
    cases ho
   ·rcases List.mem_cons.mp z with z | z
    ·exact nps z.symm
    rcases List.mem_cons.mp z with z | z
    ·exact npr z
    rcases List.mem_append.mp z with z | z
    ·exact nS _ f3 z
    ·obtain ⟨k,hk,ek⟩:=inR ph z;exact (hra k hk).2.2.2 ek
   ·rcases List.mem_cons.mp z with z | z
    ·exact nps2 z
    rcases List.mem_append.mp z with z | z
    ·exact psS z
    ·exact nraps ps z rfl
   ·rcases List.mem_append.mp z with z | z
    ·exact nS _ f4' z
    ·obtain ⟨k,hk,ek⟩:=inR pr z;exact (hra k hk).2.2.1 ek
   ·rintro rfl;obtain ⟨k,hk,ek⟩:=inR x hy;exact raS k hk (by rw [ek];exact hx)
  ·rcases List.mem_cons.mp hb with z | z
   ·rw [z];exact sH.free f7
   rcases List.mem_cons.mp z with z | z
   ·rw [z];exact s02.free f3
   rcases List.mem_cons.mp z with z | z
   ·rw [z];exact s01.free f2
   rcases List.mem_cons.mp z with z | z
   ·rw [z];exact s02.free f4'
   rcases List.mem_append.mp z with z | z
   ·obtain ⟨k,hk,ek⟩:=inS b z;rw [← ek];exact s01.free (hsa k hk).2.1
   ·obtain ⟨k,hk,ek⟩:=mem_getD (d:=0) z;rw [← ek];exact s02.free (hra k (by omega)).2.1
theorem zf9 {H:Hp} {a:Addr} {ns:List Int} {first least:Int} {Q:VK} {E:XK} (h1:SqL K H a (ns.map V.int)) (h2:ns.length≤63) (l0:0≤least) (l1:least≤10)
  (q:∀ (p ph ps pr:Addr) (sa ra:List Addr) (hs:List Int) (rs rows:List (List Int)) (H2:Hp),zcF H p ph ps pr sa ra hs rs rows H2→zhk least hs rs rows→Q (.ref p) H2):zdp K [.ref a,.int first,.int least] H Q E:=⟨rfl,a,ns,first,least,rfl,h1,h2,l0,l1,q⟩
def zfb (K:PySem.W.Frag):Sp:=fun vs H Q _=>vs.length=1∧∃ c:Int,vs=[.int c]∧∀ H',Same H H'→Q (.int (zhj c)) H'
theorem zht (T:Txt K mg t):FnOk P w K mg base CX0 1 t.f_63 t.d_63 ["_law_cell"] (zfb K):=by
 refine T.F_63.ok sc_63 (fun _ _ _ _ h=>h.1) fun cdv A outer s H vs Q E hr h=>by
  refine ⟨_,(zab (zaS (zap (zbK (K:=K) rfl hr.units0) (zaq (op_mod) (pv 0) zad) zad (zaC _))
   (zae (zak (zaq (op_mod) (zaq (op_fdivB) (pv 0) zad) zad))) pss_nil)
   (zab (zaS (zap (zbK (K:=K) rfl hr.units0) (zaq (op_mod) (pv 0) zad) zad (zaC _))
   (zae (zak (zaq (op_mod) (zaq (op_fdivB) (pv 0) zad) zad))) pss_nil)
   (zae (zak (zaw (zaf (K:=K) rfl) (zaM (zaa zad (zaa zad (zaa zad (zaa zad pa_nil))))) (zaq (op_mod) (zaq (op_fdivB) (pv 0) zad) zad) (fun _ _=>rfl)))))),?_⟩
  obtain ⟨_,c,rfl,q⟩:=h;unfold zhj at q;symm;refine zbi (fun h0=>?_) (fun h0=>?_)
  ·rw [if_pos h0] at q;symm;exact q _ (Same.refl _)
  ·rw [if_neg h0] at q;symm;refine zbi (fun h1=>?_) (fun h1=>?_)
   ·rw [if_pos h1] at q;symm;exact q _ (Same.refl _)
   ·rw [if_neg h1] at q;symm;refine zat (by decide) fun p1 H1 f1 s1 e1=>?_;symm;refine zeX (SqL.of e1) (zdi (ns:=[0,1,99,100]) (by omega) (by simp only [List.length_cons,List.length_nil];omega)) ?_;exact q _ s1
theorem ziV {H:Hp} {c:Int} {Q:VK} {E:XK} (q:∀ H',Same H H'→Q (.int (zhj c)) H'):zfb K [.int c] H Q E:=⟨rfl,c,rfl,q⟩
def zcP (K:PySem.W.Frag) (C:Addr):Sp:=fun vs H Q _=>vs.length=1∧∃ (x dx:Addr),vs=[.ref x]∧H x=some (.ins C dx [])∧∀ H' F,(∀ b o,H b=some o→b≠x→b≠dx→H' b=some o)→(∀ b,F b→b=x∨b=dx∨H b=none)→ExAt C H' x F ⟨[],[],0,none⟩→Q .non H'
theorem zeG (T:Txt K mg t):FnOk P w K mg base CX0 1 t.f_24 t.d_24 ["self"] (zcP K t.C_Exam):=by
 refine T.F_24.ok sc_24 (fun _ _ _ _ h=>h.1) fun cdv A outer s H vs Q E hr h=>by
  refine ⟨_,(zab (zbO (K:=K) rfl (pv 0) (zaM pa_nil))
   (zab (zbO (K:=K) rfl (pv 0) (zaM pa_nil))
   (zab (zbO (K:=K) rfl (pv 0) zad)
   (zab (zbO (K:=K) rfl (pv 0) za3)
   (zab (zbO (K:=K) rfl (pv 0) (zaM pa_nil))
   (zae (zbO (K:=K) rfl (pv 0) (zaM pa_nil)))))))),?_⟩
  obtain ⟨_,x,dx,rfl,hx,q⟩:=h;have hcl:=T.cl_Exam;have nA:=T.n_Exam_paper_houses;have nB:=T.n_Exam_reader_rows;have nS:=T.n_Exam_widest_step;have nD:=T.n_Exam_is_dealt;have nC:=T.n_Exam_named_readers;have nE:=T.n_Exam_entered_points;symm;refine zat (by decide) fun a H1 f1 s1 e1=>?_;have x1:=s1 _ _ hx;symm;refine za8 x1 hcl nA (Nat.lt_of_lt_of_le (show 0 < 1 by decide) (by decide)) fun H2 b2 x2=>?_;have xa:=zaj hx f1;symm;refine zat (by decide) fun b H3 f3 s3 e3=>?_;have x3:=s3 _ _ x2;symm;have e2:H2 a=some (.lst []):=by rw [b2 _ xa.symm];exact e1
  have ab:=zaj e2 f3;have xb:=zaj x2 f3;refine za8 x3 hcl nB (Nat.lt_of_lt_of_le (zb1 (show 0 < 1 by decide)) (by decide)) fun H4 b4 x4=>?_;symm;refine za8 x4 hcl nS (Nat.lt_of_lt_of_le (zb1 (zb1 (show 0 < 1 by decide))) (by decide)) fun H5 b5 x5=>?_;symm;refine za8 x5 hcl nD (Nat.lt_of_lt_of_le (zb1 (zb1 (zb1 (show 0 < 1 by decide)))) (by decide)) fun H6 b6 x6=>?_;symm;refine zat (by decide) fun c H7 f7 s7 e7=>?_;have x7:=s7 _ _ x6;have a6:H6 a=some (.lst []):=by rw [b6 _ xa.symm,b5 _ xa.symm,b4 _ xa.symm];exact s3 _ _ e2
  have b6':H6 b=some (.lst []):=by rw [b6 _ xb.symm,b5 _ xb.symm,b4 _ xb.symm];exact e3
  have ac:=zaj a6 f7;have bc:=zaj b6' f7;have xc:=zaj x6 f7;symm;refine za8 x7 hcl nC (Nat.lt_of_lt_of_le (zb1 (zb1 (zb1 (zb1 (show 0 < 1 by decide))))) (by decide)) fun H8 b8 x8=>?_;have a8:H8 a=some (.lst []):=by rw [b8 _ xa.symm];exact s7 _ _ a6
  have b8':H8 b=some (.lst []):=by rw [b8 _ xb.symm];exact s7 _ _ b6'
  have c8:H8 c=some (.lst []):=by rw [b8 _ xc.symm];exact e7
  symm;refine zat (by decide) fun d H9 f9 s9 e9=>?_;have x9:=s9 _ _ x8;have ad:=zaj a8 f9;have bd:=zaj b8' f9;have cd:=zaj c8 f9;have xd:=zaj x8 f9;symm;refine za8 x9 hcl nE (Nat.lt_of_lt_of_le (zb1 (zb1 (zb1 (zb1 (zb1 (show 0 < 1 by decide)))))) (by decide)) fun H10 b10 x10=>?_;symm;rw [exFs_mk] at x10;have kp:∀ b o,H b=some o→b≠x→H10 b=some o:=fun z o h n=>by
   rw [b10 _ n];refine s9 _ _ ?_;rw [b8 _ n];refine s7 _ _ ?_;rw [b6 _ n,b5 _ n,b4 _ n];refine s3 _ _ ?_;rw [b2 _ n];exact s1 _ _ h
  have nn:∀ b,H2 b=none→H b=none:=fun z h=>by
   cases hz:H z with
   | none=>rfl
   | some o =>
     by_cases n:z=x
     ·rw [n,x2] at h;cases h
     ·rw [b2 _ n,s1 _ _ hz] at h;cases h
  have nn6:∀ b,H6 b=none→H b=none:=fun z h=>nn z (by
   cases hz:H2 z with
   | none=>rfl
   | some o =>
     by_cases n:z=x
     ·rw [n,x6] at h;cases h
     ·rw [b6 _ n,b5 _ n,b4 _ n,s3 _ _ hz] at h;cases h)
  have nn8:∀ b,H8 b=none→H b=none:=fun z h=>nn6 z (by
   cases hz:H6 z with
   | none=>rfl
   | some o =>
     by_cases n:z=x
     ·rw [n,x8] at h;cases h
     ·rw [b8 _ n,s7 _ _ hz] at h;cases h)
  have J:ExIn t.C_Exam H10 ⟨x,dx,a,b,c,d,[],[],[]⟩ ⟨[],[],0,none⟩ []:=by
   refine ⟨x10,by show H10 a=_;rw [b10 _ xa.symm];exact s9 _ _ a8,by show H10 b=_;rw [b10 _ xb.symm];exact s9 _ _ b8',by show H10 c=_;rw [b10 _ xc.symm];exact s9 _ _ c8,by show H10 d=_;rw [b10 _ xd.symm];exact e9,rfl,rfl,rfl,fun i hi=>absurd hi (by simp),fun i hi=>absurd hi (by simp [ExS.nm]),fun i hi=>absurd hi (by simp [ExS.nm]),fun i hi=>absurd hi (by simp [ExS.nm]),fun i hi=>absurd hi (by simp [ExS.nm]),rfl,?_,⟨fun z=>(by cases z),fun k hk=>absurd hk (by simp [ExS.nm]),fun k r p z=>(by cases z),by decide⟩⟩;unfold ExAd.own;simp only [List.nodup_cons,List.mem_cons,List.append_nil,List.not_mem_nil,not_or,not_false_iff,List.nodup_nil,and_true];exact ⟨⟨xa,xb,xc,xd⟩,⟨ab,ac,ad⟩,⟨bc,bd⟩,cd⟩
  refine q H10 _ (fun z o h n _=>kp z o h n) (fun z h=>?_) J.at;unfold ExAd.own at h;simp only [List.mem_cons,List.append_nil,List.not_mem_nil,or_false] at h;rcases h with h | h | h | h | h
  ·exact .inl h
  ·exact .inr (.inr (h▸f1))
  ·exact .inr (.inr (h▸nn _ f3))
  ·exact .inr (.inr (h▸nn6 _ f7))
  ·exact .inr (.inr (h▸nn8 _ f9))
theorem zhu {K:PySem.W.Frag} {C x dx:Addr} {H:Hp} {Q:VK} {E:XK} (h:H x=some (.ins C dx [])) (q:∀ H' F,(∀ b o,H b=some o→b≠x→b≠dx→H' b=some o)→(∀ b,F b→b=x∨b=dx∨H b=none)→ExAt C H' x F ⟨[],[],0,none⟩→Q .non H'):zcP K C [.ref x] H Q E:=⟨rfl,x,dx,rfl,h,q⟩
def zbd (K:PySem.W.Frag) (C:Addr):Sp:=fun vs H Q _=>vs.length=1∧∃ (x:Addr) (F:Addr→Prop) (st:ExS),vs=[.ref x]∧ExAt C H x F st∧st.dl=none∧Q .non H
theorem zaQ (T:Txt K mg t):FnOk P w K mg base CX0 1 t.f_39 t.d_39 ["self"] (zbd K t.C_Exam):=by
 refine T.F_39.ok sc_39 (fun _ _ _ _ h=>h.1) fun cdv A outer s H vs Q E hr h=>by
  refine ⟨_,(zae (zaS (zav (K:=K) rfl (zaF (K:=K) rfl (pv 0)) (fun _=>rfl))
   (zae ps_never) pss_nil)),?_⟩
  obtain ⟨_,x,F,st,rfl,E0,hd,q⟩:=h;walk_at "hd";symm;rw [hd];refine iteF ?_;symm;exact q
theorem za5 {K:PySem.W.Frag} {C x:Addr} {H:Hp} {F:Addr→Prop} {st:ExS} {Q:VK} {E:XK} {σ:L2.St} (h:ExAt C H x F st) (hd:st.dl=none) (q:Q .non H):zbm C "refuse_behind_dealing" (zbd K C) E tNil σ (.ref x) H Q:=by
 obtain ⟨dx,fs,e,l⟩:=h.ob;exact zaN e (l _ (by decide +kernel)) (zeF ⟨rfl,x,F,st,rfl,h,hd,q⟩)
def zbH (K:PySem.W.Frag):Sp:=fun vs H Q _=>vs.length=2∧∃ n m:Int,vs=[.int n,.int m]∧0≤n∧n≤m∧Q .non H
theorem zbb (T:Txt K mg t):FnOk P w K mg base CX0 1 t.f_21 t.d_21 ["number","most"] (zbH K):=by
 refine T.F_21.ok sc_21 (fun _ _ _ _ h=>h.1) fun cdv A outer s H vs Q E hr h=>by
  refine ⟨_,(zae (zaS (zcs (zap (op_lt) (pv 0) zad (zaC _)) (zbS (zap (op_gt) (pv 0) (pv 1) (zaC _)))).pt
   (zae ps_never) pss_nil)),?_⟩
  obtain ⟨_,n,m,rfl,h1,h2,q⟩:=h;walk_at "rdk";exact q
theorem zbg {H:Hp} {n m:Int} {Q:VK} {E:XK} (h1:0≤n) (h2:n≤m) (q:Q .non H):zbH K [.int n,.int m] H Q E:=⟨rfl,n,m,rfl,h1,h2,q⟩
def zcQ (K:PySem.W.Frag) (C:Addr):Sp:=fun vs H Q _=>vs.length=2∧∃ (x:Addr) (F:Addr→Prop) (st:ExS) (s:Int),vs=[.ref x,.int s]∧ExAt C H x F st∧InB st.hs st.rs∧st.dl=none∧(0≤s∧s≤100)∧∀ H' F',ExFr H H' F F'→ExAt C H' x F' { st with step:=s }→Q (.int s) H'
theorem zeH (T:Txt K mg t):FnOk P w K mg base CX0 2 t.f_27 t.d_27 ["self","step"] (zcQ K t.C_Exam):=by
 have G_39:=zaQ (P:=P) (w:=w) (base:=base) T;have G_21:=zbb (P:=P) (w:=w) (base:=base) T;refine T.F_27.ok sc_27 (fun _ _ _ _ h=>h.1) fun cdv A outer s H vs Q E hr h=>by
  refine ⟨_,(zab (zaG (zbt (pv 0) T.cl_Exam T.me_39 G_39 (hr.mono (by decide)) T.b_39 .nil zau))
   (zab (zaG (zal G_21 (hr.mono (by decide)) (by rfl) T.m_21 T.F_21.kp T.b_21 .nil zau (zaa (pv 1) (zaa (zcW (v:=.int 100) (by rfl) T.v_MOST_STEP T.w_MOST_STEP) pa_nil))))
   (zab (zbO (K:=K) rfl (pv 0) (pv 1))
   (zae (zak (pv 1)))))),?_⟩
  obtain ⟨_,x,F,st,s,rfl,E0,BB,hd,hp,q⟩:=h;have E0':=E0;walk_at "hd";symm;refine za5 E0' hd ?_;symm;refine zbg (by omega) (by omega) ?_;symm;refine za8 hob hcl nS (show 6 < 1000 by decide) fun H1 b1 e1=>?_;have I1:=I.setStep b1 e1 hp;symm;exact q H1 F (ExFr.but b1 ((hF _).mpr own_x) fun b z=>.inl z) ⟨e,kvs,rfl,hF,I1⟩
theorem zfc {K:PySem.W.Frag} {C x:Addr} {H:Hp} {F:Addr→Prop} {st:ExS} {s:Int} {Q:VK} {E:XK} (hE:ExAt C H x F st) (B:InB st.hs st.rs) (hd:st.dl=none) (hp:(0≤s∧s≤100)) (q:∀ H' F',ExFr H H' F F'→ExAt C H' x F' { st with step:=s }→Q (.int s) H'):zcQ K C [.ref x,.int s] H Q E:=⟨rfl,x,F,st,s,rfl,hE,B,hd,hp,q⟩
def zcv (K:PySem.W.Frag):Sp:=fun vs H Q _=>vs.length=3∧∃ n l m:Int,vs=[.int n,.int l,.int m]∧l≤n∧n≤m∧Q .non H
theorem zbP (T:Txt K mg t):FnOk P w K mg base CX0 1 t.f_20 t.d_20 ["number","least","most"] (zcv K):=by
 refine T.F_20.ok sc_20 (fun _ _ _ _ h=>h.1) fun cdv A outer s H vs Q E hr h=>by
  refine ⟨_,(zae (zaS (zcs (zap (op_lt) (pv 0) (pv 1) (zaC _)) (zbS (zap (op_gt) (pv 0) (pv 2) (zaC _)))).pt
   (zae ps_never) pss_nil)),?_⟩
  obtain ⟨_,n,l,m,rfl,h1,h2,q⟩:=h;walk_at "rdk";exact q
theorem zbw {H:Hp} {n l m:Int} {Q:VK} {E:XK} (h1:l≤n) (h2:n≤m) (q:Q .non H):zcv K [.int n,.int l,.int m] H Q E:=⟨rfl,n,l,m,rfl,h1,h2,q⟩
def zdq (K:PySem.W.Frag):Sp:=fun vs H Q _=>vs.length=2∧∃ n m:Int,vs=[.int n,.int m]∧n < m∧Q .non H
theorem zdr (T:Txt K mg t):FnOk P w K mg base CX0 1 t.f_22 t.d_22 ["many","most"] (zdq K):=by
 refine T.F_22.ok sc_22 (fun _ _ _ _ h=>h.1) fun cdv A outer s H vs Q E hr h=>by
  refine ⟨_,(zae (zaS (zap (op_ge) (pv 0) (pv 1) (zaC _))
   (zae ps_never) pss_nil)),?_⟩
  obtain ⟨_,n,m,rfl,h1,q⟩:=h;walk_at "rdk";exact q
theorem zdW {H:Hp} {n m:Int} {Q:VK} {E:XK} (h1:n < m) (q:Q .non H):zdq K [.int n,.int m] H Q E:=⟨rfl,n,m,rfl,h1,q⟩
def zb8 (K:PySem.W.Frag) (C:Addr):Sp:=fun vs H Q _=>vs.length=2∧∃ (x:Addr) (F:Addr→Prop) (st:ExS) (h:Int),vs=[.ref x,.int h]∧ExAt C H x F st∧InB st.hs st.rs∧st.dl=none∧(1≤h∧h≤6∧st.hs.length < 10)∧∀ H' F',ExFr H H' F F'→ExAt C H' x F' { st with hs:=st.hs++[h] }→Q (.int ((st.hs.length:Int)+1)) H'
theorem zdA (T:Txt K mg t):FnOk P w K mg base CX0 2 t.f_25 t.d_25 ["self","house"] (zb8 K t.C_Exam):=by
 have G_39:=zaQ (P:=P) (w:=w) (base:=base) T;have G_20:=zbP (P:=P) (w:=w) (base:=base) T;have G_22:=zdr (P:=P) (w:=w) (base:=base) T;refine T.F_25.ok sc_25 (fun _ _ _ _ h=>h.1) fun cdv A outer s H vs Q E hr h=>by
  refine ⟨_,(zab (zaG (zbt (pv 0) T.cl_Exam T.me_39 G_39 (hr.mono (by decide)) T.b_39 .nil zau))
   (zab (zaG (zal G_20 (hr.mono (by decide)) (by rfl) T.m_20 T.F_20.kp T.b_20 .nil zau (zaa (pv 1) (zaa zad (zaa (zcW (v:=.int 6) (by rfl) T.v_MOST_HOUSES T.w_MOST_HOUSES) pa_nil)))))
   (zab (zaG (zal G_22 (hr.mono (by decide)) (by rfl) T.m_22 T.F_22.kp T.b_22 .nil zau (zaa (zag (zai (K:=K) rfl) (by rfl) T.z_len (by rfl) (zaa (zaF (K:=K) rfl (pv 0)) pa_nil)) (zaa (zcW (v:=.int 10) (by rfl) T.v_MOST_PAPERS T.w_MOST_PAPERS) pa_nil))))
   (zab (zaG (zbp (K:=K) rfl PySem.F.plainAttrs_list PySem.F.slot_list_append PySem.F.type_list_append mt_append (zaF (K:=K) rfl (pv 0)) (zaa (pv 1) pa_nil)))
   (zae (zak (zag (zai (K:=K) rfl) (by rfl) T.z_len (by rfl) (zaa (zaF (K:=K) rfl (pv 0)) pa_nil)))))))),?_⟩
  obtain ⟨_,x,F,st,h,rfl,E0,BB,hd,hp,q⟩:=h;have E0':=E0;walk_at "hd";symm;refine za5 E0' hd ?_;symm;refine zbw (by omega) (by omega) ?_;symm;refine zdW (by omega) ?_;symm;refine zaI hha (by rw [List.length_map];omega) fun H1 b1 e1=>?_;have I1:=I.paper hd b1 e1;have hob:=I1.ob;have e1':=I1.ha;symm;have el:((st.hs++[h]).length:Int)=(st.hs.length:Int)+1:=by rw [List.length_append,List.length_singleton];omega
  rw [el];exact q H1 F (ExFr.but b1 ((hF _).mpr own_a) fun b z=>.inl z) ⟨e,kvs,rfl,hF,I1⟩
theorem zci {K:PySem.W.Frag} {C x:Addr} {H:Hp} {F:Addr→Prop} {st:ExS} {h:Int} {Q:VK} {E:XK} (hE:ExAt C H x F st) (B:InB st.hs st.rs) (hd:st.dl=none) (hp:(1≤h∧h≤6∧st.hs.length < 10)) (q:∀ H' F',ExFr H H' F F'→ExAt C H' x F' { st with hs:=st.hs++[h] }→Q (.int ((st.hs.length:Int)+1)) H'):zb8 K C [.ref x,.int h] H Q E:=⟨rfl,x,F,st,h,rfl,hE,B,hd,hp,q⟩
def zb2 (K:PySem.W.Frag) (C:Addr):Sp:=fun vs H Q _=>vs.length=3∧∃ (x:Addr) (F:Addr→Prop) (st:ExS) (h:Int) (l:Int),vs=[.ref x,.int h,.int l]∧ExAt C H x F st∧InB st.hs st.rs∧st.dl=none∧(0≤h∧h≤6∧0≤l∧l≤30∧st.rs.length < 8)∧∀ H' F',ExFr H H' F F'→ExAt C H' x F' { st with rs:=st.rs++[[h,l]] }→Q (.int ((st.rs.length:Int)+1)) H'
theorem zdn (T:Txt K mg t):FnOk P w K mg base CX0 2 t.f_26 t.d_26 ["self","house","limit"] (zb2 K t.C_Exam):=by
 have G_39:=zaQ (P:=P) (w:=w) (base:=base) T;have G_20:=zbP (P:=P) (w:=w) (base:=base) T;have G_21:=zbb (P:=P) (w:=w) (base:=base) T;have G_22:=zdr (P:=P) (w:=w) (base:=base) T;refine T.F_26.ok sc_26 (fun _ _ _ _ h=>h.1) fun cdv A outer s H vs Q E hr h=>by
  refine ⟨_,(zab (zaG (zbt (pv 0) T.cl_Exam T.me_39 G_39 (hr.mono (by decide)) T.b_39 .nil zau))
   (zab (zaG (zal G_20 (hr.mono (by decide)) (by rfl) T.m_20 T.F_20.kp T.b_20 .nil zau (zaa (pv 1) (zaa zad (zaa (zcW (v:=.int 6) (by rfl) T.v_MOST_HOUSES T.w_MOST_HOUSES) pa_nil)))))
   (zab (zaG (zal G_21 (hr.mono (by decide)) (by rfl) T.m_21 T.F_21.kp T.b_21 .nil zau (zaa (pv 2) (zaa (zcW (v:=.int 30) (by rfl) T.v_MOST_LIMIT T.w_MOST_LIMIT) pa_nil))))
   (zab (zaG (zal G_22 (hr.mono (by decide)) (by rfl) T.m_22 T.F_22.kp T.b_22 .nil zau (zaa (zag (zai (K:=K) rfl) (by rfl) T.z_len (by rfl) (zaa (zaF (K:=K) rfl (pv 0)) pa_nil)) (zaa (zcW (v:=.int 8) (by rfl) T.v_MOST_READERS T.w_MOST_READERS) pa_nil))))
   (zab (zaG (zbp (K:=K) rfl PySem.F.plainAttrs_list PySem.F.slot_list_append PySem.F.type_list_append mt_append (zaF (K:=K) rfl (pv 0)) (zaa (zaM (zaa (pv 1) (zaa (pv 2) pa_nil))) pa_nil)))
   (zae (zak (zag (zai (K:=K) rfl) (by rfl) T.z_len (by rfl) (zaa (zaF (K:=K) rfl (pv 0)) pa_nil))))))))),?_⟩
  obtain ⟨_,x,F,st,h,l,rfl,E0,BB,hd,hp,q⟩:=h;have E0':=E0;walk_at "hd";have lp:=I.lp;symm;refine za5 E0' hd ?_;symm;refine zbw (by omega) (by omega) ?_;symm;refine zbg (by omega) (by omega) ?_;symm;refine zdW (by omega) ?_;symm;refine zat (by simp) fun r H1 f1 s1 e1=>?_;symm;refine zaI (s1 _ _ hhb) (by rw [List.length_map];omega) fun H2 b2 e2=>?_;have I1:ExIn t.C_Exam H1 e st kvs:=I.keep fun b o _ z=>s1 b o z;have I2:=I1.reader (row:=[h,l]) (I.new f1) e1 b2 e2;have hob:=I2.ob;have e1':=I2.hb;symm;have el:((e.ps++[r]).length:Int)=(st.rs.length:Int)+1:=by rw [List.length_append,List.length_singleton];omega
  rw [el];refine q H2 _ ⟨fun b o eb nb=>?_,fun b z=>?_⟩ I2.at
  ·rw [b2 _ (fun z=>nb ((hF _).mpr (by rw [z];exact own_b)))];exact s1 _ _ eb
  ·rcases ziN z with z | z
   ·exact .inl ((hF b).mpr z)
   ·exact .inr (z▸f1)
theorem zdB {K:PySem.W.Frag} {C x:Addr} {H:Hp} {F:Addr→Prop} {st:ExS} {h:Int} {l:Int} {Q:VK} {E:XK} (hE:ExAt C H x F st) (B:InB st.hs st.rs) (hd:st.dl=none) (hp:(0≤h∧h≤6∧0≤l∧l≤30∧st.rs.length < 8)) (q:∀ H' F',ExFr H H' F F'→ExAt C H' x F' { st with rs:=st.rs++[[h,l]] }→Q (.int ((st.rs.length:Int)+1)) H'):zb2 K C [.ref x,.int h,.int l] H Q E:=⟨rfl,x,F,st,h,l,rfl,hE,B,hd,hp,q⟩
def zfd (K:PySem.W.Frag) (C:Addr):Sp:=fun vs H Q _=>vs.length=4∧∃ (a b:Addr) (s n:Int) (hs:List Int) (rs:List (List Int)),vs=[.ref a,.ref b,.int s,.int n]∧SqL K H a (hs.map V.int)∧LL K H b rs∧InB hs rs∧0≤s∧s≤100∧∀ x F H',H x=none→Same H H'→(∀ c o,H c=some o→¬F c)→ExAt C H' x F ⟨hs,rs,s,none⟩→Q (.ref x) H'
theorem zhv (T:Txt K mg t):FnOk P w K mg base CX0 3 t.f_55 t.d_55 ["_law_homes","_law_staff","_law_step_here","_law_turn"] (zfd K t.C_Exam):=by
 have G_24:=zeG (P:=P) (w:=w) (base:=base) T;have G_27:=zeH (P:=P) (w:=w) (base:=base) T;have G_25:=zdA (P:=P) (w:=w) (base:=base) T;have G_26:=zdn (P:=P) (w:=w) (base:=base) T;refine T.F_55.ok sc_55 (fun _ _ _ _ h=>h.1) fun cdv A outer s H vs Q E hr h=>by
  refine ⟨_,(zab (zax (i:=4) sc_55.nd rfl (Or.inl rfl) (zkI T.mk_Exam G_24 (hr.mono (by decide)) (by rfl) T.mg_Exam T.b_24 .nil zau))
   (zab (zaG (zbf (pv 4) T.cl_Exam T.me_27 G_27 (hr.mono (by decide)) T.b_27 .nil zau (zaa (pv 2) pa_nil)))
   (zab (zaS (zap (zbK (K:=K) rfl hr.units0) (zaq (op_mod) (pv 3) zad) zad (zaC _))
   (zae (zaZ PassesOwn.never rfl (zaJ (K:=K) rfl (pv 0)) (zar (i:=5) sc_55.nd rfl (Or.inl rfl))
   (zae (zaG (zbf (pv 4) T.cl_Exam T.me_25 G_25 (hr.mono (by decide)) T.b_25 .nil zau (zaa (pv 5) pa_nil)))))) pss_nil)
   (zab (zaZ PassesOwn.never rfl (zaJ (K:=K) rfl (pv 1)) (zar (i:=6) sc_55.nd rfl (Or.inl rfl))
   (zae (zaG (zbf (pv 4) T.cl_Exam T.me_26 G_26 (hr.mono (by decide)) T.b_26 .nil zau (zaa (zaw (zaf (K:=K) rfl) (pv 6) zad (fun _ _=>rfl)) (zaa (zaw (zaf (K:=K) rfl) (pv 6) zad (fun _ _=>rfl)) pa_nil))))))
   (zab (zaS (zap (zbK (K:=K) rfl hr.units0) (zaq (op_mod) (pv 3) zad) zad (zaC _))
   (zae (zaZ PassesOwn.never rfl (zaJ (K:=K) rfl (pv 0)) (zar (i:=5) sc_55.nd rfl (Or.inl rfl))
   (zae (zaG (zbf (pv 4) T.cl_Exam T.me_25 G_25 (hr.mono (by decide)) T.b_25 .nil zau (zaa (pv 5) pa_nil)))))) pss_nil)
   (zae (zak (pv 4)))))))),?_⟩
  obtain ⟨_,a,b,s,n,hs,rs,rfl,ha,L,B,s0,s100,q⟩:=h;have B1:=B.lp;have B2:=B.lr;obtain ⟨psr,hb,hpl,hpr⟩:=id L;have Bp:∀ i,InB (hs.take i) []:=fun i=>by
   have:=(B.take 0).takeH i;rw [List.take_zero] at this;exact this
  walk_at "st";refine zjI ?_;walk_at "st";refine zgB fun x dx H1 fx fdx ne s1 ex=>?_;refine zhu ex fun H2 F k2 fF E2=>⟨rfl,?_⟩
  have S2:Same H H2:=fun c o e=>k2 c o (s1 c o e) (fun z=>by rw [z,fx] at e;cases e) (fun z=>by rw [z,fdx] at e;cases e);have nF:∀ c o,H c=some o→¬F c:=fun c o e z=>by
   rcases fF c z with z | z | z
   ·rw [z,fx] at e;cases e
   ·rw [z,fdx] at e;cases e
   ·rw [s1 c o e] at z;cases z
  have B0:InB ([]:List Int) []:=by have:=Bp 0;rwa [List.take_zero] at this
  obtain ⟨dx2,fs2,hob2,hlk2⟩:=E2.ob;walk_at "st";refine zjI ?_;walk_at "st";refine zaN hob2 (hlk2 _ (by decide +kernel)) ?_;walk_at "st";refine zfc E2 B0 rfl ⟨s0,s100⟩ fun H3 F3 f3 E3=>?_;obtain ⟨nF3,S3⟩:=f3.nf S2 nF;have E3':ExAt t.C_Exam H3 x F3 ⟨hs.take 0,rs.take 0,s,none⟩:=by rw [List.take_zero,List.take_zero];exact E3
  walk_at "st";refine ze0 (fun σ H'=>∃ (F:Addr→Prop) (k:Nat) (v5 v6:Option V),σ=[some (.ref a),some (.ref b),some (.int s),some (.int n),some (.ref x),v5,v6]∧Same H H'∧(∀ c o,H c=some o→¬F c)∧ExAt t.C_Exam H' x F ⟨hs.take k,rs.take 0,s,none⟩∧((n % 2=0∧k=hs.length)∨(n % 2=1∧k=0))) ?_ ?_
  ·intro nx' hnx;have S':=S3;have nF':=nF3;have E':=E3';symm;refine zbi (fun h1=>?_) (fun h1=>?_)
   ·skip
    symm;refine zaT (S'.seq ha) ?_;refine zbN (xs:=hs.map V.int) (fun i σ H'=>∃ (F:Addr→Prop) (v5 v6:Option V),σ=[some (.ref a),some (.ref b),some (.int s),some (.int n),some (.ref x),v5,v6]∧Same H H'∧(∀ c o,H c=some o→¬F c)∧ExAt t.C_Exam H' x F ⟨hs.take i,rs.take 0,s,none⟩) ⟨_,_,_,rfl,S',nF',E'⟩ ?_ ?_ ?_
    ·rintro i σ H4 _ ⟨F4,w5,w6,rfl,S4,n4,E4⟩;exact S4.seq ha
    ·rintro i y σ H4 hy ⟨F4,w5,w6,rfl,S4,n4,E4⟩;obtain ⟨hi,rfl⟩:=zcz hy;obtain ⟨dx4,fs4,hob4,hlk4⟩:=E4.ob;have hh:=B.hh i hi;symm;refine zaN hob4 (hlk4 _ (by decide +kernel)) ?_;symm;refine zci E4 ((B.take 0).takeH i) rfl ⟨hh.1,hh.2,by show (hs.take i).length < 10;rw [List.length_take];omega⟩ fun H5 F5 f5 E5=>?_;obtain ⟨n5,S5⟩:=f5.nf S4 n4;symm;refine ⟨F5,_,_,rfl,S5,n5,?_⟩;have et:hs.take (i+1)=hs.take i++[hs.getD i 0]:=by rw [List.take_add_one,List.getElem?_eq_getElem hi,List.getD_eq_getElem?_getD,List.getElem?_eq_getElem hi];rfl
     rw [et];exact E5
    ·rintro σ H4 ⟨F4,w5,w6,rfl,S4,n4,E4⟩;rw [List.length_map] at E4;exact hnx _ _ ⟨F4,hs.length,_,_,rfl,S4,n4,E4,.inl ⟨h1,rfl⟩⟩
   ·symm;exact hnx _ _ ⟨F3,0,_,_,rfl,S3,nF3,E3',.inr ⟨by omega,rfl⟩⟩
  rintro σ H' ⟨F',k,v5,v6,rfl,S',nF',E',hk⟩;walk_at "st";refine ze0 (fun σ H'=>∃ (F:Addr→Prop) (k:Nat) (v5 v6:Option V),σ=[some (.ref a),some (.ref b),some (.int s),some (.int n),some (.ref x),v5,v6]∧Same H H'∧(∀ c o,H c=some o→¬F c)∧ExAt t.C_Exam H' x F ⟨hs.take k,rs.take rs.length,s,none⟩∧((n % 2=0∧k=hs.length)∨(n % 2=1∧k=0))) ?_ ?_
  ·intro nx' hnx;symm;refine zaT (S'.seq hb) ?_;refine zbN (xs:=psr.map V.ref) (fun i σ H'=>∃ (F:Addr→Prop) (v5 v6:Option V),σ=[some (.ref a),some (.ref b),some (.int s),some (.int n),some (.ref x),v5,v6]∧Same H H'∧(∀ c o,H c=some o→¬F c)∧ExAt t.C_Exam H' x F ⟨hs.take k,rs.take i,s,none⟩) ⟨_,_,_,rfl,S',nF',E'⟩ ?_ ?_ ?_
   ·rintro i σ H4 _ ⟨F4,w5,w6,rfl,S4,n4,E4⟩;exact S4.seq hb
   ·rintro i y σ H4 hy ⟨F4,w5,w6,rfl,S4,n4,E4⟩;obtain ⟨hi,rfl⟩:=zfZ hy;have hi':i < rs.length:=by omega
    obtain ⟨dx4,fs4,hob4,hlk4⟩:=E4.ob;have hrow:=S4 _ _ (hpr i hi');have h2:=B.r2 i hi';have hh:=B.rh i hi';have hl:=B.rl i hi';have erow:rs.getD i []=[(rs.getD i []).getD 0 0,(rs.getD i []).getD 1 0]:=len2 h2;symm;refine zaN hob4 (hlk4 _ (by decide +kernel)) ?_;symm;refine zdB (h:=(rs.getD i []).getD 0 0) (l:=(rs.getD i []).getD 1 0) E4 ((B.take i).takeH k) rfl ⟨hh.1,hh.2,hl.1,hl.2,by show (rs.take i).length < 8;rw [List.length_take];omega⟩ fun H5 F5 f5 E5=>?_;obtain ⟨n5,S5⟩:=f5.nf S4 n4;symm;refine ⟨F5,_,_,rfl,S5,n5,?_⟩;have et:rs.take (i+1)=rs.take i++[rs.getD i []]:=by rw [List.take_add_one,List.getElem?_eq_getElem hi',List.getD_eq_getElem?_getD,List.getElem?_eq_getElem hi'];rfl
    rw [et,erow];exact E5
   ·rintro σ H4 ⟨F4,w5,w6,rfl,S4,n4,E4⟩;rw [List.length_map,hpl] at E4;exact hnx _ _ ⟨F4,k,_,_,rfl,S4,n4,E4,hk⟩
  rintro σ H' ⟨F',k,v5,v6,rfl,S',nF',E',hk⟩;walk_at "st";refine ze0 (fun σ H'=>∃ (F:Addr→Prop) (v5 v6:Option V),σ=[some (.ref a),some (.ref b),some (.int s),some (.int n),some (.ref x),v5,v6]∧Same H H'∧(∀ c o,H c=some o→¬F c)∧ExAt t.C_Exam H' x F ⟨hs,rs,s,none⟩) ?_ ?_
  ·intro nx' hnx;symm;refine zbi (fun h1=>?_) (fun h1=>?_)
   ·have hk0:k=0:=by omega
    subst hk0;symm;refine zaT (S'.seq ha) ?_;refine zbN (xs:=hs.map V.int) (fun i σ H'=>∃ (F:Addr→Prop) (v5 v6:Option V),σ=[some (.ref a),some (.ref b),some (.int s),some (.int n),some (.ref x),v5,v6]∧Same H H'∧(∀ c o,H c=some o→¬F c)∧ExAt t.C_Exam H' x F ⟨hs.take i,rs.take rs.length,s,none⟩) ⟨_,_,_,rfl,S',nF',E'⟩ ?_ ?_ ?_
    ·rintro i σ H4 _ ⟨F4,w5,w6,rfl,S4,n4,E4⟩;exact S4.seq ha
    ·rintro i y σ H4 hy ⟨F4,w5,w6,rfl,S4,n4,E4⟩;obtain ⟨hi,rfl⟩:=zcz hy;obtain ⟨dx4,fs4,hob4,hlk4⟩:=E4.ob;have hh:=B.hh i hi;symm;refine zaN hob4 (hlk4 _ (by decide +kernel)) ?_;symm;refine zci E4 ((B.take rs.length).takeH i) rfl ⟨hh.1,hh.2,by show (hs.take i).length < 10;rw [List.length_take];omega⟩ fun H5 F5 f5 E5=>?_;obtain ⟨n5,S5⟩:=f5.nf S4 n4;symm;refine ⟨F5,_,_,rfl,S5,n5,?_⟩;have et:hs.take (i+1)=hs.take i++[hs.getD i 0]:=by rw [List.take_add_one,List.getElem?_eq_getElem hi,List.getD_eq_getElem?_getD,List.getElem?_eq_getElem hi];rfl
     rw [et];exact E5
    ·rintro σ H4 ⟨F4,w5,w6,rfl,S4,n4,E4⟩;rw [List.length_map] at E4;rw [List.take_length,List.take_length] at E4;exact hnx _ _ ⟨F4,_,_,rfl,S4,n4,E4⟩
   ·have hk0:k=hs.length:=by omega
    subst hk0;rw [List.take_length,List.take_length] at E';symm;exact hnx _ _ ⟨F',_,_,rfl,S',nF',E'⟩
  rintro σ H' ⟨F',v5,v6,rfl,S',nF',E'⟩;symm;exact q x F' H' fx S' nF' E'
theorem zfN {C:Addr} {H:Hp} {a b:Addr} {s n:Int} {hs:List Int} {rs:List (List Int)} {Q:VK} {E:XK} (h1:SqL K H a (hs.map V.int)) (h2:LL K H b rs) (B:InB hs rs) (s0:0≤s) (s1:s≤100) (q:∀ x F H',H x=none→Same H H'→(∀ c o,H c=some o→¬F c)→ExAt C H' x F ⟨hs,rs,s,none⟩→Q (.ref x) H'):zfd K C [.ref a,.ref b,.int s,.int n] H Q E:=⟨rfl,a,b,s,n,hs,rs,rfl,h1,h2,B,s0,s1,q⟩
def zet (K:PySem.W.Frag):Sp:=fun vs H Q _=>vs.length=2∧∃ b c:Bool,vs=[.bl b,.bl c]∧Q (.bl (decide (b=c))) H
theorem zgP (T:Txt K mg t):FnOk P w K mg base CX0 1 t.f_49 t.d_49 ["_law_found","_law_due"] (zet K):=by
 refine T.F_49.ok sc_49 (fun _ _ _ _ h=>h.1) fun cdv A outer s H vs Q E hr h=>by
  refine ⟨_,(zae (zak (zjg (zag (zaP (K:=K) rfl) (by rfl) T.z_isinstance (by rfl) (zaa (pv 0) (zaa (zcy (v:=.ty "bool") (u:=.type "bool") (by rfl) T.z_bool (by rfl) rfl) pa_nil))) (zjf (zdx (zbK (K:=K) rfl hr.units0) (pv 0) (pv 1) (zaC _)))))),?_⟩;obtain ⟨_,b,c,rfl,q⟩:=h;symm;refine iteT ?_;symm;exact q
theorem zfe {H:Hp} {b c:Bool} {Q:VK} {E:XK} (q:Q (.bl (decide (b=c))) H):zet K [.bl b,.bl c] H Q E:=⟨rfl,_,_,rfl,q⟩
local macro_rules | `(tactic| walk_at "rd1")=>`(tactic| (with_reducible refine zfe ?_))
theorem zik {B H H':Hp} {p:Addr} {rs:List (List Int)} (R:RowsAt B p rs H) (s:Same H H'):RowsAt B p rs H':=by
 obtain ⟨a1,a2,ps,a3,a4,a5,a6⟩:=R;exact ⟨a1.trans s,a2,ps,s _ _ a3,a4,a5,fun i hi=>⟨s _ _ (a6 i hi).1,(a6 i hi).2⟩⟩
def zff (K:PySem.W.Frag):Sp:=fun vs H Q _=>vs.length=1∧∃ (a:Addr) (ns:List Int),vs=[.ref a]∧SqL K H a (ns.map V.int)∧ns.length≤8∧∀ p H',RowsAt H p (prsB ns) H'→Q (.ref p) H'
theorem zhw (T:Txt K mg t):FnOk P w K mg base CX0 1 t.f_12 t.d_12 ["numbers"] (zff K):=by
 refine T.F_12.ok sc_12 (fun _ _ _ _ h=>h.1) fun cdv A outer s H vs Q E hr h=>by
  refine ⟨_,(zab (zax (i:=1) sc_12.nd rfl (Or.inl rfl) (zaM pa_nil))
   (zab (zaZ PassesOwn.never rfl (zk6 (K:=K) rfl (by rfl) T.z_enumerate (zaa (pv 0) pa_nil)) (zfY (K:=K) (n:=2) rfl rfl (zce (zar (i:=2) sc_12.nd rfl (Or.inl rfl)) (zce (zar (i:=3) sc_12.nd rfl (Or.inl rfl)) pgs_nil)))
   (zae (zaZ PassesOwn.never rfl (zaJ (K:=K) rfl (zdL (zdP (K:=K) rfl) (pv 0) (zeU (zaq (op_addG) (pv 2) zad)) po_none)) (zar (i:=4) sc_12.nd rfl (Or.inl rfl))
   (zae (zaG (zbp (K:=K) rfl PySem.F.plainAttrs_list PySem.F.slot_list_append PySem.F.type_list_append mt_append (pv 1) (zaa (zaM (zaa (pv 3) (zaa (pv 4) pa_nil))) pa_nil)))))))
   (zae (zak (pv 1))))),?_⟩
  obtain ⟨_,a,ns,rfl,ha,hl,q⟩:=h;have hpl:=prs_len ns;have hpl2:(prsB ns).length≤64:=Nat.le_trans hpl (Nat.mul_le_mul hl hl);symm;refine zat (by decide) fun p1 H1 f1 s1 e1=>?_;symm;refine zh3 (s1.seq ha) ?_;refine zmr (xs:=ns.map V.int) (fun i σ H'=>∃ rows v2 v3 v4,σ=[some (.ref a),some (.ref p1),v2,v3,v4]∧RowsAt H p1 rows H'∧rows++prsB (ns.drop i)=prsB ns) ⟨[],none,none,none,rfl,RowsAt.start f1 s1 e1,by simp⟩ ?_ ?_ ?_
  ·rintro i σ H' _ ⟨rows,_,_,_,rfl,R,_⟩;exact R.same.seq ha
  ·rintro i x σ H0 H' hx ⟨rows,v2,v3,v4,rfl,R0,er⟩ s0;obtain ⟨hi,rfl⟩:=zcz hx;have R:RowsAt H p1 rows H':=zik R0 s0;rw [zld hi] at er;symm;refine zct (R.same.seq ha) fun p2 H2 f2 s2 e2=>?_;have np:p2≠p1:=by
    obtain ⟨zs,hz,_⟩:=R.lst;exact (zaj hz f2).symm
   have ei:(0+(i:Int)+1)=((i+1:Nat):Int):=by omega
   rw [ei,zgw,← List.map_drop] at e2;refine zaT (SqL.of e2) ?_;generalize ens:ns.drop (i+1)=ys at *;generalize ns.getD i 0=x at *;refine zbN (xs:=ys.map V.int) (fun j σ H'=>∃ rows2 v4,σ=[some (.ref a),some (.ref p1),some (.int (0+(i:Int))),some (.int x),v4]∧RowsAt H p1 rows2 H'∧H' p2=some (.lst (ys.map V.int))∧rows2++((ys.drop j).map (fun y=>[x,y])++prsB ys)=prsB ns) ⟨rows,v4,rfl,zik R s2,e2,er⟩ ?_ ?_ ?_
   ·rintro j σ H3 _ ⟨rows2,_,rfl,R3,e3,_⟩;exact SqL.of e3
   ·rintro j y σ H3 hy ⟨rows2,v4,rfl,R3,e3,er3⟩;obtain ⟨hj,rfl⟩:=zcz hy;obtain ⟨zs,hz,hzl⟩:=R3.lst;have hlen:rows2.length≤64:=by
     have:=congrArg List.length er3;rw [List.length_append] at this;omega
    symm;refine zat (by simp) fun p4 H4 f4 s4 e4=>?_;symm;refine zaI (s4 _ _ hz) (by omega) fun H5 b5 e5=>?_;symm;refine ⟨rows2++[[x,ys.getD j 0]],_,rfl,R3.push f4 s4 e4 (s4 _ _ hz) b5 e5,by rw [b5 _ np];exact s4 _ _ e3,?_⟩;rw [List.drop_eq_getElem_cons hj] at er3;rw [List.append_assoc,← er3,List.getD_eq_getElem?_getD,List.getElem?_eq_getElem hj];rfl
   ·rintro σ H3 ⟨rows2,v4,rfl,R3,e3,er3⟩;rw [List.length_map,List.drop_length,List.map_nil,List.nil_append] at er3;exact ⟨rows2,_,_,_,rfl,R3,by first | exact er3 | (rw [ens];exact er3)⟩
  ·rintro σ H' ⟨rows,v2,v3,v4,rfl,R,er⟩;rw [List.length_map,List.drop_length] at er;have er2:rows=prsB ns:=by
    rw [← er];unfold prsB;simp
   symm;rw [← er2] at q;exact q _ _ R
theorem ziW {H:Hp} {Q:VK} {E:XK} {a:Addr} {ns:List Int} (h:SqL K H a (ns.map V.int)) (hl:ns.length≤8) (q:∀ p H',RowsAt H p (prsB ns) H'→Q (.ref p) H'):zff K [.ref a] H Q E:=⟨rfl,a,ns,rfl,h,hl,q⟩
def zfg (K:PySem.W.Frag):Sp:=fun vs H Q _=>vs.length=4∧∃ (a b:Addr) (k j:Int) (hs:List Int) (rs:List (List Int)),vs=[.ref a,.ref b,.int k,.int j]∧SqL K H a (hs.map V.int)∧LL K H b rs∧1≤k∧k≤hs.length∧1≤j∧j≤rs.length∧(∀ i,i < rs.length→(rs.getD i []).length=2) ∧
 Q (.bl (!decide ((rs.getD (j-1).toNat []).getD 0 0=hs.getD (k-1).toNat 0))) H
theorem zhx (T:Txt K mg t):FnOk P w K mg base CX0 1 t.f_1 t.d_1 ["papers","readers","paper","reader"] (zfg K):=by
 refine T.F_1.ok sc_1 (fun _ _ _ _ h=>h.1) fun cdv A outer s H vs Q E hr h=>by
  refine ⟨_,(zab (zax (i:=4) sc_1.nd rfl (Or.inl rfl) (zaw (zaf (K:=K) rfl) (zaw (zaf (K:=K) rfl) (pv 1) (zaq (op_sub) (pv 3) zad) (fun _ _=>rfl)) zad (fun _ _=>rfl)))
   (zae (zak (zdx (zcN (K:=K) rfl hr.units0) (pv 4) (zaw (zaf (K:=K) rfl) (pv 0) (zaq (op_sub) (pv 2) zad) (fun _ _=>rfl)) (zaC _))))),?_⟩
  obtain ⟨_,a,b,k,j,hs,rs,rfl,ha,⟨ps,hb,hl,hr⟩,k1,k2,j1,j2,h2,q⟩:=h;have hj:(j-1).toNat < rs.length:=by omega
  have hr':=hr _ hj;have h2':=h2 _ hj;symm;exact q
theorem ziX {H:Hp} {a b:Addr} {k j:Int} {hs:List Int} {rs:List (List Int)} {Q:VK} {E:XK} (h1:SqL K H a (hs.map V.int)) (h2:LL K H b rs) (k1:1≤k) (k2:k≤hs.length) (j1:1≤j) (j2:j≤rs.length) (h3:∀ i,i < rs.length→(rs.getD i []).length=2)
  (q:Q (.bl (!decide ((rs.getD (j-1).toNat []).getD 0 0=hs.getD (k-1).toNat 0))) H):zfg K [.ref a,.ref b,.int k,.int j] H Q E:=⟨rfl,a,b,k,j,hs,rs,rfl,h1,h2,k1,k2,j1,j2,h3,q⟩
def mayB (hs:List Int) (rs:List (List Int)) (k:Int) (i:Nat):Bool:=!decide ((rs.getD i []).getD 0 0=hs.getD (k-1).toNat 0)
def zah (hs:List Int) (rs:List (List Int)) (k:Int):List Int:=((List.range rs.length).filter (mayB hs rs k)).map fun i:Nat=>1+(i:Int)
def zds (K:PySem.W.Frag):Sp:=fun vs H Q _=>vs.length=3∧∃ (a b:Addr) (k:Int) (hs:List Int) (rs:List (List Int)),vs=[.ref a,.ref b,.int k]∧SqL K H a (hs.map V.int)∧LL K H b rs∧1≤k∧k≤hs.length∧rs.length≤1000∧(∀ i,i < rs.length→(rs.getD i []).length=2) ∧
 ∀ p H2,H p=none→Same H H2→H2 p=some (.lst ((zah hs rs k).map V.int))→Q (.ref p) H2
theorem zcr (T:Txt K mg t):FnOk P w K mg base CX0 2 t.f_2 t.d_2 ["papers","readers","paper"] (zds K):=by
 have G_1:=zhx (P:=P) (w:=w) (base:=base) T;refine T.F_2.ok sc_2 (fun _ _ _ _ h=>h.1) fun cdv A outer s H vs Q E hr h=>by
  refine ⟨_,(zae (zak (za7 (zas (sc:=zac s_2) (XN:=["papers","readers","paper"]) (N:=["reader","papers","readers","paper"]) (own:=1) (js:=[0,1,2]) rfl rfl (by decide +kernel)) rfl (zb4 (by rfl) T.z_range (zaa zad (zaa (zaq (op_addG) (zag (zai (K:=K) rfl) (by rfl) T.z_len (by rfl) (zaa (pv 1) pa_nil)) zad) pa_nil))) (fun _ _ _ _ _=>(zar (i:=0) (show List.Nodup [(Str.ofString "reader"),(Str.ofString "papers"),(Str.ofString "readers"),(Str.ofString "paper")] by decide +kernel) rfl (Or.inl rfl))) (fun _ _ _ _ _=>(zb5 (zav (K:=K) rfl (zal G_1 (hr.mono (by decide)) (by rfl) T.m_1 T.F_1.kp T.b_1 .nil zau (zaa (pv 1) (zaa (pv 2) (zaa (pv 3) (zaa (pv 0) pa_nil))))) (fun _=>rfl)))) (fun _ _ _ _ _=>(pv 0))))),?_⟩;obtain ⟨_,a,b,k,hs,rs,rfl,ha,L,k1,k2,hz,h2,q⟩:=h;obtain ⟨ps,hb,hl,hr'⟩:=id L;symm;refine zeY ⟨by omega,by omega,by omega,by omega⟩ ?_;have en:((ps.length:Int)+1-1).toNat=rs.length:=by omega
  rw [en];refine zeZ (zbM _ _ _) (by omega) (mayB hs rs k) (fun i=>1+(i:Int)) (fun i H' Q' hi s q'=>?_) (fun i H' Q' hi s hc q'=>?_) fun p H2 f s e=>q p H2 f s e
  ·have ha':=s.seq ha;have L':=L.same s;symm;refine ziX ha' L' k1 k2 (by omega) (by omega) h2 ?_;symm;have e:(1+(i:Int)-1).toNat=i:=by omega
   rw [e];exact q'
  ·symm;exact q'
theorem zcH {H:Hp} {a b:Addr} {k:Int} {hs:List Int} {rs:List (List Int)} {Q:VK} {E:XK} (h1:SqL K H a (hs.map V.int)) (h2:LL K H b rs) (k1:1≤k) (k2:k≤hs.length) (hz:rs.length≤1000) (h3:∀ i,i < rs.length→(rs.getD i []).length=2)
  (q:∀ p H2,H p=none→Same H H2→H2 p=some (.lst ((zah hs rs k).map V.int))→Q (.ref p) H2):zds K [.ref a,.ref b,.int k] H Q E:=⟨rfl,a,b,k,hs,rs,rfl,h1,h2,k1,k2,hz,h3,q⟩
def zfh (K:PySem.W.Frag):Sp:=fun vs H Q _=>vs.length=2∧∃ (b:Addr) (rows:List (List Int)) (x:Int),vs=[.ref b,.int x]∧LL K H b rows∧rows.length≤20∧∀ H',Same H H'→Q (.int (cntB rows x:Int)) H'
theorem zhy (T:Txt K mg t):FnOk P w K mg base CX0 1 t.f_9 t.d_9 ["rows","reader"] (zfh K):=by
 refine T.F_9.ok sc_9 (fun _ _ _ _ h=>h.1) fun cdv A outer s H vs Q E hr h=>by
  refine ⟨_,(zae (zak (zag (zai (K:=K) rfl) (by rfl) T.z_len (by rfl) (zaa (za7 (zas (sc:=zac s_9) (XN:=["rows","reader"]) (N:=["row","reader"]) (own:=1) (js:=[1]) rfl rfl (by decide +kernel)) rfl (zaJ (K:=K) rfl (pv 0)) (fun _ _ _ _ _=>(zar (i:=0) (show List.Nodup [(Str.ofString "row"),(Str.ofString "reader")] by decide +kernel) rfl (Or.inl rfl))) (fun _ _ _ _ _=>(zb5 (zap (zes (K:=K) rfl (zcY hr)) (pv 1) (pv 0) (by with_unfolding_all rfl)))) (fun _ _ _ _ _=>(pv 0))) pa_nil)))),?_⟩;obtain ⟨_,b,rows,x,rfl,L,hl,q⟩:=h;obtain ⟨ps,hb,hpl,hr⟩:=id L;symm;refine zaT hb ?_;refine zeM hb hpl (by omega) (x:=x) (fun i H' Q' hi s q'=>?_) fun p H2 zs f s e ez=>?_
  ·have hrow:=s _ _ (hr i hi);symm;exact q'
  symm;rw [ez];exact q _ s
theorem ziY {H:Hp} {b:Addr} {rows:List (List Int)} {x:Int} {Q:VK} {E:XK} (h:LL K H b rows) (hl:rows.length≤20) (q:∀ H',Same H H'→Q (.int (cntB rows x:Int)) H'):zfh K [.ref b,.int x] H Q E:=⟨rfl,b,rows,x,rfl,h,hl,q⟩
theorem zlr (rs rows:List (List Int)) (n:Nat) (hn:n=rs.length):((List.range n).filter fun _=>true).map (fun i=>V.int ((rs.getD i []).getD 1 0-(cntB rows (1+(i:Int)):Int)))=(za4 rs rows).map V.int:=by
 subst hn;rw [List.filter_eq_self.mpr (fun _ _=>rfl)];unfold za4;rw [List.map_map];refine List.map_congr_left fun i _=>?_;show V.int _=V.int _;rw [Int.add_comm 1 (i:Int)]
def zdX (K:PySem.W.Frag):Sp:=fun vs H Q _=>vs.length=2∧∃ (a b:Addr) (rs rows:List (List Int)),vs=[.ref a,.ref b]∧LL K H a rs∧LL K H b rows∧rs.length≤8∧rows.length≤20∧(∀ i,i < rs.length→(rs.getD i []).length=2)∧∀ p H',H p=none→Same H H'→H' p=some (.lst ((za4 rs rows).map V.int))→Q (.ref p) H'
theorem zcI (T:Txt K mg t):FnOk P w K mg base CX0 2 t.f_8 t.d_8 ["readers","rows"] (zdX K):=by
 have G_9:=zhy (P:=P) (w:=w) (base:=base) T;refine T.F_8.ok sc_8 (fun _ _ _ _ h=>h.1) fun cdv A outer s H vs Q E hr h=>by
  refine ⟨_,(zae (zak (za7 (zas (sc:=zac s_8) (XN:=["readers","rows"]) (N:=["reader","row","rows"]) (own:=2) (js:=[1]) rfl rfl (by decide +kernel)) rfl (zk7 (K:=K) rfl (by rfl) T.z_enumerate (zaa (pv 0) pa_nil)) (fun _ _ _ _ _=>(zfY (K:=K) (n:=2) rfl rfl (zce (zar (i:=0) (show List.Nodup [(Str.ofString "reader"),(Str.ofString "row"),(Str.ofString "rows")] by decide +kernel) rfl (Or.inl rfl)) (zce (zar (i:=1) (show List.Nodup [(Str.ofString "reader"),(Str.ofString "row"),(Str.ofString "rows")] by decide +kernel) rfl (Or.inl rfl)) pgs_nil)))) (fun _ _ _ _ _=>zbx) (fun _ _ _ _ _=>(zaq (op_sub) (zaw (zaf (K:=K) rfl) (pv 1) zad (fun _ _=>rfl)) (zal G_9 (hr.mono (by decide)) (by rfl) T.m_9 T.F_9.kp T.b_9 .nil zau (zaa (pv 2) (zaa (pv 0) pa_nil)))))))),?_⟩;obtain ⟨_,a,b,rs,rows,rfl,L1,L2,l1,l2,r2,q⟩:=h;obtain ⟨ps,ha,hpl,hpr⟩:=id L1;have en:(ps.map V.ref).length=rs.length:=by rw [List.length_map];exact hpl
  symm;refine zh3 ha ?_;refine zgz (zco.enum ha) (by omega) (fun _=>true) (fun i=>.int ((rs.getD i []).getD 1 0-(cntB rows (1+(i:Int)):Int))) (fun i H' Q' _ _ q'=>q' _ (Same.refl _)) (fun i H' Q' hi s _ q'=>?_) fun p H2 f s e=>?_
  ·have hi':i < rs.length:=by omega
   have ex:(ps.map V.ref).getD i .non=.ref (ps.getD i 0):=by
    rw [List.getD_eq_getElem?_getD,List.getElem?_map,List.getElem?_eq_getElem (by omega),List.getD_eq_getElem?_getD,List.getElem?_eq_getElem (by omega)];rfl
   rw [ex];have h2:=r2 i hi';have hrow:=s _ _ (hpr i hi');show (_:TE) (some (.int (1+(i:Int)))::some (.ref (ps.getD i 0))::_) _ _;symm;refine ziY (L2.same s) l2 fun H3 s3=>?_;symm;exact q' _ s3
  rw [zlr rs rows _ en] at e;exact q p H2 f s e
theorem zcJ {H:Hp} {a b:Addr} {rs rows:List (List Int)} {Q:VK} {E:XK} (h1:LL K H a rs) (h2:LL K H b rows) (l1:rs.length≤8) (l2:rows.length≤20) (r2:∀ i,i < rs.length→(rs.getD i []).length=2)
  (q:∀ p H',H p=none→Same H H'→H' p=some (.lst ((za4 rs rows).map V.int))→Q (.ref p) H'):zdX K [.ref a,.ref b] H Q E:=⟨rfl,a,b,rs,rows,rfl,h1,h2,l1,l2,r2,q⟩
def zhz (rs rows:List (List Int)):Bool:=(za4 rs rows).all fun x=>decide (0≤x)
theorem zls (ns:List Int) (n:Nat) (hn:n=ns.length):((List.range n).filter fun _=>true).map (fun i=>V.bl (decide (0≤ns.getD i 0)))=(ns.map fun x=>decide (0≤x)).map V.bl:=by
 subst hn;rw [List.filter_eq_self.mpr (fun _ _=>rfl),List.map_map];refine List.ext_getElem (by simp) fun i h1 h2=>?_;simp at h1;simp [h1]
theorem zgQ {rs rows:List (List Int)}:zhz rs rows=true↔∀ k,k < rs.length→(cntB rows ((k:Int)+1):Int)≤(rs.getD k []).getD 1 0:=by
 unfold zhz za4;rw [List.all_map,List.all_eq_true];constructor
 ·intro h k hk;have:=h k (List.mem_range.mpr hk);simp only [Function.comp_apply,decide_eq_true_eq] at this;omega
 ·intro h k hk;have:=h k (List.mem_range.mp hk);simp only [Function.comp_apply,decide_eq_true_eq];omega
def zcj (K:PySem.W.Frag):Sp:=fun vs H Q _=>vs.length=2∧∃ (a b:Addr) (rs rows:List (List Int)),vs=[.ref a,.ref b]∧LL K H a rs∧LL K H b rows∧rs.length≤8∧rows.length≤20∧(∀ i,i < rs.length→(rs.getD i []).length=2)∧∀ H',Same H H'→Q (.bl (zhz rs rows)) H'
theorem zdY (T:Txt K mg t):FnOk P w K mg base CX0 3 t.f_7 t.d_7 ["readers","rows"] (zcj K):=by
 have G_8:=zcI (P:=P) (w:=w) (base:=base) T;refine T.F_7.ok sc_7 (fun _ _ _ _ h=>h.1) fun cdv A outer s H vs Q E hr h=>by
  refine ⟨_,(zae (zak (zag (zjY (K:=K) rfl rfl) (by rfl) T.z_all (by rfl) (zaa (za7 (zas (sc:=zac s_7) (XN:=["readers","rows"]) (N:=["left"]) (own:=1) (js:=[]) rfl rfl (by decide +kernel)) rfl (zaJ (K:=K) rfl (zal G_8 (hr.mono (by decide)) (by rfl) T.m_8 T.F_8.kp T.b_8 .nil zau (zaa (pv 0) (zaa (pv 1) pa_nil)))) (fun _ _ _ _ _=>(zar (i:=0) (show List.Nodup [(Str.ofString "left")] by decide +kernel) rfl (Or.inl rfl))) (fun _ _ _ _ _=>zbx) (fun _ _ _ _ _=>(zdx (op_ge) (pv 0) zad (zaC _)))) pa_nil)))),?_⟩;obtain ⟨_,a,b,rs,rows,rfl,L1,L2,l1,l2,r2,q⟩:=h;symm;refine zcJ L1 L2 l1 l2 r2 fun p H1 f1 s1 e1=>?_;have hll:(za4 rs rows).length=rs.length:=by unfold za4;rw [List.length_map,List.length_range]
  have hq:(za4 rs rows).all (fun x=>decide (0≤x))=zhz rs rows:=rfl;generalize za4 rs rows=ns at *;have hn:(ns.map V.int).length=ns.length:=List.length_map ..;refine zaT (SqL.of e1) ?_;refine zch (zgz (zco.one (zbq (SqL.of e1))) (by omega) (fun _=>true) (fun i=>.bl (decide (0≤ns.getD i 0))) (fun i H' Q' _ _ q'=>q' _ (Same.refl _)) (fun i H' Q' hi s _ q'=>?_) fun p2 H2 f2 s2 e2=>?_)
  ·have ex:(ns.map V.int).getD i .non=.int (ns.getD i 0):=by
    rw [List.getD_eq_getElem?_getD,List.getElem?_map,List.getElem?_eq_getElem (by omega),List.getD_eq_getElem?_getD,List.getElem?_eq_getElem (by omega)];rfl
   rw [ex];show (_:TE) (some (.int (ns.getD i 0))::_) _ _;symm;exact q' _ (Same.refl _)
  rw [zls ns _ hn] at e2;refine zk4 (SqL.of e2) ?_;rw [List.all_map];have e3:(ns.all (id∘fun x=>decide (0≤x)))=zhz rs rows:=hq;rw [e3];exact q _ (s1.trans s2)
theorem zeh {H:Hp} {a b:Addr} {rs rows:List (List Int)} {Q:VK} {E:XK} (h1:LL K H a rs) (h2:LL K H b rows) (l1:rs.length≤8) (l2:rows.length≤20) (r2:∀ i,i < rs.length→(rs.getD i []).length=2)
  (q:∀ H',Same H H'→Q (.bl (zhz rs rows)) H'):zcj K [.ref a,.ref b] H Q E:=⟨rfl,a,b,rs,rows,rfl,h1,h2,l1,l2,r2,q⟩
theorem zn0 {row:List Int} {m:Nat} (nd:row.Nodup) (h:∀ r∈row,1≤r∧r≤m):row.length≤m:=by
 rw [← zj2 nd h,znz];exact Nat.le_trans (List.length_filter_le _ _) (by simp)
def flds (A G S:Addr):List (Str×V):=putF "spare" (.ref S) (putF "given" (.ref G) (putF "allowed" (.ref A) []))
theorem zn1 (A G S:Addr):(flds A G S).lookup ("spare" : Str)=some (.ref S):=by
 unfold flds;rw [zaH,if_pos rfl]
theorem zlJ (A G S:Addr):(flds A G S).lookup ("given" : Str)=some (.ref G):=by
 unfold flds;rw [zaH,if_neg (by decide +kernel),zaH,if_pos rfl]
theorem zn2 (A G S:Addr):(flds A G S).lookup ("allowed" : Str)=some (.ref A):=by
 unfold flds;rw [zaH,if_neg (by decide +kernel),zaH,if_neg (by decide +kernel),zaH,if_pos rfl]
theorem zhA (A G S:Addr) {m:Str} (h1:¬m = "spare") (h2:¬m = "given") (h3:¬m = "allowed"):(flds A G S).lookup m=none:=by
 unfold flds;rw [zaH,if_neg h1,zaH,if_neg h2,zaH,if_neg h3];rfl
structure AtAd where
 x:Addr
 A:Addr
 G:Addr
 S:Addr
 aps:List Addr
 gps:List Addr
structure Att (C:Addr) (H:Hp) (d:AtAd) (al gv:List (List Int)) (sp:List Int):Prop where
 ob:∃ dx,H d.x=some (.ins C dx (flds d.A d.G d.S))
 ha:H d.A=some (.lst (d.aps.map V.ref))
 la:d.aps.length=al.length
 ra:∀ i,i < al.length→H (d.aps.getD i 0)=some (.lst ((al.getD i []).map V.int))∧d.aps.getD i 0∉d.gps∧d.aps.getD i 0≠d.S
 hg:H d.G=some (.lst (d.gps.map V.ref))
 lg:d.gps.length=gv.length
 ng:d.gps.Nodup
 rg:∀ i,i < gv.length→H (d.gps.getD i 0)=some (.lst ((gv.getD i []).map V.int))
 hs:H d.S=some (.lst (sp.map V.int))
 Sg:d.S∉d.gps
 Gg:d.G∉d.gps
 GS:d.G≠d.S
 Ag:d.A∉d.gps
 AS:d.A≠d.S
theorem Att.row {C:Addr} {H:Hp} {d:AtAd} {al gv:List (List Int)} {sp:List Int} (T:Att C H d al gv sp) {b:Addr} (hb:b∈d.gps):∃ xs:List V,H b=some (.lst xs):=by
 obtain ⟨i,hi,e⟩:=mem_getD (d:=0) hb;have:=T.rg i (by have:=T.lg;omega);rw [e] at this;exact ⟨_,this⟩
theorem Att.xg {C:Addr} {H:Hp} {d:AtAd} {al gv:List (List Int)} {sp:List Int} (T:Att C H d al gv sp):d.x∉d.gps:=fun h=>by
 obtain ⟨xs,e⟩:=T.row h;obtain ⟨dx,e2⟩:=T.ob;rw [e] at e2
 cases e2
theorem Att.xS {C:Addr} {H:Hp} {d:AtAd} {al gv:List (List Int)} {sp:List Int} (T:Att C H d al gv sp):d.x≠d.S:=fun h=>by
 obtain ⟨dx,e2⟩:=T.ob;rw [h,T.hs] at e2
 cases e2
theorem Att.keep {C:Addr} {H H':Hp} {d:AtAd} {al gv:List (List Int)} {sp:List Int} {D:Addr} {kvs:List (Key×V)} (T:Att C H d al gv sp) (hD:H D=some (.dK kvs)) (k:∀ b,b≠D→H' b=H b):Att C H' d al gv sp:=by
 have nl:∀ {b:Addr} {o:HO},H b=some o→(∀ kvs,o≠.dK kvs)→H' b=some o:=fun {b o} e ne=>by
  rw [k b (fun z=>by subst z;rw [hD] at e;exact ne kvs (Option.some.inj e).symm)];exact e
 obtain ⟨dx,ob⟩:=T.ob;exact ⟨⟨dx,nl ob (fun _ z=>by cases z)⟩,nl T.ha (fun _ z=>by cases z),T.la,fun i hi=>⟨nl (T.ra i hi).1 (fun _ z=>by cases z),(T.ra i hi).2⟩,nl T.hg (fun _ z=>by cases z),T.lg,T.ng,fun i hi=>nl (T.rg i hi) (fun _ z=>by cases z),nl T.hs (fun _ z=>by cases z),T.Sg,T.Gg,T.GS,T.Ag,T.AS⟩
theorem Att.same {C:Addr} {H H':Hp} {d:AtAd} {al gv:List (List Int)} {sp:List Int} (T:Att C H d al gv sp) (s:Same H H'):Att C H' d al gv sp:=by
 obtain ⟨dx,ob⟩:=T.ob;exact ⟨⟨dx,s _ _ ob⟩,s _ _ T.ha,T.la,fun i hi=>⟨s _ _ (T.ra i hi).1,(T.ra i hi).2⟩,s _ _ T.hg,T.lg,T.ng,fun i hi=>s _ _ (T.rg i hi),s _ _ T.hs,T.Sg,T.Gg,T.GS,T.Ag,T.AS⟩
theorem ziZ {ps:List Addr} (nd:ps.Nodup) {i j:Nat} (hi:i < ps.length) (hj:j < ps.length) (h:ps.getD i 0=ps.getD j 0):i=j:=by
 rw [List.getD_eq_getElem?_getD,List.getD_eq_getElem?_getD,List.getElem?_eq_getElem hi,List.getElem?_eq_getElem hj] at h;exact (List.getElem_inj nd).mp h
theorem Att.setRow {C:Addr} {H H':Hp} {d:AtAd} {al gv:List (List Int)} {sp row:List Int} {p:Nat} (T:Att C H d al gv sp) (hp:p < gv.length) (b:But (d.gps.getD p 0) H H') (e:H' (d.gps.getD p 0)=some (.lst (row.map V.int))):Att C H' d al (gv.set p row) sp:=by
 have l:=T.lg;have hm:d.gps.getD p 0∈d.gps:=getD_mem (by omega);have nm:∀ {a:Addr},a∉d.gps→a≠d.gps.getD p 0:=fun h z=>h (z▸hm);obtain ⟨dx,ob⟩:=T.ob;refine ⟨⟨dx,by rw [b _ (nm T.xg)];exact ob⟩,by rw [b _ (nm T.Ag)];exact T.ha,T.la,fun i hi=>⟨by rw [b _ (nm (T.ra i hi).2.1)];exact (T.ra i hi).1,(T.ra i hi).2⟩,by rw [b _ (nm T.Gg)];exact T.hg,by rw [List.length_set];exact l,T.ng,fun i hi=>?_,by rw [b _ (nm T.Sg)];exact T.hs,T.Sg,T.Gg,T.GS,T.Ag,T.AS⟩;rw [List.length_set] at hi;rw [zbl hp]
 by_cases ei:i=p
 ·subst ei;rw [if_pos rfl];exact e
 ·rw [if_neg ei,b _ (fun z=>ei (ziZ T.ng (by omega) (by omega) z))];exact T.rg i hi
theorem Att.setSp {C:Addr} {H H':Hp} {d:AtAd} {al gv:List (List Int)} {sp sp':List Int} (T:Att C H d al gv sp) (b:But d.S H H') (e:H' d.S=some (.lst (sp'.map V.int))):Att C H' d al gv sp':=by
 have l:=T.lg;obtain ⟨dx,ob⟩:=T.ob;refine ⟨⟨dx,by rw [b _ T.xS];exact ob⟩,by rw [b _ T.AS];exact T.ha,T.la,fun i hi=>⟨by rw [b _ (T.ra i hi).2.2];exact (T.ra i hi).1,(T.ra i hi).2⟩,by rw [b _ T.GS];exact T.hg,l,T.ng,fun i hi=>?_,e,T.Sg,T.Gg,T.GS,T.Ag,T.AS⟩;rw [b _ (fun z=>T.Sg (z▸getD_mem (by omega)))];exact T.rg i hi
def Frm (d:AtAd) (D:Addr) (H H':Hp):Prop:=∀ b o,H b=some o→b∉d.gps→b≠d.S→b≠D→H' b=some o
theorem Frm.refl {d:AtAd} {D:Addr} {H:Hp}:Frm d D H H:=fun _ _ e _ _ _=>e
theorem Frm.trans {d:AtAd} {D:Addr} {H H1 H2:Hp} (a:Frm d D H H1) (b:Frm d D H1 H2):Frm d D H H2:=fun c o e h1 h2 h3=>b c o (a c o e h1 h2 h3) h1 h2 h3
theorem Frm.but {d:AtAd} {D a:Addr} {H H':Hp} (b:But a H H') (h:a∈d.gps∨a=d.S∨a=D):Frm d D H H':=fun c o e h1 h2 h3=>by
 rw [b c (fun z=>by subst z;rcases h with h | h | h <;> contradiction)];exact e
def KsOk (lim ks:List Int):Prop:=ks.Nodup∧∀ k∈ks,1≤k∧k≤lim.length
theorem KsOk.push {lim ks:List Int} {x:Int} (h:KsOk lim ks) (hx:x∉ks) (h1:1≤x∧x≤lim.length):KsOk lim (ks++[x]):=by
 refine ⟨List.nodup_append.mpr ⟨h.1,by simp,fun a ha b hb=>?_⟩,fun k hk=>?_⟩
 ·have:b=x:=by simpa using hb
  subst this;intro e;subst e;exact hx ha
 ·rcases List.mem_append.mp hk with z | z
  ·exact h.2 k z
  ·have:k=x:=by simpa using z
   subst this;exact h1
def KpX (x:Addr) (H H':Hp):Prop:=∀ c o,H c=some o→c≠x→H' c=some o
theorem KpX.of {x:Addr} {H H':Hp} (s:Same H H'):KpX x H H':=fun c o e _=>s c o e
theorem KpX.but {x:Addr} {H H':Hp} (b:But x H H'):KpX x H H':=fun c o e n=>by rw [b c n];exact e
theorem KpX.trans {x:Addr} {H H1 H2:Hp} (a:KpX x H H1) (b:KpX x H1 H2):KpX x H H2:=fun c o e n=>b c o (a c o e n) n
theorem KpX.seq {K:PySem.W.Frag} {x C dx:Addr} {fs:List (Str×V)} {H H':Hp} {a:Addr} {xs:List V} (k:KpX x H H') (hx:H x=some (.ins C dx fs)) (h:SqL K H a xs):SqL K H' a xs:=by
 rcases h with (h | ⟨o,h⟩) | h
 ·exact .inl (.inl (k _ _ h (fun z=>by subst z;rw [hx] at h;cases h)))
 ·exact .inl (.inr ⟨o,k _ _ h (fun z=>by subst z;rw [hx] at h;cases h)⟩)
 ·exact .inr h
theorem KpX.ll {K:PySem.W.Frag} {x C dx:Addr} {fs:List (Str×V)} {H H':Hp} {a:Addr} {rs:List (List Int)} (k:KpX x H H') (hx:H x=some (.ins C dx fs)) (h:LL K H a rs):LL K H' a rs:=by
 obtain ⟨ps,h1,h2,h3⟩:=h;exact ⟨ps,k.seq hx h1,h2,fun i hi=>k _ _ (h3 i hi) (fun z=>by have:=h3 i hi;rw [z,hx] at this;cases this)⟩
def zb9 (K:PySem.W.Frag) (C:Addr):Sp:=fun vs H Q _=>vs.length=3∧∃ (x dx a b:Addr) (hs:List Int) (rs:List (List Int)),vs=[.ref x,.ref a,.ref b]∧H x=some (.ins C dx [])∧SqL K H a (hs.map V.int)∧LL K H b rs∧InB hs rs ∧
 ∀ (d:AtAd) H',d.x=x→(∀ c o,H c=some o→c≠x→H' c=some o)→(∀ g∈d.gps,H g=none)→H d.S=none →
  Att C H' d ((List.range hs.length).map fun i:Nat=>zah hs rs (1+(i:Int))) ((List.range hs.length).map fun _=>[]) ((List.range rs.length).map fun i=>(rs.getD i []).getD 1 0)→Q .non H'
theorem zdC (T:Txt K mg t):FnOk P w K mg base CX0 3 t.f_Attempt___init__ t.d_Attempt___init__ ["self","papers","readers"] (zb9 K t.C_Attempt):=by
 have G_2:=zcr (P:=P) (w:=w) (base:=base) T;refine T.F_Attempt___init__.ok sc_Attempt___init__ (fun _ _ _ _ h=>h.1) fun cdv A outer s H vs Q E hr h=>by
  refine ⟨_,(zab (zbO (K:=K) rfl (pv 0) (za7 (zas (sc:=zac s_Attempt___init__) (XN:=["self","papers","readers"]) (N:=["paper","papers","readers"]) (own:=1) (js:=[1,2]) rfl rfl (by decide +kernel)) rfl (zb4 (by rfl) T.z_range (zaa zad (zaa (zaq (op_addG) (zag (zai (K:=K) rfl) (by rfl) T.z_len (by rfl) (zaa (pv 1) pa_nil)) zad) pa_nil))) (fun _ _ _ _ _=>(zar (i:=0) (show List.Nodup [(Str.ofString "paper"),(Str.ofString "papers"),(Str.ofString "readers")] by decide +kernel) rfl (Or.inl rfl))) (fun _ _ _ _ _=>zbx) (fun _ _ _ _ _=>(zal G_2 (hr.mono (by decide)) (by rfl) T.m_2 T.F_2.kp T.b_2 .nil zau (zaa (pv 1) (zaa (pv 2) (zaa (pv 0) pa_nil)))))))
   (zab (zbO (K:=K) rfl (pv 0) (za7 (zas (sc:=zac s_Attempt___init__) (XN:=["self","papers","readers"]) (N:=["house"]) (own:=1) (js:=[]) rfl rfl (by decide +kernel)) rfl (zaJ (K:=K) rfl (pv 1)) (fun _ _ _ _ _=>(zar (i:=0) (show List.Nodup [(Str.ofString "house")] by decide +kernel) rfl (Or.inl rfl))) (fun _ _ _ _ _=>zbx) (fun _ _ _ _ _=>(zaM pa_nil))))
   (zae (zbO (K:=K) rfl (pv 0) (za7 (zas (sc:=zac s_Attempt___init__) (XN:=["self","papers","readers"]) (N:=["row"]) (own:=1) (js:=[]) rfl rfl (by decide +kernel)) rfl (zaJ (K:=K) rfl (pv 2)) (fun _ _ _ _ _=>(zar (i:=0) (show List.Nodup [(Str.ofString "row")] by decide +kernel) rfl (Or.inl rfl))) (fun _ _ _ _ _=>zbx) (fun _ _ _ _ _=>(zaw (zaf (K:=K) rfl) (pv 0) zad (fun _ _=>rfl)))))))),?_⟩
  obtain ⟨_,x,dx,a,b,hs,rs,rfl,hx,ha,L,B,q⟩:=h;obtain ⟨psr,hb,hpl,hpr⟩:=id L;have B1:=B.lp;have B2:=B.lr;have hcl:=T.cl_Attempt;have hnA:=T.n_Attempt_allowed;have hnG:=T.n_Attempt_given;have hnS:=T.n_Attempt_spare;symm;refine zeY ⟨by omega,by omega,by omega,by omega⟩ ?_;have en:((hs.length:Int)+1-1).toNat=hs.length:=by omega
  rw [en];refine zch (zb7 (zco.one (zbM _ _ _)) (by omega) (fun i:Nat=>zah hs rs (1+(i:Int))) (fun i H' Q' hi s q'=>?_) fun p1 H1 R1=>?_)
  ·show (_:TE) (some (.int (1+(i:Int)))::_) _ _;symm;exact zcH (s.seq ha) (L.same s) (by omega) (by omega) (by omega) B.r2 q'
  obtain ⟨s1,f1,ps1,e1,l1,nd1,r1⟩:=id R1;rw [List.length_map,List.length_range] at l1 r1;symm;refine za8 (s1 _ _ hx) hcl hnA (by show 0 < 1000;decide) fun H2 b2 e2=>?_;have nx:∀ {c:Addr},H c=none→c≠x:=fun h z=>by subst z;rw [hx] at h;cases h
  have k2:KpX x H H2:=(KpX.of s1).trans (KpX.but b2);have ha2:=k2.seq hx ha;have L2:=k2.ll hx L;obtain ⟨psr2,hb2,hpl2,hpr2⟩:=id L2;symm;refine zaT ha2 ?_;have ehl:(hs.map V.int).length=hs.length:=List.length_map ..;refine zch (zb7 (zco.one (zbq ha2)) (by omega) (fun _=>[]) (fun i H' Q' hi s q'=>?_) fun p3 H3 R3=>?_)
  ·show (_:TE) (some ((hs.map V.int).getD i .non)::_) _ _;symm;exact zat (by simp) q'
  obtain ⟨s3,f3,ps3,e3,l3,nd3,r3⟩:=id R3;rw [List.length_map,List.length_range,ehl] at l3 r3;symm;refine za8 (s3 _ _ e2) hcl hnG (by show 1 < 1000;decide) fun H4 b4 e4=>?_;have k4:KpX x H2 H4:=(KpX.of s3).trans (KpX.but b4);have L4:=k4.ll e2 L2;obtain ⟨psr4,hb4,hpl4,hpr4⟩:=id L4;have er4:(psr4.map V.ref).length=rs.length:=by rw [List.length_map];exact hpl4
  symm;refine zaT hb4 ?_;refine zgu (zbq hb4) (by omega) (fun i=>(rs.getD i []).getD 1 0) (fun i H' Q' hi s q'=>?_) fun p5 H5 f5 s5 e5=>?_
  ·have hi':i < rs.length:=by omega
   have ex:(psr4.map V.ref).getD i .non=.ref (psr4.getD i 0):=by
    rw [List.getD_eq_getElem?_getD,List.getElem?_map,List.getElem?_eq_getElem (by omega),List.getD_eq_getElem?_getD,List.getElem?_eq_getElem (by omega)];rfl
   rw [ex];have h2:=B.r2 i hi';have hrow:=s _ _ (hpr4 i hi');symm;exact q'
  symm;refine za8 (s5 _ _ e4) hcl hnS (by show 2 < 1000;decide) fun H6 b6 e6=>?_;rw [er4] at e5;have k6:KpX x H4 H6:=(KpX.of s5).trans (KpX.but b6);have c12:∀ {c:Addr} {o:HO},H1 c=some o→c≠x→H2 c=some o:=fun e h=>by rw [b2 _ h];exact e
  have c34:∀ {c:Addr} {o:HO},H3 c=some o→c≠x→H4 c=some o:=fun e h=>by rw [b4 _ h];exact e
  have c56:∀ {c:Addr} {o:HO},H5 c=some o→c≠x→H6 c=some o:=fun e h=>by rw [b6 _ h];exact e
  have n2:∀ {c:Addr},H2 c=none→c≠x:=fun h z=>by subst z;rw [e2] at h;cases h
  have n4:∀ {c:Addr},H4 c=none→c≠x:=fun h z=>by subst z;rw [e4] at h;cases h
  have fr2:∀ {c:Addr},H2 c=none→H c=none:=fun h=>s1.free (by rw [← b2 _ (n2 h)];exact h);have fr4:∀ {c:Addr},H4 c=none→H2 c=none:=fun h=>s3.free (by rw [← b4 _ (n4 h)];exact h);have hp1x:p1≠x:=nx f1;have hp3x:p3≠x:=n2 f3;have hp5x:p5≠x:=n4 f5;have A2:=c12 e1 hp1x;have A4:=k4 _ _ A2 hp1x;have G4:=c34 e3 hp3x;refine q ⟨x,p1,p3,p5,ps1,ps3⟩ H6 rfl ((k2.trans k4).trans k6) (fun g hg=>?_) (fr2 (fr4 f5)) ⟨⟨dx,e6⟩,k6 _ _ A4 hp1x,by rw [List.length_map,List.length_range];exact l1,fun i hi=>?_,k6 _ _ G4 hp3x,by rw [List.length_map,List.length_range];exact l3,nd3,fun i hi=>?_,c56 e5 hp5x,fun z=>?_,fun z=>?_,fun z=>?_,fun z=>?_,fun z=>?_⟩
  ·obtain ⟨i,hi,rfl⟩:=mem_getD (d:=0) hg;have hi:i < ps3.length:=hi;exact fr2 (r3 i (by omega)).2.1
  ·rw [List.length_map,List.length_range] at hi;obtain ⟨g1,g2,g3⟩:=r1 i hi;have h2:=c12 g1 (nx g2);have h4:=k4 _ _ h2 (nx g2);refine ⟨k6 _ _ h4 (nx g2),fun z=>?_,fun z=>?_⟩
   ·obtain ⟨j,hj,ej⟩:=mem_getD (d:=0) z;have hj:j < ps3.length:=hj;have:=(r3 j (by omega)).2.1;have ej':ps3.getD j 0=ps1.getD i 0:=ej;rw [ej',h2] at this
    cases this
   ·have z':ps1.getD i 0=p5:=z;rw [z',f5] at h4
    cases h4
  ·rw [List.length_map,List.length_range] at hi;obtain ⟨g1,g2,g3⟩:=r3 i hi;exact k6 _ _ (c34 g1 (n2 g2)) (n2 g2)
  ·obtain ⟨j,hj,ej⟩:=mem_getD (d:=0) z;have hj:j < ps3.length:=hj;obtain ⟨g1,g2,g3⟩:=r3 j (by omega);have h4:=c34 g1 (n2 g2);have ej':ps3.getD j 0=p5:=ej;rw [ej',f5] at h4
   cases h4
  ·obtain ⟨j,hj,ej⟩:=mem_getD (d:=0) z;have hj:j < ps3.length:=hj;exact (r3 j (by omega)).2.2 ej
  ·have z':p3=p5:=z;rw [z',f5] at G4
   cases G4
  ·obtain ⟨j,hj,ej⟩:=mem_getD (d:=0) z;have hj:j < ps3.length:=hj;have:=(r3 j (by omega)).2.1;have ej':ps3.getD j 0=p1:=ej;rw [ej',A2] at this
   cases this
  ·have z':p1=p5:=z;rw [z',f5] at A4
   cases A4
theorem zn3 {K:PySem.W.Frag} {C:Addr} {H:Hp} {Q:VK} {E:XK} {x dx a b:Addr} {hs:List Int} {rs:List (List Int)} (h1:H x=some (.ins C dx [])) (h2:SqL K H a (hs.map V.int)) (h3:LL K H b rs) (B:InB hs rs)
  (q:∀ (d:AtAd) H',d.x=x→(∀ c o,H c=some o→c≠x→H' c=some o)→(∀ g∈d.gps,H g=none)→H d.S=none →
   Att C H' d ((List.range hs.length).map fun i:Nat=>zah hs rs (1+(i:Int))) ((List.range hs.length).map fun _=>[]) ((List.range rs.length).map fun i=>(rs.getD i []).getD 1 0)→Q .non H'):zb9 K C [.ref x,.ref a,.ref b] H Q E:=⟨rfl,x,dx,a,b,hs,rs,rfl,h1,h2,h3,B,q⟩
def zaV (K:PySem.W.Frag) (C:Addr) (n:Nat):Sp:=fun vs H Q _=>vs.length=3∧∃ (d:AtAd) (p:Int) (D:Addr) (al gv:List (List Int)) (lim sp ks:List Int),vs=[.ref d.x,.int p,.ref D]∧Att C H d al gv sp∧H D=some (.dK (kvT ks))∧Vld al gv lim sp 0∧KsOk lim ks∧lim.length≤ks.length+n∧lim.length≤8∧gv.length≤10∧1≤p∧p≤gv.length ∧
 (∀ H' gv' sp',Frm d D H H'→Att C H' d al gv' sp'→Fnd al gv gv' lim sp' ks (p-1).toNat→Q (.bl true) H') ∧
 (∀ H' ls,Frm d D H H'→Att C H' d al gv sp→H' D=some (.dK (kvT ls))→KsOk lim ls→Cls2 al gv sp ks ls→Cov al gv ls (p-1).toNat→Q (.bl false) H')
def zaU (K:PySem.W.Frag) (C:Addr) (n:Nat):Sp:=fun vs H Q _=>vs.length=3∧∃ (d:AtAd) (r:Int) (D:Addr) (al gv:List (List Int)) (lim sp ks:List Int),vs=[.ref d.x,.int r,.ref D]∧Att C H d al gv sp∧H D=some (.dK (kvT ks))∧Vld al gv lim sp 0∧KsOk lim ks∧lim.length≤ks.length+n∧lim.length≤8∧gv.length≤10∧r∈ks ∧
 (∀ H' gv' sp',Frm d D H H'→Att C H' d al gv' sp'→Fre al gv gv' lim sp' ks r→Q (.bl true) H') ∧
 (∀ H' ls,Frm d D H H'→Att C H' d al gv sp→H' D=some (.dK (kvT ls))→KsOk lim ls→Cls2 al gv sp ks ls→sp.getD (r-1).toNat 0=0→(∀ q,q < gv.length→r∈gv.getD q []→Cov al gv ls q)→Q (.bl false) H')
def zkr (K:PySem.W.Frag) (C:Addr):Nat→Sp
 | 0=>fun _ _ _ _=>False
 | n+1=>zaU K C n
theorem zhB {K:PySem.W.Frag} {C:Addr} {n:Nat}:zkr K C (n+1)=zaU K C n:=rfl
theorem zlK {K:PySem.W.Frag} {C:Addr} {n:Nat} {H:Hp} {Q:VK} {E:XK} {d:AtAd} {p:Int} {D:Addr} {al gv:List (List Int)} {lim sp ks:List Int} (T:Att C H d al gv sp) (hD:H D=some (.dK (kvT ks))) (V:Vld al gv lim sp 0) (k:KsOk lim ks) (hn:lim.length≤ks.length+n) (hm:lim.length≤8) (h10:gv.length≤10) (p1:1≤p) (p2:p≤gv.length)
  (q1:∀ H' gv' sp',Frm d D H H'→Att C H' d al gv' sp'→Fnd al gv gv' lim sp' ks (p-1).toNat→Q (.bl true) H')
  (q2:∀ H' ls,Frm d D H H'→Att C H' d al gv sp→H' D=some (.dK (kvT ls))→KsOk lim ls→Cls2 al gv sp ks ls→Cov al gv ls (p-1).toNat→Q (.bl false) H'):zaV K C n [.ref d.x,.int p,.ref D] H Q E:=⟨rfl,d,p,D,al,gv,lim,sp,ks,rfl,T,hD,V,k,hn,hm,h10,p1,p2,q1,q2⟩
theorem zn4 {K:PySem.W.Frag} {C:Addr} {n:Nat} {H:Hp} {Q:VK} {E:XK} {d:AtAd} {r:Int} {D:Addr} {al gv:List (List Int)} {lim sp ks:List Int} (T:Att C H d al gv sp) (hD:H D=some (.dK (kvT ks))) (V:Vld al gv lim sp 0) (k:KsOk lim ks) (hn:lim.length≤ks.length+n) (hm:lim.length≤8) (h10:gv.length≤10) (hr:r∈ks)
  (q1:∀ H' gv' sp',Frm d D H H'→Att C H' d al gv' sp'→Fre al gv gv' lim sp' ks r→Q (.bl true) H')
  (q2:∀ H' ls,Frm d D H H'→Att C H' d al gv sp→H' D=some (.dK (kvT ls))→KsOk lim ls→Cls2 al gv sp ks ls→sp.getD (r-1).toNat 0=0→(∀ q,q < gv.length→r∈gv.getD q []→Cov al gv ls q)→Q (.bl false) H'):zaU K C n [.ref d.x,.int r,.ref D] H Q E:=⟨rfl,d,r,D,al,gv,lim,sp,ks,rfl,T,hD,V,k,hn,hm,h10,hr,q1,q2⟩
theorem zbs (T:Txt K mg t) (kk d:Nat) (G_Attempt_find_reader:FnOk P w K mg base CX0 kk t.f_Attempt_find_reader t.d_Attempt_find_reader ["self","paper","asked"] (zaV K t.C_Attempt d)):FnOk P w K mg base CX0 (kk+1) t.f_Attempt_free_reading t.d_Attempt_free_reading ["self","reader","asked"] (zaU K t.C_Attempt d):=by
 refine T.F_Attempt_free_reading.ok sc_Attempt_free_reading (fun _ _ _ _ h=>h.1) fun cdv A outer s H vs Q E hr h=>by
  refine ⟨_,(zab (zaS (zap (op_gt) (zaw (zaf (K:=K) rfl) (zaF (K:=K) rfl (pv 0)) (zaq (op_sub) (pv 1) zad) (fun _ _=>rfl)) zad (zaC _))
   (zab (zlQ (zaF (K:=K) rfl (pv 0)) (zaq (op_sub) (pv 1) zad) (zj4 (K:=K) rfl) zad ip_sub set_list)
   (zae (zak za3))) pss_nil)
   (zab (zaZ PassesOwn.never rfl (zb4 (by rfl) T.z_range (zaa zad (zaa (zaq (op_addG) (zag (zai (K:=K) rfl) (by rfl) T.z_len (by rfl) (zaa (zaF (K:=K) rfl (pv 0)) pa_nil)) zad) pa_nil))) (zar (i:=3) sc_Attempt_free_reading.nd rfl (Or.inl rfl))
   (zae (zaS (zeo (zap (zes (K:=K) rfl (zcY hr)) (pv 1) (zaw (zaf (K:=K) rfl) (zaF (K:=K) rfl (pv 0)) (zaq (op_sub) (pv 3) zad) (fun _ _=>rfl)) (by with_unfolding_all rfl)) (zcX (zav (K:=K) rfl (zbf (pv 0) T.cl_Attempt T.me_Attempt_find_reader G_Attempt_find_reader (hr.mono (by first | decide | exact Nat.le_refl _)) T.b_Attempt_find_reader .nil zau (zaa (pv 3) (zaa (pv 2) pa_nil))) (fun _=>rfl)))).pt
   (zab (zaG (zbp (K:=K) rfl PySem.F.plainAttrs_list PySem.F.slot_list_remove PySem.F.type_list_remove mt_remove (zaw (zaf (K:=K) rfl) (zaF (K:=K) rfl (pv 0)) (zaq (op_sub) (pv 3) zad) (fun _ _=>rfl)) (zaa (pv 1) pa_nil)))
   (zae (zak za3))) pss_nil)))
   (zae (zak za3)))),?_⟩
  obtain ⟨_,dd,r,D,al,gv,lim,sp,ks,rfl,A,hD,Vd,hk,hn,hm,h10,hrk,q1,q2⟩:=h;have hcl:=T.cl_Attempt;have hnS:=T.n_Attempt_spare;have hnG:=T.n_Attempt_given;obtain ⟨dx,hob⟩:=A.ob;have fS:=zn1 dd.A dd.G dd.S;have fG:=zlJ dd.A dd.G dd.S;have fM:=zhA dd.A dd.G dd.S (m:="find_reader") (by decide +kernel) (by decide +kernel) (by decide +kernel);obtain ⟨r1,r2⟩:=hk.2 r hrk;have lsp:=Vd.ls;have hS:=A.hs;symm;refine zbi (fun h0=>?_) (fun h0=>?_)
  ·symm;refine znF (SqL.of hS) (by omega) (by omega) ?_;symm;refine zhZ hS (by omega) (by rw [List.length_map];omega) fun H1 b1 e1=>?_;symm;refine q1 H1 gv _ (Frm.but b1 (.inr (.inl rfl))) (A.setSp (sp':=sp.set (r-1).toNat (sp.getD (r-1).toNat 0-1)) b1 ?_) (Vd.taken r1 r2 h0);rw [e1,List.map_set]
  ·have hz:sp.getD (r-1).toNat 0=0:=by have:=Vd.s0 (r-1).toNat (by omega);omega
   have hGl:=A.hg;have lg:=A.lg;symm;refine zeY ⟨by omega,by omega,by omega,by omega⟩ ?_;have en:((dd.gps.length:Int)+1-1).toNat=gv.length:=by omega
   rw [en];refine zbV (fun i σ H'=>∃ ls v,σ=[some (.ref dd.x),some (.int r),some (.ref D),v]∧Frm dd D H H'∧Att t.C_Attempt H' dd al gv sp∧H' D=some (.dK (kvT ls))∧KsOk lim ls∧Cls2 al gv sp ks ls∧∀ q,q < i→r∈gv.getD q []→Cov al gv ls q) ⟨ks,none,rfl,Frm.refl,A,hD,hk,Cls2.refl,fun q hq=>absurd hq (by omega)⟩ ?_ ?_
   ·rintro i σ H' hi ⟨ls,v,rfl,F',A',hD',hk',C',hc⟩;obtain ⟨dx',hob'⟩:=A'.ob;have hGl':=A'.hg;have hrow:=A'.rg i hi;have ei:(1+(i:Int)-1).toNat=i:=by omega
    have hl':lim.length≤ls.length+d:=by
     have:=List.Nodup.length_le_of_subset hk.1 (fun z hz=>C'.1 z hz:ks ⊆ ls);omega
    symm;rw [ei];symm
    by_cases hin:r∈gv.getD i []
    ·rw [decide_eq_true hin];refine iteT ?_;symm;refine zaN hob' fM ?_;symm;refine zlK A' hD' Vd hk' hl' hm h10 (by omega) (by omega) (fun H2 gv2 sp2 F2 A2 N2=>?_) (fun H2 ls2 F2 A2 hD2 hk2 C2 hc2=>?_)
     ·symm;refine iteT ?_;rw [ei] at N2;obtain ⟨dx2,hob2⟩:=A2.ob;have hGl2:=A2.hg;have lg2:=N2.lg;have hrow2:=A2.rg i (by omega);obtain ⟨hx2,N3⟩:=N2.freed hi hin (C'.1 r hrk);symm;rw [ei];symm;refine zhp hrow2 hx2 fun H3 b3 e3=>?_;symm;refine q1 H3 _ sp2 ((F'.trans F2).trans (Frm.but b3 (.inl (getD_mem (by omega))))) (A2.setRow (by omega) b3 e3) ⟨N3.v,N3.lg,N3.len,fun z hz=>N3.old z (C'.1 z hz),N3.own⟩
     ·symm;refine iteF ?_;symm;rw [ei] at hc2;refine ⟨ls2,_,rfl,F'.trans F2,A2,hD2,hk2,C'.trans C2,fun q hq hqr=>?_⟩
      by_cases e:q=i
      ·subst e;exact hc2
      ·exact (hc q (by omega) hqr).mono C2.1
    ·rw [decide_eq_false hin];refine iteF ?_;symm;refine ⟨ls,_,rfl,F',A',hD',hk',C',fun q hq hqr=>?_⟩
     by_cases e:q=i
     ·subst e;exact absurd hqr hin
     ·exact hc q (by omega) hqr
   ·rintro σ H' ⟨ls,v,rfl,F',A',hD',hk',C',hc⟩;symm;exact q2 H' ls F' A' hD' hk' C' hz hc
theorem zbC (T:Txt K mg t) (kk d:Nat) (G_Attempt_free_reading:FnOk P w K mg base CX0 kk t.f_Attempt_free_reading t.d_Attempt_free_reading ["self","reader","asked"] (zkr K t.C_Attempt d)):FnOk P w K mg base CX0 (kk+1) t.f_Attempt_find_reader t.d_Attempt_find_reader ["self","paper","asked"] (zaV K t.C_Attempt d):=by
 refine T.F_Attempt_find_reader.ok sc_Attempt_find_reader (fun _ _ _ _ h=>h.1) fun cdv A outer s H vs Q E hr h=>by
  refine ⟨_,(zab (zaZ PassesOwn.never rfl (zaJ (K:=K) rfl (zaw (zaf (K:=K) rfl) (zaF (K:=K) rfl (pv 0)) (zaq (op_sub) (pv 1) zad) (fun _ _=>rfl))) (zar (i:=3) sc_Attempt_find_reader.nd rfl (Or.inl rfl))
   (zab (zaS (zcs (zlv (zm6 (zcY hr) (pv 3) (pv 2))) (zbS (zap (zes (K:=K) rfl (zcY hr)) (pv 3) (zaw (zaf (K:=K) rfl) (zaF (K:=K) rfl (pv 0)) (zaq (op_sub) (pv 1) zad) (fun _ _=>rfl)) (by with_unfolding_all rfl)))).pt
   (zae ps_continue) pss_nil)
   (zab (zjF (zcY hr) (pv 2) (pv 3) za3 rfl)
   (zae (zaS (zav (K:=K) rfl (zbf (pv 0) T.cl_Attempt T.me_Attempt_free_reading G_Attempt_free_reading (hr.mono (by first | decide | exact Nat.le_refl _)) T.b_Attempt_free_reading .nil zau (zaa (pv 3) (zaa (pv 2) pa_nil))) (fun _=>rfl))
   (zab (zaG (zbp (K:=K) rfl PySem.F.plainAttrs_list PySem.F.slot_list_append PySem.F.type_list_append mt_append (zaw (zaf (K:=K) rfl) (zaF (K:=K) rfl (pv 0)) (zaq (op_sub) (pv 1) zad) (fun _ _=>rfl)) (zaa (pv 3) pa_nil)))
   (zae (zak za3))) pss_nil)))))
   (zae (zak za3))),?_⟩
  obtain ⟨_,dd,p,D,al,gv,lim,sp,ks,rfl,A,hD,Vd,hk,hn,hm,h10,p1,p2,q1,q2⟩:=h;have hcl:=T.cl_Attempt;have hnA:=T.n_Attempt_allowed;have hnG:=T.n_Attempt_given;obtain ⟨dx,hob⟩:=A.ob;have fA:=zn2 dd.A dd.G dd.S;have fG:=zlJ dd.A dd.G dd.S;have fM:=zhA dd.A dd.G dd.S (m:="free_reading") (by decide +kernel) (by decide +kernel) (by decide +kernel);have lga:=Vd.lg;have lg:=A.lg;have la:=A.la;have hA:=A.ha;have hpl:(p-1).toNat < gv.length:=by omega
  symm;generalize ep:(p-1).toNat=pn at *;obtain ⟨hrow,hnm1,hnm2⟩:=A.ra pn (by omega);refine zaT (SqL.of hrow) ?_;refine zbN (xs:=(al.getD pn []).map V.int) (fun i σ H'=>∃ ls v,σ=[some (.ref dd.x),some (.int p),some (.ref D),v]∧Frm dd D H H'∧Att t.C_Attempt H' dd al gv sp∧H' D=some (.dK (kvT ls))∧KsOk lim ls∧Cls2 al gv sp ks ls∧∀ j,j < i→(al.getD pn []).getD j 0∈ls∨(al.getD pn []).getD j 0∈gv.getD pn []) ⟨ks,none,rfl,Frm.refl,A,hD,hk,Cls2.refl,fun q hq=>absurd hq (by omega)⟩ ?_ ?_ ?_
  ·rintro i σ H' _ ⟨ls,v,rfl,F',A',_⟩;exact SqL.of (A'.ra pn (by omega)).1
  ·rintro i x σ H' hx ⟨ls,v,rfl,F',A',hD',hk',C',hc⟩;obtain ⟨hi,rfl⟩:=zcz hx;have hxm:(al.getD pn []).getD i 0∈al.getD pn []:=getD_mem hi;generalize hxe:(al.getD pn []).getD i 0=x at *;obtain ⟨dx',hob'⟩:=A'.ob;have hG':=A'.hg;have hgr:=A'.rg pn hpl;have hxr:=Vd.ar pn (by omega) x hxm;symm;refine zlb hD' ?_;symm;have done:∀ ls2,Cls2 al gv sp ls ls2→(x∈ls2∨x∈gv.getD pn [])→∀ j,j < i+1→(al.getD pn []).getD j 0∈ls2∨(al.getD pn []).getD j 0∈gv.getD pn []:=fun ls2 C2 h j hj=>by
    by_cases e:j=i
    ·subst e;rw [hxe];exact h
    ·exact (hc j (by omega)).elim (fun z=>.inl (C2.1 _ z)) .inr
   by_cases h1:x∈ls
   ·rw [decide_eq_true h1];refine iteT ?_;walk_at "rdk";exact ⟨ls,_,rfl,F',A',hD',hk',C',done ls Cls2.refl (.inl h1)⟩
   rw [decide_eq_false h1];refine iteF ?_;symm;rw [ep];symm
   by_cases h2:x∈gv.getD pn []
   ·rw [decide_eq_true h2];refine iteT ?_;symm;exact ⟨ls,_,rfl,F',A',hD',hk',C',done ls Cls2.refl (.inr h2)⟩
   rw [decide_eq_false h2];refine iteF ?_;have hk1:=hk'.push h1 hxr;have hl1:=zn0 hk1.1 hk1.2;rw [List.length_append,List.length_singleton] at hl1;have hsub:=List.Nodup.length_le_of_subset hk.1 (fun z hz=>C'.1 z hz:ks ⊆ ls);symm;refine zj7 hD' (by omega) h1 fun H1 b1 e1=>?_;have A1:=A'.keep hD' b1;obtain ⟨dx1,hob1⟩:=A1.ob;symm;refine zaN hob1 fM ?_;symm;obtain ⟨d',rfl⟩:∃ d',d=d'+1:=⟨d-1,by omega⟩
   rw [zhB];refine zn4 (n:=d') (r:=x) A1 e1 Vd hk1 (by rw [List.length_append,List.length_singleton];omega) hm h10 (by simp) (fun H2 gv2 sp2 F2 A2 N2=>?_) (fun H2 ls2 F2 A2 hD2 hk2 C2 hz2 hc2=>?_)
   ·symm;refine iteT ?_;obtain ⟨dx2,hob2⟩:=A2.ob;have hG2:=A2.hg;have lg2:=N2.lg;have hrow2:=A2.rg pn (by omega);have N3:=N2.found hpl hxm h2 h1;have hlen:(gv2.getD pn []).length≤8:=by
     have:=zn0 (N2.v.nd pn (by omega)) fun r hr=>N2.v.ar pn (by omega) r (N2.v.sub pn (by omega) r hr);omega
    symm;rw [ep];symm;refine zaI hrow2 (by rw [List.length_map];omega) fun H3 b3 e3=>?_;symm;refine q1 H3 _ sp2 (((F'.trans (Frm.but b1 (.inr (.inr rfl)))).trans F2).trans (Frm.but b3 (.inl (getD_mem (by omega))))) (A2.setRow (row:=gv2.getD pn []++[x]) (by omega) b3 (by rw [e3,List.map_append];rfl)) ⟨N3.v,N3.lg,N3.len,fun z hz=>N3.old z (C'.1 z hz)⟩
   ·symm;refine iteF ?_;symm;have C3:=C2.one hz2 hc2;exact ⟨ls2,_,rfl,(F'.trans (Frm.but b1 (.inr (.inr rfl)))).trans F2,A2,hD2,hk2,C'.trans C3,done ls2 C3 (.inl (C2.1 x (by simp)))⟩
  ·rintro σ H' ⟨ls,v,rfl,F',A',hD',hk',C',hc⟩;symm;refine q2 H' ls F' A' hD' hk' C' fun r hr=>?_;obtain ⟨j,hj,rfl⟩:=mem_getD (d:=0) hr;exact hc j (by rw [List.length_map];exact hj)
theorem zks (T:Txt K mg t):∀ n:Nat,FnOk P w K mg base CX0 (2 * n+1) t.f_Attempt_find_reader t.d_Attempt_find_reader ["self","paper","asked"] (zaV K t.C_Attempt n)∧FnOk P w K mg base CX0 (2 * n+2) t.f_Attempt_free_reading t.d_Attempt_free_reading ["self","reader","asked"] (zaU K t.C_Attempt n)
 | 0=>by
   have G0:FnOk P w K mg base CX0 0 t.f_Attempt_free_reading t.d_Attempt_free_reading ["self","reader","asked"] (zkr K t.C_Attempt 0):=⟨fun _ _ _ _ z=>z.elim,fun _ _ _ _ _ _ _ _ _ _ _ _ _ z=>z.elim⟩
   have G1:=zbC T 0 0 G0;exact ⟨G1,zbs T 1 0 G1⟩
 | n+1=>by
   have G0:=(zks T n).2;have G1:=zbC T (2 * n+2) (n+1) G0;exact ⟨G1,zbs T (2 * n+3) (n+1) G1⟩
theorem zcU (T:Txt K mg t):FnOk P w K mg base CX0 17 t.f_Attempt_find_reader t.d_Attempt_find_reader ["self","paper","asked"] (zaV K t.C_Attempt 8):=(zks T 8).1
theorem zil {hs:List Int} {rs:List (List Int)} {q r:Nat} (hr:r < rs.length):((r:Int)+1∈zah hs rs (1+(q:Int)))↔zbo hs rs q r=true:=by
 unfold zah;have e:(1+(q:Int)-1).toNat=q:=by omega
 constructor
 ·intro h;obtain ⟨i,hi,ei⟩:=List.mem_map.mp h;have:i=r:=by omega
  subst this;have:=(List.mem_filter.mp hi).2;unfold mayB at this;rw [e] at this;exact this
 ·intro h;refine List.mem_map.mpr ⟨r,List.mem_filter.mpr ⟨List.mem_range.mpr hr,?_⟩,by omega⟩;unfold mayB;rw [e];exact h
theorem zlL {hs:List Int} {rs:List (List Int)} {k x:Int} (h:x∈zah hs rs k):1≤x∧x≤rs.length:=by
 unfold zah at h;obtain ⟨i,hi,rfl⟩:=List.mem_map.mp h;have:=List.mem_range.mp (List.mem_filter.mp hi).1;omega
theorem cnt_nil (n:Nat) (x:Int):cntB ((List.range n).map fun _=>([]:List Int)) x=0:=by
 unfold cntB;rw [List.length_eq_zero_iff,List.filter_eq_nil_iff];intro a ha;obtain ⟨_,_,rfl⟩:=List.mem_map.mp ha;simp
theorem zkt {hs:List Int} {rs:List (List Int)} (B:InB hs rs):Vld ((List.range hs.length).map fun i:Nat=>zah hs rs (1+(i:Int))) ((List.range hs.length).map fun _=>[]) ((List.range rs.length).map fun i=>(rs.getD i []).getD 1 0) ((List.range rs.length).map fun i=>(rs.getD i []).getD 1 0) 0:=by
 refine ⟨by simp,rfl,fun q hq=>?_,fun q hq r hr=>?_,fun q hq r hr=>?_,fun r hr=>?_,fun r hr=>?_⟩
 ·rw [List.length_map,List.length_range] at hq;rw [zaB hq];exact List.nodup_nil
 ·rw [List.length_map,List.length_range] at hq;rw [zaB hq] at hr
  cases hr
 ·rw [List.length_map,List.length_range] at hq;rw [zaB hq] at hr;rw [List.length_map,List.length_range];exact zlL hr
 ·rw [List.length_map,List.length_range] at hr;rw [zaB hr];exact (B.rl r hr).1
 ·rw [List.length_map,List.length_range] at hr;rw [zaB hr,cnt_nil,if_neg (by omega)];simp
def zck (K:PySem.W.Frag):Sp:=fun vs H Q _=>vs.length=2∧∃ (a b:Addr) (hs:List Int) (rs:List (List Int)),vs=[.ref a,.ref b]∧SqL K H a (hs.map V.int)∧LL K H b rs∧InB hs rs∧((∃ rows,zaX hs rs rows=true)→∀ H',Same H H'→Q (.bl true) H')∧((∀ rows,zaX hs rs rows=false)→∀ H',Same H H'→Q (.bl false) H')
theorem zdZ (T:Txt K mg t):FnOk P w K mg base CX0 18 t.f_3 t.d_3 ["papers","readers"] (zck K):=by
 have G_Attempt___init__:=zdC (P:=P) (w:=w) (base:=base) T;have G_Attempt_find_reader:=zcU (P:=P) (w:=w) (base:=base) T;refine T.F_3.ok sc_3 (fun _ _ _ _ h=>h.1) fun cdv A outer s H vs Q E hr h=>by
  refine ⟨_,(zab (zax (i:=2) sc_3.nd rfl (Or.inl rfl) (zl0 T.mk_Attempt G_Attempt___init__ (hr.mono (by decide)) (by rfl) T.mg_Attempt T.b_Attempt___init__ .nil zau (zaa (pv 0) (zaa (pv 1) pa_nil))))
   (zab (zaZ PassesOwn.never rfl (zb4 (by rfl) T.z_range (zaa zad (zaa (zaq (op_addG) (zag (zai (K:=K) rfl) (by rfl) T.z_len (by rfl) (zaa (pv 0) pa_nil)) zad) pa_nil))) (zar (i:=3) sc_3.nd rfl (Or.inl rfl))
   (zae (zaZ PassesOwn.never rfl (zaW (by rfl) T.z_range (zaa (zcW (v:=.int 2) (by rfl) T.v_READERS_EACH T.w_READERS_EACH) pa_nil)) (zar (i:=4) sc_3.nd rfl (Or.inl rfl))
   (zae (zaS (za6 (zav (K:=K) rfl (zbf (pv 2) T.cl_Attempt T.me_Attempt_find_reader G_Attempt_find_reader (hr.mono (by first | decide | exact Nat.le_refl _)) T.b_Attempt_find_reader .nil zau (zaa (pv 3) (zaa pe_dnewK pa_nil))) (fun _=>rfl)))
   (zae (zak za3)) pss_nil)))))
   (zae (zak za3)))),?_⟩
  obtain ⟨_,a,b,hs,rs,rfl,ha,L,B,q1,q2⟩:=h;have B1:=B.lp;have B2:=B.lr;have h0:∀ i,i < rs.length→0≤(rs.getD i []).getD 1 0:=fun i hi=>(B.rl i hi).1;symm;refine zgB fun x dx H1 fx fdx ne s1 ex=>?_;refine zn3 ex (s1.seq ha) (L.same s1) B fun d H2 hdx k2 fg fS A2=>⟨rfl,?_⟩
  have V0:=zkt B;have hal:∀ q,q < hs.length→((List.range hs.length).map fun i:Nat=>zah hs rs (1+(i:Int))).getD q []=zah hs rs (1+(q:Int)):=fun q hq=>zaB hq;have hgl:∀ q,q < hs.length→(((List.range hs.length).map fun _=>([]:List Int)).getD q []).length=0:=fun q hq=>by rw [zaB hq];rfl
  have hll:((List.range rs.length).map fun i=>(rs.getD i []).getD 1 0).length=rs.length:=by rw [List.length_map,List.length_range]
  have hlg:∀ r,r < rs.length→((List.range rs.length).map fun i=>(rs.getD i []).getD 1 0).getD r 0=(rs.getD r []).getD 1 0:=fun r hr=>zaB hr;have hla:((List.range hs.length).map fun i:Nat=>zah hs rs (1+(i:Int))).length=hs.length:=by rw [List.length_map,List.length_range]
  generalize (List.range hs.length).map (fun i:Nat=>zah hs rs (1+(i:Int)))=al at *;generalize eg0:(List.range hs.length).map (fun _=>([]:List Int))=gv0 at *;have hlg0:gv0.length=hs.length:=by rw [← eg0,List.length_map,List.length_range]
  generalize (List.range rs.length).map (fun i=>(rs.getD i []).getD 1 0)=lim at *;have S2:Same H H2:=fun c o e=>k2 c o (s1 c o e) (fun z=>by rw [z,fx] at e;cases e);have fg':∀ g∈d.gps,H g=none:=fun g hg=>s1.free (fg g hg);have fS':H d.S=none:=s1.free fS;have frame:∀ {D:Addr} {H3 H4:Hp},Same H H3→H D=none→Frm d D H3 H4→Same H H4:=fun {D H3 H4} s f F c o e=>F c o (s c o e) (fun z=>by rw [fg' c z] at e;cases e) (fun z=>by rw [z,fS'] at e;cases e) (fun z=>by rw [z,f] at e;cases e);have ha2:=S2.seq ha;have hcl:=T.cl_Attempt;have fM:=zhA d.A d.G d.S (m:="find_reader") (by decide +kernel) (by decide +kernel) (by decide +kernel);subst hdx;symm;refine zeY ⟨by omega,by omega,by omega,by omega⟩ ?_;have en:((hs.length:Int)+1-1).toNat=hs.length:=by omega
  rw [en];refine zbV (fun i σ H'=>∃ gv sp v w,σ=[some (.ref a),some (.ref b),some (.ref d.x),v,w]∧Same H H'∧Att t.C_Attempt H' d al gv sp∧Vld al gv lim sp 0∧∀ q,q < hs.length→(gv.getD q []).length=if q < i then 2 else 0) ⟨gv0,lim,none,none,rfl,S2,A2,V0,fun q hq=>by rw [hgl q hq,if_neg (by omega)]⟩ ?_ ?_
  ·rintro i σ H' hi ⟨gv,sp,v,w',rfl,S',A',V',hlen⟩;symm;refine zbU (by decide) (by decide) ?_;refine zbV (fun j σ H'=>∃ gv sp w,σ=[some (.ref a),some (.ref b),some (.ref d.x),some (.int (1+(i:Int))),w]∧Same H H'∧Att t.C_Attempt H' d al gv sp∧Vld al gv lim sp 0∧∀ q,q < hs.length→(gv.getD q []).length=if q < i then 2 else if q=i then j else 0) ⟨gv,sp,w',rfl,S',A',V',fun q hq=>by
    rw [hlen q hq]
    by_cases e:q < i
    ·rw [if_pos e,if_pos e]
    ·rw [if_neg e,if_neg e];split <;> rfl⟩ ?_ ?_
   ·rintro j σ H3 hj ⟨gv3,sp3,w3,rfl,S3,A3,V3,hlen3⟩;have hj:j < 2:=hj;obtain ⟨dx3,hob3⟩:=A3.ob;have lg3:=V3.lg;symm;refine zaN hob3 fM ?_;symm;refine zgC fun D H4 f4 s4 e4=>?_;symm;have ei:(1+(i:Int)-1).toNat=i:=by omega
    refine zlK (n:=8) (A3.same s4) e4 V3 ⟨List.nodup_nil,fun k hk=>by cases hk⟩ (by rw [List.length_nil];omega) (by omega) (by omega) (by omega) (by omega) (fun H5 gv5 sp5 F5 A5 N5=>?_) (fun H5 ls F5 A5 hD5 hk5 C5 hc5=>?_)
    ·rw [ei] at N5;symm;refine iteF ?_;symm;refine ⟨gv5,sp5,_,rfl,frame (S3.trans s4) (S3.free f4) F5,A5,N5.v,fun q hq=>?_⟩;rw [N5.len q (by omega),hlen3 q hq]
     by_cases e1:q < i
     ·rw [if_pos e1,if_pos e1,if_neg (by omega)]
     ·rw [if_neg e1,if_neg e1]
      by_cases e2:q=i
      ·rw [if_pos e2,if_pos e2,if_pos e2]
      ·rw [if_neg e2,if_neg e2,if_neg e2]
    ·rw [ei] at hc5;symm;refine iteT ?_;symm;refine q2 ?_ _ (frame (S3.trans s4) (S3.free f4) F5);refine zj3 (p:=i) h0 V3 hla hll hlg (fun q hq r hr hallow=>by rw [hal q hq];exact (zil hr).mpr hallow) (fun q hq=>?_) hi ?_ C5 hc5
     ·rw [hlen3 q hq];split
      ·omega
      ·split <;> omega
     ·rw [hlen3 i hi,if_neg (by omega),if_pos rfl];exact hj
   ·rintro σ H3 ⟨gv3,sp3,w3,rfl,S3,A3,V3,hlen3⟩;refine ⟨gv3,sp3,_,_,rfl,S3,A3,V3,fun q hq=>?_⟩;rw [hlen3 q hq]
    by_cases e1:q < i
    ·rw [if_pos e1,if_pos (by omega)]
    ·rw [if_neg e1]
     by_cases e2:q=i
     ·rw [if_pos e2,if_pos (by omega)];rfl
     ·rw [if_neg e2,if_neg (by omega)]
  ·rintro σ H' ⟨gv,sp,v,w',rfl,S',A',V',hlen⟩;symm;refine q1 ?_ _ S';refine zk8 h0 V' hla hll hlg (fun q hq r hr hm=>by rw [hal q hq] at hm;exact (zil hr).mp hm) fun q hq=>?_;rw [hlen q hq,if_pos hq]
theorem zei {H:Hp} {Q:VK} {E:XK} {a b:Addr} {hs:List Int} {rs:List (List Int)} (h2:SqL K H a (hs.map V.int)) (h3:LL K H b rs) (B:InB hs rs) (q1:(∃ rows,zaX hs rs rows=true)→∀ H',Same H H'→Q (.bl true) H') (q2:(∀ rows,zaX hs rs rows=false)→∀ H',Same H H'→Q (.bl false) H'):zck K [.ref a,.ref b] H Q E:=⟨rfl,a,b,hs,rs,rfl,h2,h3,B,q1,q2⟩
def zdt (K:PySem.W.Frag):Sp:=fun vs H Q _=>vs.length=2∧∃ (a b:Addr) (rs:List (List Int)) (ls:List Int),vs=[.ref a,.ref b]∧LL K H a rs∧SqL K H b (ls.map V.int)∧ls.length=rs.length∧rs.length≤8∧(∀ i,i < rs.length→(rs.getD i []).length=2)∧∀ p H',RowsAt H p (zgD rs ls) H'→Q (.ref p) H'
theorem zfv (T:Txt K mg t):FnOk P w K mg base CX0 1 t.f_14 t.d_14 ["readers","limits"] (zdt K):=by
 refine T.F_14.ok sc_14 (fun _ _ _ _ h=>h.1) fun cdv A outer s H vs Q E hr h=>by
  refine ⟨_,(zae (zak (za7 (zas (sc:=zac s_14) (XN:=["readers","limits"]) (N:=["row","limit"]) (own:=2) (js:=[]) rfl rfl (by decide +kernel)) rfl (zjK (K:=K) rfl (by rfl) T.z_zip (zaa (pv 0) (zaa (pv 1) pa_nil))) (fun _ _ _ _ _=>(zfY (K:=K) (n:=2) rfl rfl (zce (zar (i:=0) (show List.Nodup [(Str.ofString "row"),(Str.ofString "limit")] by decide +kernel) rfl (Or.inl rfl)) (zce (zar (i:=1) (show List.Nodup [(Str.ofString "row"),(Str.ofString "limit")] by decide +kernel) rfl (Or.inl rfl)) pgs_nil)))) (fun _ _ _ _ _=>zbx) (fun _ _ _ _ _=>(zaM (zaa (zaw (zaf (K:=K) rfl) (pv 0) zad (fun _ _=>rfl)) (zaa (pv 1) pa_nil))))))),?_⟩;obtain ⟨_,a,b,rs,ls,rfl,L,hb,hl,h8,r2,q⟩:=h;obtain ⟨ps,ha,hpl,hpr⟩:=id L;have en:(ps.map V.ref).length=rs.length:=by rw [List.length_map];exact hpl
  have em:(ls.map V.int).length=ls.length:=List.length_map ..;symm;refine zjL ha hb ?_;refine zb7 (zco.zip ha hb (by omega)) (by omega) (fun i=>[(rs.getD i []).getD 0 0,ls.getD i 0]) (fun i H' Q' hi s q'=>?_) fun p H' R=>?_
  ·have hi':i < rs.length:=by omega
   have ex:(ps.map V.ref).getD i .non=.ref (ps.getD i 0):=by
    rw [List.getD_eq_getElem?_getD,List.getElem?_map,List.getElem?_eq_getElem (by omega),List.getD_eq_getElem?_getD,List.getElem?_eq_getElem (by omega)];rfl
   have ey:(ls.map V.int).getD i .non=.int (ls.getD i 0):=by
    rw [List.getD_eq_getElem?_getD,List.getElem?_map,List.getElem?_eq_getElem (by omega),List.getD_eq_getElem?_getD,List.getElem?_eq_getElem (by omega)];rfl
   rw [ex,ey];have h2:=r2 i hi';have hrow:=s _ _ (hpr i hi');show (_:TE) (some (.ref (ps.getD i 0))::some (.int (ls.getD i 0))::_) _ _;symm;exact zat (by simp) q'
  rw [en] at R;exact q p H' R
theorem zga {H:Hp} {Q:VK} {E:XK} {a b:Addr} {rs:List (List Int)} {ls:List Int} (h:LL K H a rs) (hb:SqL K H b (ls.map V.int)) (hl:ls.length=rs.length) (h8:rs.length≤8) (r2:∀ i,i < rs.length→(rs.getD i []).length=2) (q:∀ p H',RowsAt H p (zgD rs ls) H'→Q (.ref p) H'):zdt K [.ref a,.ref b] H Q E:=⟨rfl,a,b,rs,ls,rfl,h,hb,hl,h8,r2,q⟩
def zeu (K:PySem.W.Frag):Sp:=fun vs H Q _=>vs.length=3∧∃ (a b c:Addr) (hs:List Int) (rs rows:List (List Int)),vs=[.ref a,.ref b,.ref c]∧SqL K H a (hs.map V.int)∧LL K H b rs∧LL K H c rows∧InB hs rs∧zcp hs rs rows∧(Ext hs rs rows→∀ H',Same H H'→Q (.bl true) H')∧(¬Ext hs rs rows→∀ H',Same H H'→Q (.bl false) H')
theorem zgR (T:Txt K mg t):FnOk P w K mg base CX0 19 t.f_13 t.d_13 ["papers","readers","rows"] (zeu K):=by
 have G_7:=zdY (P:=P) (w:=w) (base:=base) T;have G_3:=zdZ (P:=P) (w:=w) (base:=base) T;have G_14:=zfv (P:=P) (w:=w) (base:=base) T;have G_8:=zcI (P:=P) (w:=w) (base:=base) T;refine T.F_13.ok sc_13 (fun _ _ _ _ h=>h.1) fun cdv A outer s H vs Q E hr h=>by
  refine ⟨_,(zab (zaS (za6 (zav (K:=K) rfl (zal G_7 (hr.mono (by decide)) (by rfl) T.m_7 T.F_7.kp T.b_7 .nil zau (zaa (pv 1) (zaa (pv 2) pa_nil))) (fun _=>rfl)))
   (zae (zak za3)) pss_nil)
   (zae (zak (zal G_3 (hr.mono (by decide)) (by rfl) T.m_3 T.F_3.kp T.b_3 .nil zau (zaa (zdL (zdP (K:=K) rfl) (pv 0) (zeU (zag (zai (K:=K) rfl) (by rfl) T.z_len (by rfl) (zaa (pv 2) pa_nil))) po_none) (zaa (zal G_14 (hr.mono (by decide)) (by rfl) T.m_14 T.F_14.kp T.b_14 .nil zau (zaa (pv 1) (zaa (zal G_8 (hr.mono (by decide)) (by rfl) T.m_8 T.F_8.kp T.b_8 .nil zau (zaa (pv 1) (zaa (pv 2) pa_nil))) pa_nil))) pa_nil)))))),?_⟩
  obtain ⟨_,a,b,c,hs,rs,rows,rfl,ha,L,L3,B,P,q1,q2⟩:=h;have B1:=B.lp;have B2:=B.lr;have pl:=P.1;have hg:=znH P;symm;refine zeh L L3 B2 (by omega) B.r2 fun H1 s1=>?_;symm
  cases ek:zhz rs rows with
  | false =>
    refine iteT ?_;symm;refine q2 (fun z=>?_) _ s1;have:=zgQ.mpr (hg.mp z).1;rw [ek] at this
    cases this
  | true =>
    have hk:=zgQ.mp ek;refine iteF ?_;obtain ⟨ps3,hc3,hl3,hr3⟩:=id (L3.same s1);symm;refine zct (s1.seq ha) fun p2 H2 f2 s2 e2=>?_;have el:(ps3.length:Int)=((rows.length:Nat):Int):=by omega
    rw [el,zgw,← List.map_drop] at e2;have s12:=s1.trans s2;symm;refine zcJ (L.same s12) (L3.same s12) B2 (by omega) B.r2 fun p4 H4 f4 s4 e4=>?_;have s14:=s12.trans s4;have hll:(za4 rs rows).length=rs.length:=by unfold za4;rw [List.length_map,List.length_range]
    symm;refine zga (L.same s14) (SqL.of e4) hll B2 B.r2 fun p5 H5 R5=>?_;have s15:=s14.trans R5.same;symm;refine zei (SqL.of (R5.same _ _ (s4 _ _ e2))) R5.ll (znI B hk rows.length) (fun h H6 s6=>q1 (hg.mpr ⟨hk,h⟩) _ (s15.trans s6)) (fun h H6 s6=>q2 (fun z=>?_) _ (s15.trans s6));obtain ⟨_,more,hm⟩:=hg.mp z;rw [h more] at hm
    cases hm
theorem zhC {H:Hp} {Q:VK} {E:XK} {a b c:Addr} {hs:List Int} {rs rows:List (List Int)} (h1:SqL K H a (hs.map V.int)) (h2:LL K H b rs) (h3:LL K H c rows) (B:InB hs rs) (P:zcp hs rs rows) (q1:Ext hs rs rows→∀ H',Same H H'→Q (.bl true) H') (q2:¬Ext hs rs rows→∀ H',Same H H'→Q (.bl false) H'):zeu K [.ref a,.ref b,.ref c] H Q E:=⟨rfl,a,b,c,hs,rs,rows,rfl,h1,h2,h3,B,P,q1,q2⟩
theorem zn5 (hs:List Int) (rs:List (List Int)) (k:Int):(zah hs rs k).Pairwise (· < ·):=by
 unfold zah;rw [List.pairwise_map];exact (List.pairwise_lt_range.filter _).imp fun h=>by omega
theorem zn6 (hs:List Int) (rs:List (List Int)) (k:Int):(zah hs rs k).length≤rs.length:=by
 unfold zah;rw [List.length_map];exact Nat.le_trans (List.length_filter_le _ _) (by simp)
theorem zlt {hs:List Int} {rs:List (List Int)} {k:Nat} {x:Int}:x∈zah hs rs ((k:Int)+1)↔1≤x∧x≤rs.length∧(rs.getD (x-1).toNat []).getD 0 0≠hs.getD k 0:=by
 have ek:(k:Int)+1=1+(k:Int):=Int.add_comm ..;rw [ek];constructor
 ·intro h;have hr:=zlL h;refine ⟨hr.1,hr.2,?_⟩;have e:x=(((x-1).toNat:Nat):Int)+1:=by omega
  rw [e,zil (by omega)] at h;unfold zbo at h;simpa using h
 ·rintro ⟨h1,h2,h3⟩;have e:x=(((x-1).toNat:Nat):Int)+1:=by omega
  rw [e,zil (by omega)];unfold zbo;rw [decide_eq_false h3];rfl
theorem zeQ {hs:List Int} {rs:List (List Int)} {k:Nat} {row:List Int}:row∈prsB (zah hs rs ((k:Int)+1))↔zcu rs (hs.getD k 0) row=true:=by
 rw [prs_mem (zn5 ..),zb6];constructor
 ·rintro ⟨x,y,rfl,hx,hy,hlt⟩;obtain ⟨x1,x2,x3⟩:=zlt.mp hx;obtain ⟨y1,y2,y3⟩:=zlt.mp hy;exact ⟨rfl,x1,hlt,y2,x3,y3⟩
 ·rintro ⟨h1,h2,h3,h4,h5,h6⟩;exact ⟨row.getD 0 0,row.getD 1 0,len2 h1,zlt.mpr ⟨h2,by omega,h5⟩,zlt.mpr ⟨by omega,h4,h6⟩,h3⟩
theorem zfO {hs:List Int} {rs rows:List (List Int)} {row:List Int} (P:zcp hs rs rows) (hl:rows.length < hs.length) (h:zcu rs (hs.getD rows.length 0) row=true):zcp hs rs (rows++[row]):=by
 refine ⟨by rw [List.length_append,List.length_singleton];omega,fun k hk=>?_⟩;rw [List.length_append,List.length_singleton] at hk
 by_cases e:k < rows.length
 ·rw [zaD e];exact P.2 k e
 ·have:k=rows.length:=by omega
  subst this;rw [zaA];exact h
theorem zim {hs:List Int} {rs rows more:List (List Int)} (hl:rows.length < hs.length) (h:zaX hs rs (rows++more)=true):∃ r rest,more=r::rest∧zcu rs (hs.getD rows.length 0) r=true∧Ext hs rs (rows++[r]):=by
 obtain ⟨h1,h2,_⟩:=zbr.mp h
 match more with
 | []=>rw [List.append_nil] at h1;omega
 | r::rest =>
   refine ⟨r,rest,rfl,?_,rest,by rw [List.append_assoc];exact h⟩;have:=h2 rows.length hl;rw [zcB (Nat.le_refl _),Nat.sub_self] at this;exact this
theorem zi0 {hs:List Int} {rs rows:List (List Int)} (hl:rows.length < hs.length) (h:∀ r∈prsB (zah hs rs ((rows.length:Int)+1)),¬Ext hs rs (rows++[r])):¬Ext hs rs rows:=by
 rintro ⟨more,hm⟩;obtain ⟨r,rest,_,hp,hx⟩:=zim hl hm;exact h r (zeQ.mpr hp) hx
theorem zi1 {hs:List Int} {rs rows:List (List Int)} {i:Nat} (P:zcp hs rs rows) (hl:rows.length < hs.length) (hi:i < (prsB (zah hs rs ((rows.length:Int)+1))).length)
  (h0:∀ j,j < i→¬Ext hs rs (rows++[(prsB (zah hs rs ((rows.length:Int)+1))).getD j []])) (hn:∀ full,zaX hs rs full=true→nbB rows full=true):∀ full,zaX hs rs full=true→nbB (rows++[(prsB (zah hs rs ((rows.length:Int)+1))).getD i []]) full=true:=by
 intro full hf;refine zh7 (hn full hf) fun he hlt=>?_;obtain ⟨f1,f2,_⟩:=zbr.mp hf;have ef:full=rows++full.drop rows.length:=by
  have e1:rows=full.take rows.length:=by
   refine zgv (by rw [List.length_take];omega) fun j hj=>?_;rw [ze2 hj];obtain ⟨e0,e1⟩:=he j hj;have p1:=(zb6.mp (P.2 j hj)).1;have p2:=(zb6.mp (f2 j (by omega))).1;exact znJ p1 p2 e0 e1
  conv=>rhs;arg 1;rw [e1]
  exact (List.take_append_drop _ _).symm
 rw [ef] at hf;obtain ⟨r,rest,er,hp,hx⟩:=zim hl hf;have eg:full.getD rows.length []=r:=by
  rw [ef,zcB (Nat.le_refl _),Nat.sub_self,er];rfl
 rw [eg];obtain ⟨j,hj,ej⟩:=mem_getD (d:=[]) (zeQ.mpr hp);have hij:¬j < i:=fun z=>h0 j z (by rw [ej];exact hx)
 by_cases e:j=i
 ·subst e;rw [ej];exact .inr ⟨rfl,Int.le_refl _⟩
 ·have:=List.pairwise_iff_getElem.mp (prs_ord (zn5 hs rs ((rows.length:Int)+1))) i j hi hj (by omega);rw [← ej,List.getD_eq_getElem?_getD,List.getElem?_eq_getElem hi,List.getD_eq_getElem?_getD,List.getElem?_eq_getElem hj];exact this
def zca (K:PySem.W.Frag):Sp:=fun vs H Q _=>vs.length=3∧∃ (a b c:Addr) (hs:List Int) (rs rows:List (List Int)) (ps:List Addr),vs=[.ref a,.ref b,.ref c]∧SqL K H a (hs.map V.int)∧LL K H b rs∧H c=some (.lst (ps.map V.ref))∧ps.length=rows.length∧(∀ i,i < rows.length→H (ps.getD i 0)=some (.lst ((rows.getD i []).map V.int)))∧InB hs rs∧zcp hs rs rows∧rows.length < hs.length ∧
 ((∀ r∈prsB (zah hs rs ((rows.length:Int)+1)),¬Ext hs rs (rows++[r]))→∀ H',Same H H'→Q .non H') ∧
 ∀ i,i < (prsB (zah hs rs ((rows.length:Int)+1))).length→Ext hs rs (rows++[(prsB (zah hs rs ((rows.length:Int)+1))).getD i []])→(∀ j,j < i→¬Ext hs rs (rows++[(prsB (zah hs rs ((rows.length:Int)+1))).getD j []])) →
  ∀ p H',H p=none→Same H H'→H' p=some (.lst (((prsB (zah hs rs ((rows.length:Int)+1))).getD i []).map V.int))→Q (.ref p) H'
theorem zdD (T:Txt K mg t):FnOk P w K mg base CX0 20 t.f_11 t.d_11 ["papers","readers","rows"] (zca K):=by
 have G_12:=zhw (P:=P) (w:=w) (base:=base) T;have G_2:=zcr (P:=P) (w:=w) (base:=base) T;have G_13:=zgR (P:=P) (w:=w) (base:=base) T;refine T.F_11.ok sc_11 (fun _ _ _ _ h=>h.1) fun cdv A outer s H vs Q E hr h=>by
  refine ⟨_,(zab (zax (i:=3) sc_11.nd rfl (Or.inl rfl) (zaq (op_addG) (zag (zai (K:=K) rfl) (by rfl) T.z_len (by rfl) (zaa (pv 2) pa_nil)) zad))
   (zab (zaZ PassesOwn.never rfl (zaJ (K:=K) rfl (zal G_12 (hr.mono (by decide)) (by rfl) T.m_12 T.F_12.kp T.b_12 .nil zau (zaa (zal G_2 (hr.mono (by decide)) (by rfl) T.m_2 T.F_2.kp T.b_2 .nil zau (zaa (pv 0) (zaa (pv 1) (zaa (pv 3) pa_nil)))) pa_nil))) (zar (i:=4) sc_11.nd rfl (Or.inl rfl))
   (zae (zaS (zav (K:=K) rfl (zal G_13 (hr.mono (by decide)) (by rfl) T.m_13 T.F_13.kp T.b_13 .nil zau (zaa (pv 0) (zaa (pv 1) (zaa (zaq (op_addG) (pv 2) (zaM (zaa (pv 4) pa_nil))) pa_nil)))) (fun _=>rfl))
   (zae (zak (pv 4))) pss_nil)))
   (zae (zak zcL)))),?_⟩
  obtain ⟨_,a,b,c,hs,rs,rows,ps,rfl,ha,L,hc,hpl,hpr,B,P,hl,q0,q1⟩:=h;have B1:=B.lp;have B2:=B.lr;symm;refine zcH ha L (by omega) (by omega) (by omega) B.r2 fun p1 H1 f1 s1 e1=>?_;have el:(ps.length:Int)+1=(rows.length:Int)+1:=by omega
  rw [el] at e1 ⊢;have hrl:=zn6 hs rs ((rows.length:Int)+1);symm;refine ziW (SqL.of e1) (by omega) fun p2 H2 R2=>?_;have hP:∀ r∈prsB (zah hs rs ((rows.length:Int)+1)),zcu rs (hs.getD rows.length 0) r=true:=fun r hr=>zeQ.mp hr;generalize prsB (zah hs rs ((rows.length:Int)+1))=Pr at *;obtain ⟨s2,f2,ps2,e2,l2,nd2,r2⟩:=id R2;have s12:=s1.trans s2;refine zaT (SqL.of e2) ?_;refine zbN (xs:=ps2.map V.ref) (fun i σ H'=>Same H2 H'∧(∃ v,σ=[some (.ref a),some (.ref b),some (.ref c),some (.int ((rows.length:Int)+1)),v])∧∀ j,j < i→¬Ext hs rs (rows++[Pr.getD j []])) ⟨Same.refl _,⟨none,rfl⟩,fun j hj=>absurd hj (by omega)⟩ ?_ ?_ ?_
  ·rintro i σ H' _ ⟨s,_,_⟩;exact SqL.of (s _ _ e2)
  ·rintro i x σ H' hx ⟨s,⟨v,rfl⟩,h0⟩;obtain ⟨hi,rfl⟩:=zfZ hx;obtain ⟨g1,g2,g3⟩:=r2 i (by omega);have sH:=s12.trans s;have hc':=sH _ _ hc;have hrow:=s _ _ g1;have hpair:=hP _ (getD_mem (d:=[]) (show i < Pr.length by omega));symm;refine zat (by simp) fun p3 H3 f3 s3 e3=>?_;refine zfX (s3 _ _ hc') e3 (by rw [List.length_map];simp only [List.length_cons,List.length_nil];omega) fun p4 H4 f4 s4 e4=>?_;have s24:=s3.trans s4;have sH4:=sH.trans s24;symm;have L4:LL K H4 p4 (rows++[Pr.getD i []]):=LL.push (q:=ps2.getD i 0) e4 hpl (s24 _ _ hrow) fun j hj=>sH4 _ _ (hpr j hj);refine zhC (sH4.seq ha) (L.same sH4) L4 B (zfO P hl hpair) (fun hx H5 s5=>?_) (fun hx H5 s5=>?_)
   ·symm;refine iteT ?_;symm;exact q1 i (by omega) hx h0 _ _ (s1.free g2) (sH4.trans s5) (s5 _ _ (s24 _ _ hrow))
   ·symm;refine iteF ?_;symm;refine ⟨(s.trans s24).trans s5,⟨_,rfl⟩,fun j hj=>?_⟩
    by_cases e:j=i
    ·subst e;exact hx
    ·exact h0 j (by omega)
  ·rintro σ H' ⟨s,⟨v,rfl⟩,h0⟩;symm;refine q0 (fun r hr=>?_) _ (s12.trans s);obtain ⟨j,hj,rfl⟩:=mem_getD (d:=[]) hr;exact h0 j (by rw [List.length_map];omega)
theorem zd0 {H:Hp} {Q:VK} {E:XK} {a b c:Addr} {hs:List Int} {rs rows:List (List Int)} {ps:List Addr} (h1:SqL K H a (hs.map V.int)) (h2:LL K H b rs) (h3:H c=some (.lst (ps.map V.ref))) (h4:ps.length=rows.length) (h5:∀ i,i < rows.length→H (ps.getD i 0)=some (.lst ((rows.getD i []).map V.int))) (B:InB hs rs) (P:zcp hs rs rows) (hl:rows.length < hs.length)
  (q0:(∀ r∈prsB (zah hs rs ((rows.length:Int)+1)),¬Ext hs rs (rows++[r]))→∀ H',Same H H'→Q .non H')
  (q1:∀ i,i < (prsB (zah hs rs ((rows.length:Int)+1))).length→Ext hs rs (rows++[(prsB (zah hs rs ((rows.length:Int)+1))).getD i []])→(∀ j,j < i→¬Ext hs rs (rows++[(prsB (zah hs rs ((rows.length:Int)+1))).getD j []])) →
   ∀ p H',H p=none→Same H H'→H' p=some (.lst (((prsB (zah hs rs ((rows.length:Int)+1))).getD i []).map V.int))→Q (.ref p) H'):zca K [.ref a,.ref b,.ref c] H Q E:=⟨rfl,a,b,c,hs,rs,rows,ps,rfl,h1,h2,h3,h4,h5,B,P,hl,q0,q1⟩
def zcR (K:PySem.W.Frag):Sp:=fun vs H Q _=>vs.length=2∧∃ (a b:Addr) (hs:List Int) (rs:List (List Int)),vs=[.ref a,.ref b]∧SqL K H a (hs.map V.int)∧LL K H b rs∧InB hs rs∧(zbW hs rs none→∀ H',Same H H'→Q .non H')∧∀ rows,zbW hs rs (some rows)→∀ p H',RowsAt H p rows H'→Q (.ref p) H'
theorem zeI (T:Txt K mg t):FnOk P w K mg base CX0 21 t.f_10 t.d_10 ["papers","readers"] (zcR K):=by
 have G_11:=zdD (P:=P) (w:=w) (base:=base) T;refine T.F_10.ok sc_10 (fun _ _ _ _ h=>h.1) fun cdv A outer s H vs Q E hr h=>by
  refine ⟨_,(zab (zax (i:=2) sc_10.nd rfl (Or.inl rfl) (zaM pa_nil))
   (zab (zhT PassesOwn.never (zap (op_lt) (zag (zai (K:=K) rfl) (by rfl) T.z_len (by rfl) (zaa (pv 2) pa_nil)) (zag (zai (K:=K) rfl) (by rfl) T.z_len (by rfl) (zaa (pv 0) pa_nil)) (zaC _))
   (zab (zax (i:=3) sc_10.nd rfl (Or.inl rfl) (zal G_11 (hr.mono (by decide)) (by rfl) T.m_11 T.F_11.kp T.b_11 .nil zau (zaa (pv 0) (zaa (pv 1) (zaa (pv 2) pa_nil)))))
   (zab (zaS (zap (op_isNN) (pv 3) zcL (zaC _))
   (zae (zak zcL)) pss_nil)
   (zae (zaG (zbp (K:=K) rfl PySem.F.plainAttrs_list PySem.F.slot_list_append PySem.F.type_list_append mt_append (pv 2) (zaa (pv 3) pa_nil)))))))
   (zae (zak (pv 2))))),?_⟩
  obtain ⟨_,a,b,hs,rs,rfl,ha,L,B,q0,q1⟩:=h;have B1:=B.lp;symm;refine zat (by decide) fun p1 H1 f1 s1 e1=>?_;symm;refine ⟨fun n σ H'=>∃ rows v,σ=[some (.ref a),some (.ref b),some (.ref p1),v]∧RowsAt H p1 rows H'∧rows.length+n=hs.length∧zcp hs rs rows∧(rows=[]∨Ext hs rs rows)∧∀ full,zaX hs rs full=true→nbB rows full=true,⟨hs.length,[],none,rfl,RowsAt.start f1 s1 e1,by simp,⟨by simp,fun k hk=>absurd hk (by simp)⟩,.inl rfl,fun full _=>rfl⟩,?_⟩;rintro n σ H' ⟨rows,v,rfl,R,hn,P,hx,hb⟩;obtain ⟨sR,fR,ps,eR,lR,ndR,rR⟩:=id R;have ha':=sR.seq ha;symm;refine zbi (fun hlt=>?_) (fun hge=>?_)
  ·refine ⟨fun σ H''=>∃ rows v,σ=[some (.ref a),some (.ref b),some (.ref p1),v]∧RowsAt H p1 rows H''∧rows.length+(n-1)=hs.length∧zcp hs rs rows∧(rows=[]∨Ext hs rs rows)∧∀ full,zaX hs rs full=true→nbB rows full=true,?_,?_⟩
   ·rintro σ' H'' ⟨rows',v',h1,h2,h3,h4⟩;exact ⟨n-1,by omega,rows',v',h1,h2,h3,h4⟩
   ·symm;refine zd0 ha' (L.same sR) eR lR (fun i hi=>(rR i hi).1) B P (by omega) (fun hno H2 s2=>?_) (fun i hi hxi h0 p2 H2 f2 s2 e2=>?_)
    ·symm;refine iteT ?_;symm;have hne:=zi0 (by omega) hno;refine q0 (fun rows'=>?_) _ (sR.trans s2);rcases hx with hx | hx
     ·subst hx;rw [Bool.eq_false_iff];intro z;exact hne ⟨rows',z⟩
     ·exact absurd hx hne
    ·have hpair:=zeQ.mp (getD_mem (d:=[]) hi);have hst:=zi1 P (by omega) hi h0 hb;symm;refine iteF ?_;generalize (prsB (zah hs rs ((rows.length:Int)+1))).getD i []=row at *;have eR2:=s2 _ _ eR;symm;refine zaI (s2 _ _ eR) (by rw [List.length_map];omega) fun H3 b3 e3=>?_;symm;exact ⟨rows++[row],_,rfl,R.push f2 s2 e2 (s2 _ _ eR) b3 e3,by rw [List.length_append,List.length_singleton];omega,zfO P (by omega) hpair,.inr hxi,hst⟩
  ·have hlen:rows.length=hs.length:=by omega
   symm;refine q1 rows ⟨?_,hb⟩ _ _ R;rcases hx with hx | ⟨more,hm⟩
   ·subst hx;refine zbr.mpr ⟨hlen,fun k hk=>?_,fun k hk=>?_⟩
    ·rw [← hlen] at hk;simp at hk
    ·have:=(B.rl k hk).1;show ((0:Nat):Int)≤_;simpa using this
   ·have h1:=(zbr.mp hm).1;rw [List.length_append] at h1;have:more=[]:=List.eq_nil_of_length_eq_zero (by omega);rw [this,List.append_nil] at hm;exact hm
theorem zfi {H:Hp} {a b:Addr} {hs:List Int} {rs:List (List Int)} {Q:VK} {E:XK} (h1:SqL K H a (hs.map V.int)) (h2:LL K H b rs) (h4:InB hs rs) (q0:zbW hs rs none→∀ H',Same H H'→Q .non H') (q1:∀ rows,zbW hs rs (some rows)→∀ p H',RowsAt H p rows H'→Q (.ref p) H'):zcR K [.ref a,.ref b] H Q E:=⟨rfl,a,b,hs,rs,rfl,h1,h2,h4,q0,q1⟩
def zev (K:PySem.W.Frag) (C:Addr):Sp:=fun vs H Q _=>vs.length=1∧∃ (x:Addr) (F:Addr→Prop) (st:ExS),vs=[.ref x]∧ExAt C H x F st∧InB st.hs st.rs∧st.dl=none∧(zbW st.hs st.rs none→∀ H',Same H H'→Q (.bl false) H')∧∀ rows,zbW st.hs st.rs (some rows)→∀ H' F',ExFr H H' F F'→ExAt C H' x F' { st with dl:=some (rows,[]) }→Q (.bl true) H'
theorem zgS (T:Txt K mg t):FnOk P w K mg base CX0 22 t.f_28 t.d_28 ["self"] (zev K t.C_Exam):=by
 have G_39:=zaQ (P:=P) (w:=w) (base:=base) T;have G_10:=zeI (P:=P) (w:=w) (base:=base) T;refine T.F_28.ok sc_28 (fun _ _ _ _ h=>h.1) fun cdv A outer s H vs Q E hr h=>by
  refine ⟨_,(zab (zaG (zbt (pv 0) T.cl_Exam T.me_39 G_39 (hr.mono (by decide)) T.b_39 .nil zau))
   (zab (zax (i:=1) sc_28.nd rfl (Or.inl rfl) (zal G_10 (hr.mono (by decide)) (by rfl) T.m_10 T.F_10.kp T.b_10 .nil zau (zaa (zaF (K:=K) rfl (pv 0)) (zaa (zaF (K:=K) rfl (pv 0)) pa_nil))))
   (zab (zaS (zap (op_isNN) (pv 1) zcL (zaC _))
   (zae (zak za3)) pss_nil)
   (zab (zbO (K:=K) rfl (pv 0) za3)
   (zab (zbO (K:=K) rfl (pv 0) (pv 1))
   (zab (zbO (K:=K) rfl (pv 0) (za7 (zas (sc:=zac s_28) (XN:=["self","rows"]) (N:=["row"]) (own:=1) (js:=[]) rfl rfl (by decide +kernel)) rfl (zaJ (K:=K) rfl (pv 1)) (fun _ _ _ _ _=>(zar (i:=0) (show List.Nodup [(Str.ofString "row")] by decide +kernel) rfl (Or.inl rfl))) (fun _ _ _ _ _=>zbx) (fun _ _ _ _ _=>pe_dnewK)))
   (zae (zak za3)))))))),?_⟩
  obtain ⟨_,x,F,st,rfl,E0,BB,hd,q0,q1⟩:=h;have B1:=BB.lp;have B2:=BB.lr;have E0':=E0;walk_at "hd";have L:LL K H e.b st.rs:=⟨e.ps,SqL.of hhb,I.lp,I.rp⟩
  symm;refine za5 E0' hd ?_;symm;refine zfi (SqL.of hha) L BB (fun F0 H1 s1=>?_) (fun rows F1 p H1 R1=>?_)
  ·symm;rw [decide_eq_true (rfl:V.non=V.non)];refine iteT ?_;symm;exact q0 F0 H1 s1
  ·have hrt:zaX st.hs st.rs rows=true:=F1.1;have hrl:=(zbr.mp hrt).1;obtain ⟨psr,hpr,hlr,_⟩:=R1.rows;symm;rw [decide_eq_false (show ¬V.ref p=V.non by intro z;cases z)];refine iteF ?_;have x1:=R1.same _ _ hob;have xp:p≠e.x:=(zaj hob R1.new).symm;symm;refine za8 x1 hcl nD (show 6 < 1000 by decide) fun H2 b2 x2=>?_;rw [exFs_pd] at x2;symm;refine za8 x2 hcl nC (show 6 < 1000 by decide) fun H3 b3 x3=>?_;rw [exFs_pc] at x3;have hp3:H3 p=some (.lst (psr.map V.ref)):=by rw [b3 _ xp,b2 _ xp];exact hpr
   symm;refine zaT (SqL.of hp3) ?_;refine zch (ziM (zco.one (zbq (SqL.of hp3))) (by rw [List.length_map];omega) rfl fun d ds H4 f4 s4 e4 l4 nd4 hd4=>?_);rw [List.length_map,hlr] at l4;rw [List.length_map,hlr] at hd4;have x4:=s4 _ _ x3;symm;refine za8 x4 hcl nE (show 6 < 1000 by decide) fun H5 b5 x5=>?_;rw [exFs_pe] at x5;have xd:d≠e.x:=(zaj x3 f4).symm;have kk:∀ b o,H1 b=some o→b≠e.x→H5 b=some o:=fun b o eb nb=>by
    rw [b5 _ nb];refine s4 _ _ ?_;rw [b3 _ nb,b2 _ nb];exact eb
   have n1:∀ b,H3 b=none→H1 b=none:=fun b eb=>by
    cases h1:H1 b with
    | none=>rfl
    | some o =>
      by_cases nb:b=e.x
      ·rw [nb,x3] at eb;cases eb
      ·rw [b3 _ nb,b2 _ nb,h1] at eb;cases eb
   have nx4:∀ i,i < rows.length→ds.getD i 0≠e.x:=fun i hi z=>by have:=(hd4 i hi).2.1;rw [z,x3] at this;cases this
   obtain ⟨e',hx',I',fp'⟩:=I.deal (H5:=H5) (p:=p) (q:=d) (rows:=rows) (ds:=ds) hrt R1 kk x5 (by rw [b5 _ xd];exact e4) (n1 _ f4) l4 nd4 (fun i hi=>⟨by rw [b5 _ (nx4 i hi)];exact (hd4 i hi).1,n1 _ (hd4 i hi).2.1,(hd4 i hi).2.2⟩);symm;refine q1 rows F1 H5 _ ⟨fun b o eb nb=>?_,fun b z=>?_⟩ (hx'▸I'.at)
   ·exact kk b o (R1.same _ _ eb) (fun z=>nb ((hF _).mpr (by rw [z];exact own_x)))
   ·exact (fp' b z).imp (fun z=>(hF b).mpr z) id
theorem zfj {K:PySem.W.Frag} {C x:Addr} {H:Hp} {F:Addr→Prop} {st:ExS} {Q:VK} {E:XK} (h:ExAt C H x F st) (B:InB st.hs st.rs) (hd:st.dl=none) (q0:zbW st.hs st.rs none→∀ H',Same H H'→Q (.bl false) H') (q1:∀ rows,zbW st.hs st.rs (some rows)→∀ H' F',ExFr H H' F F'→ExAt C H' x F' { st with dl:=some (rows,[]) }→Q (.bl true) H'):zev K C [.ref x] H Q E:=⟨rfl,x,F,st,rfl,h,B,hd,q0,q1⟩
def zcb (K:PySem.W.Frag) (C:Addr):Sp:=fun vs H Q _=>vs.length=1∧∃ (x:Addr) (F:Addr→Prop) (st:ExS),vs=[.ref x]∧ExAt C H x F st∧InB st.hs st.rs∧((st.dl=none→∀ H',Same H H'→Q .non H')∧∀ nm en,st.dl=some (nm,en)→∀ p H',RowsAt H p (nm.map (List.take 2)) H'→Q (.ref p) H')
theorem zfk (T:Txt K mg t):FnOk P w K mg base CX0 1 t.f_34 t.d_34 ["self"] (zcb K t.C_Exam):=by
 refine T.F_34.ok sc_34 (fun _ _ _ _ h=>h.1) fun cdv A outer s H vs Q E hr h=>by
  refine ⟨_,(zab (zaS (za6 (zav (K:=K) rfl (zaF (K:=K) rfl (pv 0)) (fun _=>rfl)))
   (zae (zak zcL)) pss_nil)
   (zae (zak (za7 (zas (sc:=zac s_34) (XN:=["self"]) (N:=["named"]) (own:=1) (js:=[]) rfl rfl (by decide +kernel)) rfl (zaJ (K:=K) rfl (zaF (K:=K) rfl (pv 0))) (fun _ _ _ _ _=>(zar (i:=0) (show List.Nodup [(Str.ofString "named")] by decide +kernel) rfl (Or.inl rfl))) (fun _ _ _ _ _=>zbx) (fun _ _ _ _ _=>(zdL (zdP (K:=K) rfl) (pv 0) po_none (zeU zad))))))),?_⟩
  obtain ⟨_,x,F,st,rfl,E0,BB,q⟩:=h;have B1:=BB.lp;have B2:=BB.lr;walk_at "hd";obtain ⟨q0,q1⟩:=q;have lq:=I.lq;have l10:=I.wf.n10 BB;symm
  cases hdl:st.dl with
  | none =>
    refine iteT ?_;symm;exact q0 hdl H (Same.refl H)
  | some d =>
    obtain ⟨nm,en⟩:=d;refine iteF ?_;rw [hdl] at hob;have fC:=@exFs_c (.ref e.a) (.ref e.b) (.int st.step) (.bl (some (nm,en)).isSome) (.ref e.c) (.ref e.d);have enm:st.nm=nm:=by unfold ExS.nm;rw [hdl];rfl
    rw [enm] at lq l10;have rq:=I.rq;rw [enm] at rq;symm;refine zaT (SqL.of hhc) ?_;have hl:=q1;refine zch (zb7 (zco.one (zbq (SqL.of hhc))) (by rw [List.length_map];omega) (fun i=>(nm.getD i []).take 2) (fun i H' Q' hi s q'=>?_) fun p H2 R=>?_)
    ·rw [List.length_map,lq] at hi;have ex:(e.qs.map V.ref).getD i .non=.ref (e.qs.getD i 0):=by
      rw [List.getD_eq_getElem?_getD,List.getElem?_map,List.getElem?_eq_getElem (by omega),List.getD_eq_getElem?_getD,List.getElem?_eq_getElem (by omega)];rfl
     rw [ex];have hrow:=s _ _ (rq i hi);show (_:TE) (some (.ref (e.qs.getD i 0))::_) _ _;symm;refine zct (SqL.of hrow) fun p2 H2 f2 s2 e2=>?_;rw [show cutV ((nm.getD i []).map V.int) none (some 2)=((nm.getD i []).map V.int).take 2 from zhi 2,← List.map_take] at e2;exact q' p2 H2 f2 s2 e2
    ·rw [List.length_map,lq] at R;have em:(List.range nm.length).map (fun i=>(nm.getD i []).take 2)=nm.map (List.take 2):=by
      refine List.ext_getElem (by simp) fun i h1 h2=>?_;simp at h1 ⊢;rw [List.getElem?_eq_getElem h1];rfl
     rw [em] at R;exact q1 nm en hdl p H2 R
theorem zfw {K:PySem.W.Frag} {C x:Addr} {H:Hp} {F:Addr→Prop} {st:ExS} {Q:VK} {E:XK} (h:ExAt C H x F st) (B:InB st.hs st.rs) (q:((st.dl=none→∀ H',Same H H'→Q .non H')∧∀ nm en,st.dl=some (nm,en)→∀ p H',RowsAt H p (nm.map (List.take 2)) H'→Q (.ref p) H')):zcb K C [.ref x] H Q E:=⟨rfl,x,F,st,rfl,h,B,q⟩
theorem zdu {K:PySem.W.Frag} {C x:Addr} {H:Hp} {F:Addr→Prop} {st:ExS} {Q:VK} {E:XK} {σ:L2.St} (h:ExAt C H x F st) (B:InB st.hs st.rs) (q:((st.dl=none→∀ H',Same H H'→Q .non H')∧∀ nm en,st.dl=some (nm,en)→∀ p H',RowsAt H p (nm.map (List.take 2)) H'→Q (.ref p) H')):zbm C "dealing" (zcb K C) E tNil σ (.ref x) H Q:=by
 obtain ⟨dx,fs,e,l⟩:=h.ob;exact zaN e (l _ (by decide +kernel)) (zeF (zfw h B q))
def zew (K:PySem.W.Frag):Sp:=fun vs H Q _=>vs.length=1∧∃ x:V,vs=[x]∧((∃ i:Int,x=.int i∧Q (.bl true) H))
theorem zdd (T:Txt K mg t):FnOk P w K mg base CX0 1 t.f_48 t.d_48 ["_law_found"] (zew K):=by
 refine T.F_48.ok sc_48 (fun _ _ _ _ h=>h.1) fun cdv A outer s H vs Q E hr h=>by
  refine ⟨_,(zae (zak (zjg (zag (zaP (K:=K) rfl) (by rfl) T.z_isinstance (by rfl) (zaa (pv 0) (zaa (zcy (v:=.ty "int") (u:=.type "int") (by rfl) T.z_int (by rfl) rfl) pa_nil))) (zjf (zlw (zag (zaP (K:=K) rfl) (by rfl) T.z_isinstance (by rfl) (zaa (pv 0) (zaa (zcy (v:=.ty "bool") (u:=.type "bool") (by rfl) T.z_bool (by rfl) rfl) pa_nil)))))))),?_⟩;obtain ⟨_,x,rfl,i,rfl,q⟩:=h;symm;refine iteT ?_;symm;exact q
theorem zfl {H:Hp} {i:Int} {Q:VK} {E:XK} (q:Q (.bl true) H):zew K [.int i] H Q E:=⟨rfl,_,rfl,i,rfl,q⟩
local macro_rules | `(tactic| walk_at "rd1")=>`(tactic| (with_reducible refine zfl ?_))
def zfP (K:PySem.W.Frag):Sp:=fun vs H Q _=>vs.length=2∧∃ (a b:Addr) (xs ys:List Int),vs=[.ref a,.ref b]∧H a=some (.lst (xs.map V.int))∧SqL K H b (ys.map V.int)∧ys.length≤1000000∧Q (.bl (decide (xs=ys))) H
theorem zfQ (T:Txt K mg t):FnOk P w K mg base CX0 2 t.f_50 t.d_50 ["_law_found","_law_due"] (zfP K):=by
 have G_48:=zdd (P:=P) (w:=w) (base:=base) T;refine T.F_50.ok sc_50 (fun _ _ _ _ h=>h.1) fun cdv A outer s H vs Q E hr h=>by
  refine ⟨_,(zab (zaS (zcs (za6 (zav (K:=K) rfl (zag (zaP (K:=K) rfl) (by rfl) T.z_isinstance (by rfl) (zaa (pv 0) (zaa (zcy (v:=.ty "list") (u:=.type "list") (by rfl) T.z_list (by rfl) rfl) pa_nil))) (fun _=>rfl))) (zbS (zap (zcN (K:=K) rfl hr.units0) (zag (zai (K:=K) rfl) (by rfl) T.z_len (by rfl) (zaa (pv 0) pa_nil)) (zag (zai (K:=K) rfl) (by rfl) T.z_len (by rfl) (zaa (pv 1) pa_nil)) (zaC _)))).pt
   (zae (zak za3)) pss_nil)
   (zab (zaZ PassesOwn.never rfl (zaW (by rfl) T.z_range (zaa (zag (zai (K:=K) rfl) (by rfl) T.z_len (by rfl) (zaa (pv 1) pa_nil)) pa_nil)) (zar (i:=2) sc_50.nd rfl (Or.inl rfl))
   (zae (zaS (zcs (za6 (zav (K:=K) rfl (zal G_48 (hr.mono (by decide)) (by rfl) T.m_48 T.F_48.kp T.b_48 .nil zau (zaa (zaw (zaf (K:=K) rfl) (pv 0) (pv 2) (fun _ _=>rfl)) pa_nil)) (fun _=>rfl))) (zbS (zap (zcN (K:=K) rfl hr.units0) (zaw (zaf (K:=K) rfl) (pv 0) (pv 2) (fun _ _=>rfl)) (zaw (zaf (K:=K) rfl) (pv 1) (pv 2) (fun _ _=>rfl)) (zaC _)))).pt
   (zae (zak za3)) pss_nil)))
   (zae (zak za3)))),?_⟩
  obtain ⟨_,a,b,xs,ys,rfl,ha,hb,hy,q⟩:=h;symm;refine iteF ?_;symm;refine zeq (fun h0=>?_) (fun h0=>?_)
  ·rw [decide_eq_false (by rintro rfl;exact h0 rfl)] at q;symm;exact q
  ·have hlen:xs.length=ys.length:=by omega
   symm;refine zbU (by omega) (by omega) ?_;refine zbV (fun i σ H1=>∃ v,σ=[some (.ref a),some (.ref b),v]∧H1=H∧∀ j,j < i→xs.getD j 0=ys.getD j 0) ⟨none,rfl,rfl,fun j hj=>absurd hj (by omega)⟩ ?_ ?_
   ·rintro i σ H1 hi ⟨v,rfl,rfl,hall⟩;symm;refine iteF ?_;symm;refine zeq (fun h1=>?_) (fun h1=>?_)
    ·rw [decide_eq_false (by rintro rfl;exact h1 rfl)] at q;symm;exact q
    ·symm;refine ⟨_,rfl,rfl,fun j hj=>?_⟩
     by_cases e:j=i
     ·subst e;have e2:(0+(j:Int)).toNat=j:=by omega
      rw [e2] at h1;exact h1
     ·exact hall j (by omega)
   ·rintro σ H1 ⟨v,rfl,rfl,hall⟩;rw [decide_eq_true (zkQ hlen fun j hj=>hall j (by omega))] at q;symm;exact q
theorem zgT {H:Hp} {a b:Addr} {xs ys:List Int} {Q:VK} {E:XK} (h:H a=some (.lst (xs.map V.int))) (h':SqL K H b (ys.map V.int)) (hl:ys.length≤1000000) (q:Q (.bl (decide (xs=ys))) H):zfP K [.ref a,.ref b] H Q E:=⟨rfl,a,b,xs,ys,rfl,h,h',hl,q⟩
def zfm (K:PySem.W.Frag):Sp:=fun vs H Q _=>vs.length=2∧∃ (a b:Addr) (xs ys:List (List Int)),vs=[.ref a,.ref b]∧(∃ zs,H a=some (.lst zs))∧LL K H a xs∧LL K H b ys∧ys.length≤1000000∧(∀ i,i < ys.length→(ys.getD i []).length≤1000000)∧Q (.bl (decide (xs=ys))) H
theorem zfn (T:Txt K mg t):FnOk P w K mg base CX0 3 t.f_51 t.d_51 ["_law_found","_law_due"] (zfm K):=by
 have G_50:=zfQ (P:=P) (w:=w) (base:=base) T;refine T.F_51.ok sc_51 (fun _ _ _ _ h=>h.1) fun cdv A outer s H vs Q E hr h=>by
  refine ⟨_,(zab (zaS (zcs (za6 (zav (K:=K) rfl (zag (zaP (K:=K) rfl) (by rfl) T.z_isinstance (by rfl) (zaa (pv 0) (zaa (zcy (v:=.ty "list") (u:=.type "list") (by rfl) T.z_list (by rfl) rfl) pa_nil))) (fun _=>rfl))) (zbS (zap (zcN (K:=K) rfl hr.units0) (zag (zai (K:=K) rfl) (by rfl) T.z_len (by rfl) (zaa (pv 0) pa_nil)) (zag (zai (K:=K) rfl) (by rfl) T.z_len (by rfl) (zaa (pv 1) pa_nil)) (zaC _)))).pt
   (zae (zak za3)) pss_nil)
   (zab (zaZ PassesOwn.never rfl (zaW (by rfl) T.z_range (zaa (zag (zai (K:=K) rfl) (by rfl) T.z_len (by rfl) (zaa (pv 1) pa_nil)) pa_nil)) (zar (i:=2) sc_51.nd rfl (Or.inl rfl))
   (zae (zaS (za6 (zav (K:=K) rfl (zal G_50 (hr.mono (by decide)) (by rfl) T.m_50 T.F_50.kp T.b_50 .nil zau (zaa (zaw (zaf (K:=K) rfl) (pv 0) (pv 2) (fun _ _=>rfl)) (zaa (zaw (zaf (K:=K) rfl) (pv 1) (pv 2) (fun _ _=>rfl)) pa_nil))) (fun _=>rfl)))
   (zae (zak za3)) pss_nil)))
   (zae (zak za3)))),?_⟩
  obtain ⟨_,a,b,xs,ys,rfl,⟨zs,hz⟩,⟨ps,ha,hla,hpa⟩,⟨qs,hb,hlb,hpb⟩,hy,hyi,q⟩:=h;symm;refine iteF ?_;symm;refine zeq (fun h0=>?_) (fun h0=>?_)
  ·rw [decide_eq_false (by rintro rfl;exact h0 (by omega))] at q;symm;exact q
  ·have hlen:xs.length=ys.length:=by omega
   symm;refine zbU (by omega) (by omega) ?_;refine zbV (fun i σ H1=>∃ v,σ=[some (.ref a),some (.ref b),v]∧H1=H∧∀ j,j < i→xs.getD j []=ys.getD j []) ⟨none,rfl,rfl,fun j hj=>absurd hj (by omega)⟩ ?_ ?_
   ·rintro i σ H1 hi ⟨v,rfl,rfl,hall⟩;symm;have e2:(0+(i:Int)).toNat=i:=by omega
    rw [e2];refine zgT (hpa i (by omega)) (SqL.of (hpb i (by omega))) (hyi i (by omega)) ?_;symm;refine zeq (fun h1=>?_) (fun h1=>?_)
    ·rw [decide_eq_false (by rintro rfl;exact h1 rfl)] at q;symm;exact q
    ·symm;refine ⟨_,rfl,rfl,fun j hj=>?_⟩
     by_cases e:j=i
     ·subst e;exact h1
     ·exact hall j (by omega)
   ·rintro σ H1 ⟨v,rfl,rfl,hall⟩;rw [decide_eq_true (zgv hlen fun j hj=>hall j (by omega))] at q;symm;exact q
theorem zej {H:Hp} {a b:Addr} {xs ys:List (List Int)} {Q:VK} {E:XK} (hz:∃ zs,H a=some (.lst zs)) (h:LL K H a xs) (h':LL K H b ys) (hl:ys.length≤1000000) (hi:∀ i,i < ys.length→(ys.getD i []).length≤1000000) (q:Q (.bl (decide (xs=ys))) H):zfm K [.ref a,.ref b] H Q E:=⟨rfl,a,b,xs,ys,rfl,hz,h,h',hl,hi,q⟩
def zfo (K:PySem.W.Frag):Sp:=fun vs H Q _=>vs.length=3∧∃ (b r:Addr) (h:Int) (rs:List (List Int)) (row:List Int),vs=[.ref b,.int h,.ref r]∧LL K H b rs∧(∀ i,i < rs.length→(rs.getD i []).length=2)∧H r=some (.lst (row.map V.int))∧Q (.bl (zcu rs h row)) H
theorem zhD (T:Txt K mg t):FnOk P w K mg base CX0 2 t.f_53 t.d_53 ["_law_staff","_law_house","_law_row_here"] (zfo K):=by
 have G_48:=zdd (P:=P) (w:=w) (base:=base) T;refine T.F_53.ok sc_53 (fun _ _ _ _ h=>h.1) fun cdv A outer s H vs Q E hr h=>by
  refine ⟨_,(zab (zaS (zcs (za6 (zav (K:=K) rfl (zag (zaP (K:=K) rfl) (by rfl) T.z_isinstance (by rfl) (zaa (pv 2) (zaa (zcy (v:=.ty "list") (u:=.type "list") (by rfl) T.z_list (by rfl) rfl) pa_nil))) (fun _=>rfl))) (zbS (zap (zcN (K:=K) rfl hr.units0) (zag (zai (K:=K) rfl) (by rfl) T.z_len (by rfl) (zaa (pv 2) pa_nil)) zad (zaC _)))).pt
   (zae (zak za3)) pss_nil)
   (zab (zaZ PassesOwn.never rfl (zaJ (K:=K) rfl (pv 2)) (zar (i:=3) sc_53.nd rfl (Or.inl rfl))
   (zab (zaS (zcs (za6 (zav (K:=K) rfl (zal G_48 (hr.mono (by decide)) (by rfl) T.m_48 T.F_48.kp T.b_48 .nil zau (zaa (pv 3) pa_nil)) (fun _=>rfl))) (zcs (zap (op_lt) (pv 3) zad (zaC _)) (zbS (zap (op_gt) (pv 3) (zag (zai (K:=K) rfl) (by rfl) T.z_len (by rfl) (zaa (pv 0) pa_nil)) (zaC _))))).pt
   (zae (zak za3)) pss_nil)
   (zae (zaS (zap (zbK (K:=K) rfl hr.units0) (zaw (zaf (K:=K) rfl) (zaw (zaf (K:=K) rfl) (pv 0) (zaq (op_sub) (pv 3) zad) (fun _ _=>rfl)) zad (fun _ _=>rfl)) (pv 1) (zaC _))
   (zae (zak za3)) pss_nil))))
   (zae (zak (zdx (op_lt) (zaw (zaf (K:=K) rfl) (pv 2) zad (fun _ _=>rfl)) (zaw (zaf (K:=K) rfl) (pv 2) zad (fun _ _=>rfl)) (zaC _)))))),?_⟩
  obtain ⟨_,b,r,h,rs,row,rfl,hL,h2,hr0,q⟩:=h;obtain ⟨ps,hb,hl,hrow⟩:=id hL;unfold zcu at q;symm;refine iteF ?_;symm;refine zeq (fun h0=>?_) (fun h0=>?_)
  ·rw [decide_eq_false (fun z=>h0 (by omega)),Bool.false_and,Bool.false_and] at q;symm;exact q
  rw [decide_eq_true (show row.length=2 by omega),Bool.true_and] at q;symm;refine zaT (SqL.of hr0) ?_;refine zbN (xs:=row.map V.int) (fun i σ H'=>∃ v,σ=[some (.ref b),some (.int h),some (.ref r),v]∧H'=H∧∀ j,j < i→(decide (1≤row.getD j 0) && decide (row.getD j 0≤(rs.length:Int)) && !decide ((rs.getD (row.getD j 0-1).toNat []).getD 0 0=h))=true) ⟨none,rfl,rfl,fun j hj=>absurd hj (by omega)⟩ ?_ ?_ ?_
  ·rintro i σ H' _ ⟨_,rfl,rfl,_⟩;exact SqL.of hr0
  ·rintro i x σ H' hxi ⟨_,rfl,rfl,hall⟩;obtain ⟨hi,rfl⟩:=zcz hxi;have no:(decide (1≤row.getD i 0) && decide (row.getD i 0≤(rs.length:Int)) && !decide ((rs.getD (row.getD i 0-1).toNat []).getD 0 0=h))=false→Q (.bl false) H':=fun z=>by
    rw [zjO (c:=fun x=>decide (1≤x) && decide (x≤(rs.length:Int)) && !decide ((rs.getD (x-1).toNat []).getD 0 0=h)) hi z,Bool.false_and] at q;exact q
   symm;refine iteF ?_;symm;refine zbi (fun h1=>?_) (fun h1=>?_)
   ·refine iteT ?_;symm;exact no (by rw [decide_eq_false (by omega)];rfl)
   symm;refine zbi (fun h3=>?_) (fun h3=>?_)
   ·symm;exact no (by rw [decide_eq_false (show ¬row.getD i 0≤(rs.length:Int) by omega),Bool.and_false];rfl)
   have hk:(row.getD i 0-1).toNat < rs.length:=by omega
   have hrk:=hrow _ hk;have h2k:=h2 _ hk;symm;refine zbi (fun h4=>?_) (fun h4=>?_)
   ·symm;refine no ?_;rw [show (rs.getD (row.getD i 0-1).toNat []).getD 0 0=h from h4,decide_eq_true (rfl:h=h)];simp
   ·symm;refine ⟨_,rfl,rfl,fun j hj=>?_⟩
    by_cases e:j=i
    ·subst e;rw [decide_eq_true (show 1≤row.getD j 0 by omega),decide_eq_true (show row.getD j 0≤(rs.length:Int) by omega),decide_eq_false (show ¬(rs.getD (row.getD j 0-1).toNat []).getD 0 0=h from h4)];rfl
    ·exact hall j (by omega)
  ·rintro σ H' ⟨_,rfl,rfl,hall⟩;rw [List.length_map] at hall;rw [zkX (c:=fun x=>decide (1≤x) && decide (x≤(rs.length:Int)) && !decide ((rs.getD (x-1).toNat []).getD 0 0=h)) hall,Bool.true_and] at q;symm;exact q
theorem zi2 {H:Hp} {b r:Addr} {h:Int} {rs:List (List Int)} {row:List Int} {Q:VK} {E:XK} (h1:LL K H b rs) (h2:∀ i,i < rs.length→(rs.getD i []).length=2) (h3:H r=some (.lst (row.map V.int))) (q:Q (.bl (zcu rs h row)) H):zfo K [.ref b,.int h,.ref r] H Q E:=⟨rfl,b,r,h,rs,row,rfl,h1,h2,h3,q⟩
def zex (K:PySem.W.Frag):Sp:=fun vs H Q _=>vs.length=3∧∃ (a b c:Addr) (hs:List Int) (rs rows:List (List Int)),vs=[.ref a,.ref b,.ref c]∧SqL K H a (hs.map V.int)∧LL K H b rs∧(∀ i,i < rs.length→(rs.getD i []).length=2)∧(∃ zs,H c=some (.lst zs))∧LL K H c rows∧rs.length≤1000∧rows.length≤1000∧hs.length≤1000∧∀ H',Same H H'→Q (.bl (zaX hs rs rows)) H'
theorem zgU (T:Txt K mg t):FnOk P w K mg base CX0 3 t.f_54 t.d_54 ["_law_homes","_law_staff","_law_rows_here"] (zex K):=by
 have G_53:=zhD (P:=P) (w:=w) (base:=base) T;refine T.F_54.ok sc_54 (fun _ _ _ _ h=>h.1) fun cdv A outer s H vs Q E hr h=>by
  refine ⟨_,(zab (zaS (zcs (za6 (zav (K:=K) rfl (zag (zaP (K:=K) rfl) (by rfl) T.z_isinstance (by rfl) (zaa (pv 2) (zaa (zcy (v:=.ty "list") (u:=.type "list") (by rfl) T.z_list (by rfl) rfl) pa_nil))) (fun _=>rfl))) (zbS (zap (zcN (K:=K) rfl hr.units0) (zag (zai (K:=K) rfl) (by rfl) T.z_len (by rfl) (zaa (pv 2) pa_nil)) (zag (zai (K:=K) rfl) (by rfl) T.z_len (by rfl) (zaa (pv 0) pa_nil)) (zaC _)))).pt
   (zae (zak za3)) pss_nil)
   (zab (zaZ PassesOwn.never rfl (zaW (by rfl) T.z_range (zaa (zag (zai (K:=K) rfl) (by rfl) T.z_len (by rfl) (zaa (pv 0) pa_nil)) pa_nil)) (zar (i:=3) sc_54.nd rfl (Or.inr rfl))
   (zae (zaS (za6 (zav (K:=K) rfl (zal G_53 (hr.mono (by decide)) (by rfl) T.m_53 T.F_53.kp T.b_53 .nil zau (zaa (pv 1) (zaa (zaw (zaf (K:=K) rfl) (pv 0) (pv 3) (fun _ _=>rfl)) (zaa (zaw (zaf (K:=K) rfl) (pv 2) (pv 3) (fun _ _=>rfl)) pa_nil)))) (fun _=>rfl)))
   (zae (zak za3)) pss_nil)))
   (zab (zaZ PassesOwn.never rfl (zaW (by rfl) T.z_range (zaa (zag (zai (K:=K) rfl) (by rfl) T.z_len (by rfl) (zaa (pv 1) pa_nil)) pa_nil)) (zar (i:=3) sc_54.nd rfl (Or.inr rfl))
   (zae (zaS (zap (op_gt) (zag (zai (K:=K) rfl) (by rfl) T.z_len (by rfl) (zaa (za7 (zas (sc:=zac s_54) (XN:=["_law_homes","_law_staff","_law_rows_here","_law_k"]) (N:=["_law_row_here","_law_k"]) (own:=1) (js:=[3]) rfl rfl (by decide +kernel)) rfl (zaJ (K:=K) rfl (pv 2)) (fun _ _ _ _ _=>(zar (i:=0) (show List.Nodup [(Str.ofString "_law_row_here"),(Str.ofString "_law_k")] by decide +kernel) rfl (Or.inl rfl))) (fun _ _ _ _ _=>(zb5 (zap (zes (K:=K) rfl (zcY hr)) (zaq (op_addG) (pv 1) zad) (pv 0) (by with_unfolding_all rfl)))) (fun _ _ _ _ _=>(pv 0))) pa_nil)) (zaw (zaf (K:=K) rfl) (zaw (zaf (K:=K) rfl) (pv 1) (pv 3) (fun _ _=>rfl)) zad (fun _ _=>rfl)) (zaC _))
   (zae (zak za3)) pss_nil)))
   (zae (zak za3))))),?_⟩
  obtain ⟨_,a,b,c,hs,rs,rows,rfl,ha,hL,h2,⟨zs,hz⟩,hM,l1,l2,l3,q⟩:=h;obtain ⟨ps,hb,hl,hrow⟩:=id hL;obtain ⟨qs,hc,hm,hrows⟩:=id hM;have hzs:SqL K H c (qs.map V.ref):=hc;unfold zaX at q;symm;refine iteF ?_;symm;refine zeq (fun h0=>?_) (fun h0=>?_)
  ·rw [decide_eq_false (fun z=>h0 (by omega)),Bool.false_and,Bool.false_and] at q;symm;exact q _ (Same.refl _)
  rw [decide_eq_true (show rows.length=hs.length by omega),Bool.true_and] at q;symm;refine zbU (by omega) (by omega) ?_;refine zbV (fun i σ H'=>∃ v,σ=[some (.ref a),some (.ref b),some (.ref c),v]∧H'=H∧∀ k,k < i→zcu rs (hs.getD k 0) (rows.getD k [])=true) ⟨none,rfl,rfl,fun k hk=>absurd hk (by omega)⟩ ?_ ?_
  ·rintro i σ H' hi ⟨_,rfl,rfl,hall⟩;have ei:(0+(i:Int)).toNat=i:=by omega
   symm;rw [ei];refine zi2 hL h2 (hrows i (by omega)) ?_;symm;refine zna (fun h1=>?_) (fun h1=>?_)
   ·rw [zc1 (c:=fun k=>zcu rs (hs.getD k 0) (rows.getD k [])) (show i < hs.length by omega) h1,Bool.false_and] at q;symm;exact q _ (Same.refl _)
   ·symm;refine ⟨_,rfl,rfl,fun k hk=>?_⟩
    by_cases e:k=i
    ·subst e;exact h1
    ·exact hall k (by omega)
  rintro σ H' ⟨v,rfl,rfl,hall⟩;rw [zbe (c:=fun k=>zcu rs (hs.getD k 0) (rows.getD k [])) (fun k hk=>hall k (by omega)),Bool.true_and] at q;symm;refine zbU (by omega) (by omega) ?_;refine zbV (fun i σ H1=>∃ v,σ=[some (.ref a),some (.ref b),some (.ref c),v]∧Same H' H1∧∀ k,k < i→(cntB rows (0+(k:Int)+1):Int)≤(rs.getD k []).getD 1 0) ⟨v,rfl,Same.refl _,fun k hk=>absurd hk (by omega)⟩ ?_ ?_
  ·rintro i σ H1 hi ⟨_,rfl,s1,hle⟩;have ei:(0+(i:Int)).toNat=i:=by omega
   have hri:=s1 _ _ (hrow i (by omega));have h2i:=h2 i (by omega);have hc1:=s1.seq hc;have hb1:=s1.seq hb;symm;refine zaT hc1 ?_;refine zeM (rows:=rows) (x:=0+(i:Int)+1) hc1 hm l2 (fun j H2 Q' hj s2 q'=>?_) fun p H2 zs2 f2 s2 e2 z2=>?_
   ·have hrj:=s2 _ _ (s1 _ _ (hrows j hj));symm;exact q'
   have hri2:=s2 _ _ hri;have hb2:=s2.seq hb1;symm;rw [ei];symm;rw [z2];refine zbi (fun h1=>?_) (fun h1=>?_)
   ·rw [zc1 (c:=fun k=>decide ((cntB rows (0+(k:Int)+1):Int)≤(rs.getD k []).getD 1 0)) (show i < rs.length by omega) (decide_eq_false (show ¬(cntB rows (0+(i:Int)+1):Int)≤(rs.getD i []).getD 1 0 by have e1:Int.toNat 1=1:=rfl;rw [e1] at h1;omega))] at q;symm;exact q _ (s1.trans s2)
   ·symm;refine ⟨_,rfl,s1.trans s2,fun k hk=>?_⟩
    by_cases e:k=i
    ·subst e;have e1:Int.toNat 1=1:=rfl;rw [e1] at h1;omega
    ·exact hle k (by omega)
  ·rintro σ H1 ⟨_,rfl,s1,hle⟩;rw [zbe (c:=fun k=>decide ((cntB rows (0+(k:Int)+1):Int)≤(rs.getD k []).getD 1 0)) (fun k hk=>decide_eq_true (hle k (by omega)))] at q;symm;exact q _ s1
theorem zhE {H:Hp} {a b c:Addr} {hs:List Int} {rs rows:List (List Int)} {Q:VK} {E:XK} (h1:SqL K H a (hs.map V.int)) (h2:LL K H b rs) (h3:∀ i,i < rs.length→(rs.getD i []).length=2) (h4:∃ zs,H c=some (.lst zs)) (h5:LL K H c rows) (l1:rs.length≤1000) (l2:rows.length≤1000) (l3:hs.length≤1000)
  (q:∀ H',Same H H'→Q (.bl (zaX hs rs rows)) H'):zex K [.ref a,.ref b,.ref c] H Q E:=⟨rfl,a,b,c,hs,rs,rows,rfl,h1,h2,h3,h4,h5,l1,l2,l3,q⟩
def zd1 (K:PySem.W.Frag):Sp:=fun vs H Q _=>vs.length=3∧∃ (c st:Int) (a:Addr) (gs:List (Option Int)),vs=[.int c,.int st,.ref a]∧SqL K H a (gs.map encO)∧gs.length≤1000∧∀ H',Same H H'→Q (.int (ptsB c st gs)) H'
theorem zgb (T:Txt K mg t):FnOk P w K mg base CX0 1 t.f_62 t.d_62 ["_law_cell","_law_step_here","_law_given_here"] (zd1 K):=by
 refine T.F_62.ok sc_62 (fun _ _ _ _ h=>h.1) fun cdv A outer s H vs Q E hr h=>by
  refine ⟨_,(zab (zax (i:=3) sc_62.nd rfl (Or.inl rfl) (zaq (op_mod) (pv 0) zad))
   (zab (zb3 (i:=4) sc_62.nd rfl (Or.inl rfl) (by rfl) (zas (sc:=zac s_62) (XN:=["_law_cell","_law_step_here","_law_given_here","_law_points_here","_law_known","_law_edge"]) (N:=["_law_one"]) (own:=1) (js:=[]) rfl rfl (by decide +kernel)) rfl (zaJ (K:=K) rfl (pv 2)) (fun _ _ _ _ _=>(zar (i:=0) (show List.Nodup [(Str.ofString "_law_one")] by decide +kernel) rfl (Or.inl rfl))) (fun _ _ _ _ _=>(zb5 (zap (op_notNN) (pv 0) zcL (zaC _)))) (fun _ _ _ _ _=>(pv 0)))
   (zab (zaS (zeo (zap (zbK (K:=K) rfl hr.units0) (zaq (op_mod) (zaq (op_fdivB) (pv 0) zad) zad) zad (zaC _)) (zcX (zap (zbK (K:=K) rfl hr.units0) (zag (zai (K:=K) rfl) (by rfl) T.z_len (by rfl) (zaa (pv 4) pa_nil)) zad (zaC _)))).pt
   (zab (zax (i:=5) sc_62.nd rfl (Or.inl rfl) (zaq (op_addG) (zaw (zaf (K:=K) rfl) (pv 4) zad (fun _ _=>rfl)) (zaw (zaf (K:=K) rfl) (zaM (zaa (pv 1) (zaa (zaq (op_sub) zad (pv 1)) (zaa (zaq (op_addG) (pv 1) zad) (zaa (zaq (op_sub) (zaq (op_sub) zad (pv 1)) zad) pa_nil))))) (zaq (op_mod) (zaq (op_fdivB) (pv 0) zad) zad) (fun _ _=>rfl))))
   (zae (zaS (zeo (zap (op_le) zad (pv 5) (zaC _)) (zcX (zap (op_le) (pv 5) zad (zaC _)))).pt
   (zae (zax (i:=3) sc_62.nd rfl (Or.inl rfl) (pv 5))) pss_nil))) pss_nil)
   (zae (zak (pv 3)))))),?_⟩
  obtain ⟨_,c,st,a,gs,rfl,ha,hz,q⟩:=h;symm;refine zaT ha ?_;refine zdQ ha (by rw [List.length_map];exact hz) (fun x=>!decide (x=V.non)) (fun i H' Q' hi s q'=>?_) fun p1 H1 f1 s1 e1=>?_
  ·symm;exact q'
  rw [ziC] at e1;unfold ptsB at q;generalize hk:gs.filterMap id=ks at e1 q;symm;refine zbi (fun h0=>?_) (fun h0=>?_)
  ·symm;refine zbi (fun h1=>?_) (fun h1=>?_)
   ·symm;refine zat (by simp) fun p2 H2 f2 s2 e2=>?_;symm;refine zeX (SqL.of e2) (zdi (ns:=[st,0-st,st+1,0-st-1]) (by omega) (by simp only [List.length_cons,List.length_nil];omega)) ?_;symm;have ek:ks.getD (Int.toNat 0) 0+([st,0-st,st+1,0-st-1]:List Int).getD (c / 303 % 4).toNat 0=zkV c st (ks.getD 0 0):=rfl;rw [ek];refine zbi (fun h2=>?_) (fun h2=>?_)
    ·symm;refine zbi (fun h3=>?_) (fun h3=>?_)
     ·rw [if_pos ⟨h0,by omega,h2,h3⟩] at q;symm;exact q _ (s1.trans s2)
     ·rw [if_neg (fun z=>h3 z.2.2.2)] at q;symm;exact q _ (s1.trans s2)
    ·rw [if_neg (fun z=>h2 z.2.2.1)] at q;refine iteF ?_;symm;exact q _ (s1.trans s2)
   ·rw [if_neg (fun z=>h1 (by omega))] at q;symm;exact q _ s1
  ·rw [if_neg (fun z=>h0 z.1)] at q;refine iteF ?_;symm;exact q _ s1
theorem zgV {H:Hp} {c st:Int} {a:Addr} {gs:List (Option Int)} {Q:VK} {E:XK} (h:SqL K H a (gs.map encO)) (hz:gs.length≤1000) (q:∀ H',Same H H'→Q (.int (ptsB c st gs)) H'):zd1 K [.int c,.int st,.ref a] H Q E:=⟨rfl,c,st,a,gs,rfl,h,hz,q⟩
def zey (K:PySem.W.Frag):Sp:=fun vs H Q _=>vs.length=3∧∃ (a:Addr) (ns:List Int) (s n:Int),vs=[.ref a,.int s,.int n]∧SqL K H a (ns.map V.int)∧ns.length≤63∧0≤n∧n≤10∧∀ p H' (tab:List (List Int)),RowsAt H p tab H'→(tab.length:Int)=n→(∀ i,i < tab.length→(tab.getD i []).length=3∧∀ x∈tab.getD i [],0≤x∧x≤100)→Q (.ref p) H'
theorem zgW (T:Txt K mg t):FnOk P w K mg base CX0 2 t.f_65 t.d_65 ["_law_script","_law_step_here","_law_many"] (zey K):=by
 have G_47:=zdc (P:=P) (w:=w) (base:=base) T;have G_62:=zgb (P:=P) (w:=w) (base:=base) T;refine T.F_65.ok sc_65 (fun _ _ _ _ h=>h.1) fun cdv A outer s H vs Q E hr h=>by
  refine ⟨_,(zab (zax (i:=3) sc_65.nd rfl (Or.inl rfl) (zaM pa_nil))
   (zab (zaZ PassesOwn.never rfl (zaW (by rfl) T.z_range (zaa (pv 2) pa_nil)) (zar (i:=4) sc_65.nd rfl (Or.inl rfl))
   (zab (zax (i:=5) sc_65.nd rfl (Or.inl rfl) (zal G_47 (hr.mono (by decide)) (by rfl) T.m_47 T.F_47.kp T.b_47 .nil zau (zaa (pv 0) (zaa (zaq (op_addG) zad (pv 4)) pa_nil))))
   (zab (zax (i:=6) sc_65.nd rfl (Or.inl rfl) (zaq (op_mod) (pv 5) zad))
   (zab (zax (i:=7) sc_65.nd rfl (Or.inl rfl) (zal G_62 (hr.mono (by decide)) (by rfl) T.m_62 T.F_62.kp T.b_62 .nil zau (zaa (zaq (op_fdivB) (pv 5) zad) (zaa (pv 1) (zaa (zaM (zaa (pv 6) pa_nil)) pa_nil)))))
   (zae (zaG (zbp (K:=K) rfl PySem.F.plainAttrs_list PySem.F.slot_list_append PySem.F.type_list_append mt_append (pv 3) (zaa (zaM (zaa (pv 6) (zaa (pv 7) (zaa (zaq (op_mod) (zaq (op_fdivB) (pv 5) zad) zad) pa_nil)))) pa_nil))))))))
   (zae (zak (pv 3))))),?_⟩
  obtain ⟨_,a,ns,s,n,rfl,hS,hl,n0,n1,q⟩:=h;symm;refine zat (by decide) fun p1 H1 f1 s1 e1=>?_;symm;refine zbU (by omega) (by omega) ?_;refine zbV (fun i σ H'=>∃ (tab:List (List Int)) (v4 v5 v6 v7:Option V),σ=[some (.ref a),some (.int s),some (.int n),some (.ref p1),v4,v5,v6,v7]∧RowsAt H p1 tab H'∧tab.length=i∧∀ i,i < tab.length→(tab.getD i []).length=3∧∀ x∈tab.getD i [],0≤x∧x≤100) ⟨[],none,none,none,none,rfl,RowsAt.start f1 s1 e1,rfl,fun i hi=>absurd hi (by simp)⟩ ?_ ?_
  ·rintro i σ H' hi ⟨tab,v4,v5,v6,v7,rfl,R,htl,hb⟩;have hS':=R.same.seq hS;obtain ⟨zs,hz,hzl⟩:=R.lst;symm;generalize zbJ ns (21+(0+(i:Int)))=c;refine zat (by simp) fun p2 H2 f2 s2 e2=>?_;have e2:H2 p2=some (.lst (([some (c % 101)]:List (Option Int)).map encO)):=e2;symm;refine zgV (SqL.of e2) (by simp) fun H3 s3=>?_;have hpt:=zkW (c / 101) s [some (c % 101)];generalize ptsB (c / 101) s [some (c % 101)]=pt at *;have R3:=R.mono (s2.trans s3);have hz3:=(s2.trans s3) _ _ hz;symm;refine zat (by simp) fun p4 H4 f4 s4 e4=>?_;have hz4:=s4 _ _ hz3;symm;refine zaI hz4 (by omega) fun H5 b5 e5=>?_;symm;refine ⟨tab++[[c % 101,pt,c / 122412 % 101]],_,_,_,_,rfl,R3.push (r:=[c % 101,pt,c / 122412 % 101]) f4 s4 e4 hz4 b5 e5,by rw [List.length_append,List.length_singleton,htl],fun j hj=>?_⟩;rw [List.length_append,List.length_singleton] at hj
   by_cases e:j < tab.length
   ·rw [zaD e];exact hb j e
   ·have e:j=tab.length:=by omega
    subst e;rw [zaA];refine ⟨rfl,fun x hx=>?_⟩;simp only [List.mem_cons,List.not_mem_nil,or_false] at hx;rcases hx with rfl | rfl | rfl
    ·omega
    ·exact hpt
    ·omega
  ·rintro σ H' ⟨tab,v4,v5,v6,v7,rfl,R,htl,hb⟩;symm;exact q p1 H' tab R (by omega) hb
theorem zhF {H:Hp} {a:Addr} {ns:List Int} {s n:Int} {Q:VK} {E:XK} (hS:SqL K H a (ns.map V.int)) (hl:ns.length≤63) (n0:0≤n) (n1:n≤10) (q:∀ p H' (tab:List (List Int)),RowsAt H p tab H'→(tab.length:Int)=n→(∀ i,i < tab.length→(tab.getD i []).length=3∧∀ x∈tab.getD i [],0≤x∧x≤100)→Q (.ref p) H'):zey K [.ref a,.int s,.int n] H Q E:=⟨rfl,a,ns,s,n,rfl,hS,hl,n0,n1,q⟩
def zez (K:PySem.W.Frag):Sp:=fun vs H Q _=>vs.length=3∧∃ (a b:Addr) (k:Int) (nm en:List (List Int)),vs=[.ref a,.ref b,.int k]∧LL K H a nm∧LL K H b en∧1≤k∧k≤nm.length∧(∀ i,i < en.length→(en.getD i []).length=3)∧(nm.getD (k-1).toNat []).length≤1000∧∀ p H',H p=none→Same H H'→H' p=some (.lst ((zbY nm en (k-1).toNat).map encO))→Q (.ref p) H'
theorem zde (T:Txt K mg t):FnOk P w K mg base CX0 1 t.f_56 t.d_56 ["_law_names","_law_entries","_law_paper"] (zez K):=by
 refine T.F_56.ok sc_56 (fun _ _ _ _ h=>h.1) fun cdv A outer s H vs Q E hr h=>by
  refine ⟨_,(zab (zax (i:=3) sc_56.nd rfl (Or.inl rfl) (zaM pa_nil))
   (zab (zaZ PassesOwn.never rfl (zaJ (K:=K) rfl (zaw (zaf (K:=K) rfl) (pv 0) (zaq (op_sub) (pv 2) zad) (fun _ _=>rfl))) (zar (i:=4) sc_56.nd rfl (Or.inl rfl))
   (zab (zax (i:=5) sc_56.nd rfl (Or.inl rfl) zcL)
   (zab (zaZ PassesOwn.never rfl (zaJ (K:=K) rfl (pv 1)) (zar (i:=6) sc_56.nd rfl (Or.inl rfl))
   (zae (zaS (zeo (zap (zbK (K:=K) rfl hr.units0) (zaw (zaf (K:=K) rfl) (pv 6) zad (fun _ _=>rfl)) (pv 2) (zaC _)) (zcX (zap (zbK (K:=K) rfl hr.units0) (zaw (zaf (K:=K) rfl) (pv 6) zad (fun _ _=>rfl)) (pv 4) (zaC _)))).pt
   (zae (zax (i:=5) sc_56.nd rfl (Or.inl rfl) (zaw (zaf (K:=K) rfl) (pv 6) zad (fun _ _=>rfl)))) pss_nil)))
   (zae (zaG (zbp (K:=K) rfl PySem.F.plainAttrs_list PySem.F.slot_list_append PySem.F.type_list_append mt_append (pv 3) (zaa (pv 5) pa_nil)))))))
   (zae (zak (pv 3))))),?_⟩
  obtain ⟨_,a,b,k,nm,en,rfl,LA,LB,k1,k2,e3,rl,q⟩:=h;obtain ⟨ps,ha,hla,hra⟩:=id LA;obtain ⟨es,hb,hlb,hrb⟩:=id LB;have hk:(k-1).toNat < nm.length:=by omega
  have hrow:=hra _ hk;symm;refine zat (by decide) fun p1 H1 f1 s1 e1=>?_;have ha1:=s1.seq ha;have hrow1:=s1 _ _ hrow;symm;refine zaT (SqL.of hrow1) ?_;refine zbN (xs:=(nm.getD (k-1).toNat []).map V.int) (fun i σ H'=>(∃ v4 v5 v6,σ=[some (.ref a),some (.ref b),some (.int k),some (.ref p1),v4,v5,v6])∧Same H H'∧H' p1=some (.lst (((zbY nm en (k-1).toNat).take i).map encO))) ⟨⟨none,none,none,rfl⟩,s1,e1⟩ ?_ ?_ ?_
  ·rintro i σ H' _ ⟨_,s,_⟩;exact SqL.of (s _ _ hrow)
  ·rintro i y σ H' hy ⟨⟨v4,v5,v6,rfl⟩,s,ep⟩;obtain ⟨hi,rfl⟩:=zcz hy;have hbs:=s.seq hb;walk_at "st";refine zjI ?_;walk_at "st";refine ze0 (fun σ H2=>(∃ v6,σ=[some (.ref a),some (.ref b),some (.int k),some (.ref p1),some (.int ((nm.getD (k-1).toNat []).getD i 0)),some (encO (zaE en (k-1).toNat ((nm.getD (k-1).toNat []).getD i 0))),v6])∧H2=H') ?_ ?_
   ·intro nx' hnx;symm;refine zaT hbs ?_;refine zbN (xs:=es.map V.ref) (fun j σ H2=>(∃ v6,σ=[some (.ref a),some (.ref b),some (.int k),some (.ref p1),some (.int ((nm.getD (k-1).toNat []).getD i 0)),some (encO (zaE (en.take j) (k-1).toNat ((nm.getD (k-1).toNat []).getD i 0))),v6])∧H2=H') ⟨⟨v6,rfl⟩,rfl⟩ ?_ ?_ ?_
    ·rintro j σ H2 _ ⟨_,rfl⟩;exact hbs
    ·rintro j y σ H2 hy ⟨⟨v6',rfl⟩,rfl⟩;obtain ⟨hj,rfl⟩:=zfZ hy;have hj':j < en.length:=by omega
     have hent:=s _ _ (hrb j hj');have hl3:=e3 j hj';have et:en.take (j+1)=en.take j++[en.getD j []]:=by rw [List.take_add_one,List.getElem?_eq_getElem hj',List.getD_eq_getElem?_getD,List.getElem?_eq_getElem hj'];rfl
     have ek:(((k-1).toNat:Int))+1=k:=by omega
     have es':=zbn (en.take j) (en.getD j []) (k-1).toNat ((nm.getD (k-1).toNat []).getD i 0);rw [← et,ek] at es';symm;refine zbi (fun g1=>?_) (fun g1=>?_)
     ·symm;refine zbi (fun g2=>?_) (fun g2=>?_)
      ·symm;exact ⟨⟨some (.ref (es.getD j 0)),by rw [es',if_pos ⟨g1,g2⟩];rfl⟩,rfl⟩
      ·symm;exact ⟨⟨some (.ref (es.getD j 0)),by rw [es',if_neg (fun z=>g2 z.2)];rfl⟩,rfl⟩
     ·refine iteF ?_;symm;exact ⟨⟨some (.ref (es.getD j 0)),by rw [es',if_neg (fun z=>g1 z.1)];rfl⟩,rfl⟩
    ·rintro σ H2 ⟨⟨v6',rfl⟩,rfl⟩;rw [List.length_map,hlb,List.take_length];exact hnx _ _ ⟨⟨_,rfl⟩,rfl⟩
   ·rintro σ H2 ⟨⟨v6',rfl⟩,rfl⟩;have hg:=zdb nm en (k-1).toNat;symm;refine zaI ep (by rw [List.length_map,List.length_take];omega) fun H3 b3 e3'=>?_;symm;refine ⟨⟨_,_,_,rfl⟩,s.but b3 f1,?_⟩;rw [e3',List.take_add_one,List.getElem?_eq_getElem (by omega),List.map_append];have hga:=zic (nm:=nm) (en:=en) (k:=(k-1).toNat) (j:=i) hi;rw [List.getD_eq_getElem?_getD,List.getElem?_eq_getElem (by omega)] at hga;have hga':(zbY nm en (k-1).toNat)[i]'(by omega)=zaE en (k-1).toNat ((nm.getD (k-1).toNat []).getD i 0):=hga;rw [hga'];rfl
  ·rintro σ H' ⟨⟨v4,v5,v6,rfl⟩,s,ep⟩;rw [List.length_map,← zdb nm en,List.take_length] at ep;symm;exact q p1 H' f1 s ep
theorem zdE {H:Hp} {a b:Addr} {k:Int} {nm en:List (List Int)} {Q:VK} {E:XK} (h1:LL K H a nm) (h2:LL K H b en) (k1:1≤k) (k2:k≤nm.length) (h3:∀ i,i < en.length→(en.getD i []).length=3) (h4:(nm.getD (k-1).toNat []).length≤1000) (q:∀ p H',H p=none→Same H H'→H' p=some (.lst ((zbY nm en (k-1).toNat).map encO))→Q (.ref p) H'):zez K [.ref a,.ref b,.int k] H Q E:=⟨rfl,a,b,k,nm,en,rfl,h1,h2,k1,k2,h3,h4,q⟩
def zdv (K:PySem.W.Frag):Sp:=fun vs H Q _=>vs.length=2∧∃ (a b:Addr) (nm en:List (List Int)) (n:Nat),vs=[.ref a,.ref b]∧LL K H a nm∧LL K H b en∧nm.length≤10∧(∀ i,i < en.length→(en.getD i []).length=3)∧(∀ k,k < nm.length→zcT n en k (nm.getD k []))∧∀ p H',RowsAt H p (dueB nm en) H'→Q (.ref p) H'
theorem zfx (T:Txt K mg t):FnOk P w K mg base CX0 2 t.f_57 t.d_57 ["_law_names","_law_entries"] (zdv K):=by
 have G_56:=zde (P:=P) (w:=w) (base:=base) T;refine T.F_57.ok sc_57 (fun _ _ _ _ h=>h.1) fun cdv A outer s H vs Q E hr h=>by
  refine ⟨_,(zab (zax (i:=2) sc_57.nd rfl (Or.inl rfl) (zaM pa_nil))
   (zab (zaZ PassesOwn.never rfl (zaW (by rfl) T.z_range (zaa (zag (zai (K:=K) rfl) (by rfl) T.z_len (by rfl) (zaa (pv 0) pa_nil)) pa_nil)) (zar (i:=3) sc_57.nd rfl (Or.inr rfl))
   (zab (zax (i:=4) sc_57.nd rfl (Or.inr rfl) (zal G_56 (hr.mono (by decide)) (by rfl) T.m_56 T.F_56.kp T.b_56 .nil zau (zaa (pv 0) (zaa (pv 1) (zaa (zaq (op_addG) (pv 3) zad) pa_nil)))))
   (zab (zb3 (i:=5) sc_57.nd rfl (Or.inl rfl) (by rfl) (zas (sc:=zac s_57) (XN:=["_law_names","_law_entries","_law_rows_here","_law_k","_law_given_here","_law_wanted","_law_reader"]) (N:=["_law_j","_law_names","_law_k","_law_given_here"]) (own:=1) (js:=[0,3,4]) rfl rfl (by decide +kernel)) rfl (zaW (by rfl) T.z_range (zaa (zag (zai (K:=K) rfl) (by rfl) T.z_len (by rfl) (zaa (pv 4) pa_nil)) pa_nil)) (fun _ _ _ _ _=>(zar (i:=0) (show List.Nodup [(Str.ofString "_law_j"),(Str.ofString "_law_names"),(Str.ofString "_law_k"),(Str.ofString "_law_given_here")] by decide +kernel) rfl (Or.inl rfl))) (fun _ _ _ _ _=>(zb5 (zap (op_isNN) (zaw (zaf (K:=K) rfl) (pv 3) (pv 0) (fun _ _=>rfl)) zcL (zaC _)))) (fun _ _ _ _ _=>(zaw (zaf (K:=K) rfl) (zaw (zaf (K:=K) rfl) (pv 1) (pv 2) (fun _ _=>rfl)) (pv 0) (fun _ _=>rfl))))
   (zae (zaZ PassesOwn.never rfl (zaJ (K:=K) rfl (zag (zer (K:=K) rfl) (by rfl) T.z_sorted (by rfl) (zaa (pv 5) pa_nil))) (zar (i:=6) sc_57.nd rfl (Or.inl rfl))
   (zae (zaG (zbp (K:=K) rfl PySem.F.plainAttrs_list PySem.F.slot_list_append PySem.F.type_list_append mt_append (pv 2) (zaa (zaM (zaa (zaq (op_addG) (pv 3) zad) (zaa (pv 6) pa_nil))) pa_nil)))))))))
   (zae (zak (pv 2))))),?_⟩
  obtain ⟨_,a,b,nm,en,n,rfl,LA,LB,l10,e3,hro,q⟩:=h;obtain ⟨ps,ha,hla,hra⟩:=id LA;symm;refine zat (by decide) fun p1 H1 f1 s1 e1=>?_;have ha1:=s1.seq ha;symm;refine zbU (by omega) (by omega) ?_;have en':((ps.length:Int)).toNat=nm.length:=by omega
  rw [en'];refine zbV (fun i σ H'=>(∃ v3 v4 v5 v6,σ=[some (.ref a),some (.ref b),some (.ref p1),v3,v4,v5,v6])∧RowsAt H p1 ((List.range i).flatMap fun k=>(zaO nm en k).map fun r=>[(k:Int)+1,r]) H'∧((List.range i).flatMap fun k=>(zaO nm en k).map fun r=>[(k:Int)+1,r]).length≤3 * i) ⟨⟨none,none,none,none,rfl⟩,RowsAt.start f1 s1 e1,by simp⟩ ?_ ?_
  ·rintro i σ H' hi ⟨⟨v3,v4,v5,v6,rfl⟩,R,hlen⟩;have s:=R.same;have hro':=hro i hi;have hlr:=hro'.len;have hw:=zhr nm en i;have e0:(0:Int)+(i:Int)=(i:Int):=by omega
   have ek:((i:Int)+1-1).toNat=i:=by omega
   rw [e0];symm;refine zdE (LA.same s) (LB.same s) (by omega) (by omega) e3 (by rw [ek];omega) fun p2 H2 f2 s2 e2=>?_;rw [ek] at e2;have hg:=zdb nm en i;have s02:=s.trans s2;have ha2:=s02.seq ha;symm;refine zbU (by rw [List.length_map];omega) (by rw [List.length_map];omega) ?_;have en2:((((zbY nm en i).map encO).length:Nat):Int).toNat=(zbY nm en i).length:=by rw [List.length_map];omega
   rw [en2];refine zeZ (zbM _ _ _) (by omega) (fun j=>((zbY nm en i).getD j none).isNone) (fun j=>(nm.getD i []).getD j 0) (fun j H3 Q' hj s3 q'=>?_) (fun j H3 Q' hj s3 hc q'=>?_) fun p3 H3 f3 s3 e3'=>?_
   ·have e2':=s3 _ _ e2;symm;refine zeX (SqL.of e2') (zmu (by omega) (by omega)) ?_;symm;have ej:(0+(j:Int)).toNat=j:=by omega
    rw [ej,zmv];exact q'
   ·have ha3:=s3.seq ha2;have hrow3:=s3 _ _ (s02 _ _ (hra i hi));symm;have ej:(0+(j:Int)).toNat=j:=by omega
    rw [ej];exact q'
   ·rw [zkb] at e3';have s03:=s02.trans s3;symm;refine ze3 (SqL.of e3') (by omega) fun ns' hp hs p4 H4 f4 s4 e4=>?_;have eq:=zkc hp hs hro'.sorted;subst eq;have R4:RowsAt H p1 ((List.range i).flatMap fun k=>(zaO nm en k).map fun r=>[(k:Int)+1,r]) H4:=R.mono ((s2.trans s3).trans s4);refine zaT (SqL.of e4) ?_;refine zbN (xs:=(zaO nm en i).map V.int) (fun j σ H'=>(∃ v4 v5 v6,σ=[some (.ref a),some (.ref b),some (.ref p1),some (.int (i:Int)),v4,v5,v6])∧RowsAt H p1 (((List.range i).flatMap fun k=>(zaO nm en k).map fun r=>[(k:Int)+1,r])++((zaO nm en i).take j).map fun r=>[(i:Int)+1,r]) H'∧H' p4=some (.lst ((zaO nm en i).map V.int))) ⟨⟨_,_,_,rfl⟩,by simpa using R4,e4⟩ ?_ ?_ ?_
    ·rintro j σ H5 _ ⟨_,_,e5⟩;exact SqL.of e5
    ·rintro j y σ H5 hy ⟨⟨w4,w5,w6,rfl⟩,R5,e5⟩;obtain ⟨hj,rfl⟩:=zcz hy;obtain ⟨zs5,z5,zl5⟩:=R5.lst;have np4:p4≠p1:=fun z=>by
      obtain ⟨zs4,z4,_⟩:=R4.lst;have:=R.lst;obtain ⟨zs0,z0,_⟩:=this;rw [z] at f4;rw [(s2.trans s3) _ _ z0] at f4
      cases f4
     symm;refine zat (by simp) fun p6 H6 f6 s6 e6=>?_;symm;refine zaI (s6 _ _ z5) (by rw [zl5,List.length_append,List.length_map,List.length_take];omega) fun H7 b7 e7=>?_;symm;refine ⟨⟨_,_,_,rfl⟩,?_,by rw [b7 _ np4];exact s6 _ _ e5⟩;have R7:=R5.push (r:=[(i:Int)+1,(zaO nm en i).getD j 0]) f6 s6 e6 (s6 _ _ z5) b7 e7;have et:(zaO nm en i).take (j+1)=(zaO nm en i).take j++[(zaO nm en i).getD j 0]:=by rw [List.take_add_one,List.getElem?_eq_getElem hj,List.getD_eq_getElem?_getD,List.getElem?_eq_getElem hj];rfl
     rw [et,List.map_append,← List.append_assoc];exact R7
    ·rintro σ H5 ⟨⟨w4,w5,w6,rfl⟩,R5,e5⟩;rw [List.length_map,List.take_length] at R5;refine ⟨⟨_,_,_,_,rfl⟩,?_,?_⟩
     ·rw [zda _ _ _ hi];exact R5
     ·rw [zda _ _ _ hi,List.length_append,List.length_map];omega
  ·rintro σ H' ⟨⟨v3,v4,v5,v6,rfl⟩,R,_⟩;symm;exact q p1 H' R
theorem zgc {H:Hp} {a b:Addr} {nm en:List (List Int)} {n:Nat} {Q:VK} {E:XK} (h1:LL K H a nm) (h2:LL K H b en) (l10:nm.length≤10) (h3:∀ i,i < en.length→(en.getD i []).length=3) (h4:∀ k,k < nm.length→zcT n en k (nm.getD k [])) (q:∀ p H',RowsAt H p (dueB nm en) H'→Q (.ref p) H'):zdv K [.ref a,.ref b] H Q E:=⟨rfl,a,b,nm,en,n,rfl,h1,h2,l10,h3,h4,q⟩
def zeA (K:PySem.W.Frag):Sp:=fun vs H Q _=>vs.length=2∧∃ (a b:Addr) (rs nm:List (List Int)),vs=[.ref a,.ref b]∧LL K H a rs∧LL K H b nm∧rs.length≤8∧nm.length≤20∧(∀ i,i < rs.length→(rs.getD i []).length=2)∧∀ p H',H p=none→Same H H'→H' p=some (.lst ((za4 rs nm).map V.int))→Q (.ref p) H'
theorem zgX (T:Txt K mg t):FnOk P w K mg base CX0 1 t.f_59 t.d_59 ["_law_staff","_law_names"] (zeA K):=by
 refine T.F_59.ok sc_59 (fun _ _ _ _ h=>h.1) fun cdv A outer s H vs Q E hr h=>by
  refine ⟨_,(zab (zax (i:=2) sc_59.nd rfl (Or.inl rfl) (zaM pa_nil))
   (zab (zaZ PassesOwn.never rfl (zaW (by rfl) T.z_range (zaa (zag (zai (K:=K) rfl) (by rfl) T.z_len (by rfl) (zaa (pv 0) pa_nil)) pa_nil)) (zar (i:=3) sc_59.nd rfl (Or.inr rfl))
   (zae (zaG (zbp (K:=K) rfl PySem.F.plainAttrs_list PySem.F.slot_list_append PySem.F.type_list_append mt_append (pv 2) (zaa (zaq (op_sub) (zaw (zaf (K:=K) rfl) (zaw (zaf (K:=K) rfl) (pv 0) (pv 3) (fun _ _=>rfl)) zad (fun _ _=>rfl)) (zag (zai (K:=K) rfl) (by rfl) T.z_len (by rfl) (zaa (za7 (zas (sc:=zac s_59) (XN:=["_law_staff","_law_names","_law_left","_law_k"]) (N:=["_law_row_here","_law_k"]) (own:=1) (js:=[3]) rfl rfl (by decide +kernel)) rfl (zaJ (K:=K) rfl (pv 1)) (fun _ _ _ _ _=>(zar (i:=0) (show List.Nodup [(Str.ofString "_law_row_here"),(Str.ofString "_law_k")] by decide +kernel) rfl (Or.inl rfl))) (fun _ _ _ _ _=>(zb5 (zap (zes (K:=K) rfl (zcY hr)) (zaq (op_addG) (pv 1) zad) (pv 0) (by with_unfolding_all rfl)))) (fun _ _ _ _ _=>(pv 0))) pa_nil))) pa_nil)))))
   (zae (zak (pv 2))))),?_⟩
  obtain ⟨_,a,b,rs,nm,rfl,L1,L2,l1,l2,r2,q⟩:=h;obtain ⟨ps,ha,hpl,hpr⟩:=id L1;symm;refine zat (by decide) fun p1 H1 f1 s1 e1=>?_;have ha1:=s1.seq ha;symm;refine zbU (by omega) (by omega) ?_;have en:((ps.length:Int)).toNat=rs.length:=by omega
  rw [en];have hll:(za4 rs nm).length=rs.length:=by unfold za4;rw [List.length_map,List.length_range]
  refine zbV (fun i σ H'=>(∃ v,σ=[some (.ref a),some (.ref b),some (.ref p1),v])∧Same H H'∧H' p1=some (.lst (((za4 rs nm).take i).map V.int))) ⟨⟨none,rfl⟩,s1,e1⟩ ?_ ?_
  ·rintro i σ H' hi ⟨⟨v,rfl⟩,s,ep⟩;have ei:((0+(i:Int))).toNat=i:=by omega
   have hrow:=s _ _ (hpr i hi);have h2:=r2 i hi;obtain ⟨pn,hn,ln,rn⟩:=id (L2.same s);have has:=s.seq ha;symm;rw [ei];symm;refine zaT hn ?_;refine zeM hn ln (by omega) (x:=(i:Int)+1) (fun j H2 Q' hj s2 q'=>?_) fun p2 H2 zs f2 s2 e2 ez=>?_
   ·have hrow2:=s2 _ _ (rn j hj);have e0:(0:Int)+(i:Int)+1=(i:Int)+1:=by omega
    symm;rw [e0];exact q'
   have ep2:=s2 _ _ ep;symm;refine zaI ep2 (by rw [List.length_map,List.length_take];omega) fun H3 b3 e3=>?_;symm;refine ⟨⟨_,rfl⟩,(s.trans s2).but b3 f1,?_⟩;rw [e3,List.take_add_one,List.getElem?_eq_getElem (by omega),List.map_append,ez];have eg:(za4 rs nm)[i]'(by omega)=(rs.getD i []).getD 1 0-(cntB nm ((i:Int)+1):Int):=by
    have:=zf3 (rs:=rs) (rows:=nm) hi;rw [List.getD_eq_getElem?_getD,List.getElem?_eq_getElem (by omega)] at this;exact this
   rw [eg];rfl
  ·rintro σ H' ⟨⟨v,rfl⟩,s,ep⟩;rw [← hll,List.take_length] at ep;symm;exact q _ _ f1 s ep
theorem zhG {H:Hp} {a b:Addr} {rs nm:List (List Int)} {Q:VK} {E:XK} (h1:LL K H a rs) (h2:LL K H b nm) (l1:rs.length≤8) (l2:nm.length≤20) (r2:∀ i,i < rs.length→(rs.getD i []).length=2) (q:∀ p H',H p=none→Same H H'→H' p=some (.lst ((za4 rs nm).map V.int))→Q (.ref p) H'):zeA K [.ref a,.ref b] H Q E:=⟨rfl,a,b,rs,nm,rfl,h1,h2,l1,l2,r2,q⟩
def zeB (K:PySem.W.Frag):Sp:=fun vs H Q _=>vs.length=4∧∃ (a b c:Addr) (k:Int) (hs:List Int) (rs nm:List (List Int)),vs=[.ref a,.ref b,.ref c,.int k]∧SqL K H a (hs.map V.int)∧LL K H b rs∧LL K H c nm∧InB hs rs∧nm.length≤10∧1≤k∧k≤hs.length∧k≤nm.length∧∀ H',Same H H'→Q (.int (zbk hs rs (za4 rs nm) k (nm.getD (k-1).toNat []))) H'
theorem zgY (T:Txt K mg t):FnOk P w K mg base CX0 2 t.f_60 t.d_60 ["_law_homes","_law_staff","_law_names","_law_paper"] (zeB K):=by
 have G_59:=zgX (P:=P) (w:=w) (base:=base) T;refine T.F_60.ok sc_60 (fun _ _ _ _ h=>h.1) fun cdv A outer s H vs Q E hr h=>by
  refine ⟨_,(zab (zax (i:=4) sc_60.nd rfl (Or.inl rfl) (zal G_59 (hr.mono (by decide)) (by rfl) T.m_59 T.F_59.kp T.b_59 .nil zau (zaa (pv 1) (zaa (pv 2) pa_nil))))
   (zab (zaZ PassesOwn.never rfl (zaW (by rfl) T.z_range (zaa (zag (zai (K:=K) rfl) (by rfl) T.z_len (by rfl) (zaa (pv 1) pa_nil)) pa_nil)) (zar (i:=5) sc_60.nd rfl (Or.inl rfl))
   (zab (zax (i:=6) sc_60.nd rfl (Or.inl rfl) (zjg (zdx (zcN (K:=K) rfl hr.units0) (zaw (zaf (K:=K) rfl) (zaw (zaf (K:=K) rfl) (pv 1) (pv 5) (fun _ _=>rfl)) zad (fun _ _=>rfl)) (zaw (zaf (K:=K) rfl) (pv 0) (zaq (op_sub) (pv 3) zad) (fun _ _=>rfl)) (zaC _)) (zjf (zdx (zdU (K:=K) rfl (zcY hr)) (zaq (op_addG) (pv 5) zad) (zaw (zaf (K:=K) rfl) (pv 2) (zaq (op_sub) (pv 3) zad) (fun _ _=>rfl)) (by with_unfolding_all rfl)))))
   (zae (zaS (zeo (zav (K:=K) rfl (pv 6) (fun _=>rfl)) (zcX (zap (op_gt) (zaw (zaf (K:=K) rfl) (pv 4) (pv 5) (fun _ _=>rfl)) zad (zaC _)))).pt
   (zae (zak (zaq (op_addG) (pv 5) zad))) pss_nil))))
   (zae (zak zad)))),?_⟩
  obtain ⟨_,a,b,c,k,hs,rs,nm,rfl,ha,LB,LC,BB,l10,k1,k2,k3,q⟩:=h;have B1:=BB.lp;have B2:=BB.lr;obtain ⟨ps,hb,hlb,hrb⟩:=id LB;obtain ⟨qs,hc,hlc,hrc⟩:=id LC;have hk:(k-1).toNat < nm.length:=by omega
  symm;refine zhG LB LC (by omega) (by omega) BB.r2 fun p1 H1 f1 s1 e1=>?_;have ha1:=s1.seq ha;have hb1:=s1.seq hb;have hc1:=s1.seq hc;have hrow1:=s1 _ _ (hrc _ hk);have hll:(za4 rs nm).length=rs.length:=by unfold za4;rw [List.length_map,List.length_range]
  symm;refine zbU (by omega) (by omega) ?_;have en':((ps.length:Int)).toNat=rs.length:=by omega
  rw [en'];refine zbV (fun i σ H'=>(∃ v5 v6,σ=[some (.ref a),some (.ref b),some (.ref c),some (.int k),some (.ref p1),v5,v6])∧H'=H1∧∀ j,j < i→fitT hs rs (za4 rs nm) k (nm.getD (k-1).toNat []) j=false) ⟨⟨none,none,rfl⟩,rfl,fun j hj=>absurd hj (by omega)⟩ ?_ ?_
  ·rintro i σ H' hi ⟨⟨v5,v6,rfl⟩,rfl,hall⟩;have hsrow:=s1 _ _ (hrb i hi);have hs2:=BB.r2 i hi;have e0:(0:Int)+(i:Int)=(i:Int):=by omega
   have ei:((i:Nat):Int).toNat=i:=by omega
   rw [e0];generalize hrw:nm.getD (k-1).toNat []=row at *;have hft:fitT hs rs (za4 rs nm) k row i=(!decide ((rs.getD i []).getD 0 0=hs.getD (k-1).toNat 0) && decide (1≤(za4 rs nm).getD i 0) && !decide ((i:Int)+1∈row)):=rfl;have ends:fitT hs rs (za4 rs nm) k row i=false→∀ j,j < i+1→fitT hs rs (za4 rs nm) k row j=false:=fun z j hj=>by
    by_cases e:j=i
    ·rw [e];exact z
    ·exact hall j (by omega)
   symm
   by_cases g1:(rs.getD i []).getD 0 0=hs.getD (k-1).toNat 0
   ·have g1':(rs.getD i []).getD (Int.toNat 0) 0=hs.getD (k-1).toNat 0:=g1;rw [decide_eq_true g1'];refine iteF ?_;symm;refine iteF ?_;refine iteF ?_;symm;exact ⟨⟨_,_,rfl⟩,rfl,ends (by rw [hft,decide_eq_true g1];rfl)⟩
   have g1':¬(rs.getD i []).getD (Int.toNat 0) 0=hs.getD (k-1).toNat 0:=g1;rw [decide_eq_false g1'];refine iteT ?_;symm
   by_cases g2:(i:Int)+1∈row
   ·rw [decide_eq_true g2];refine iteF ?_;refine iteF ?_;symm;exact ⟨⟨_,_,rfl⟩,rfl,ends (by rw [hft,decide_eq_true g2,Bool.not_true,Bool.and_false])⟩
   rw [decide_eq_false g2];refine iteT ?_;symm
   try rw [ei]
   refine zbi (fun g3=>?_) (fun g3=>?_)
   ·symm;have hok:fitT hs rs (za4 rs nm) k row i=true:=by rw [hft,decide_eq_false g1,decide_eq_false g2,decide_eq_true (show 1≤(za4 rs nm).getD i 0 by omega)];rfl
    have:zbk hs rs (za4 rs nm) k row=(i:Int)+1:=zgI hi hok hall;rw [← this];exact q _ s1
   ·symm;exact ⟨⟨_,_,rfl⟩,rfl,ends (by rw [hft,decide_eq_false (show ¬1≤(za4 rs nm).getD i 0 by omega),Bool.and_false];rfl)⟩
  ·rintro σ H' ⟨⟨v5,v6,rfl⟩,rfl,hall⟩;symm;have:zbk hs rs (za4 rs nm) k (nm.getD (k-1).toNat [])=0:=zid hall;rw [← this];exact q _ s1
theorem zhH {H:Hp} {a b c:Addr} {k:Int} {hs:List Int} {rs nm:List (List Int)} {Q:VK} {E:XK} (h1:SqL K H a (hs.map V.int)) (h2:LL K H b rs) (h3:LL K H c nm) (B:InB hs rs) (l10:nm.length≤10) (k1:1≤k) (k2:k≤hs.length) (k3:k≤nm.length) (q:∀ H',Same H H'→Q (.int (zbk hs rs (za4 rs nm) k (nm.getD (k-1).toNat []))) H'):zeB K [.ref a,.ref b,.ref c,.int k] H Q E:=⟨rfl,a,b,c,k,hs,rs,nm,rfl,h1,h2,h3,B,l10,k1,k2,k3,q⟩
def zdF (K:PySem.W.Frag):Sp:=fun vs H Q _=>vs.length=6∧∃ (l:LdA) (o:Addr) (st:ExS) (k r p:Int),vs=[.ref l.a,.ref l.b,.int st.step,.ref l.c,.ref l.d,.ref o]∧Led H l st.hs st.rs st.nm st.en∧o∉l.all∧H o=some (.lst ([k,r,p].map V.int))∧1≤k∧k≤st.nm.length∧0≤p∧p≤100∧InB st.hs st.rs∧Wf st∧st.dl.isSome=true∧(∀ i,i < st.en.length→(st.en.getD i []).length=3)∧st.en.length≤900∧∀ H',(∀ b u,H b=some u→b≠l.d→b∉l.qs→H' b=some u)→Led H' { l with es:=l.es++[o] } st.hs st.rs (zaK (entS st (k-1).toNat r p) (k-1).toNat).nm (st.en++[[k,r,p]])→Q (.int (zaL (entS st (k-1).toNat r p) (k-1).toNat)) H'
theorem zhI (T:Txt K mg t):FnOk P w K mg base CX0 3 t.f_61 t.d_61 ["_law_homes","_law_staff","_law_step_here","_law_names","_law_entries","_law_one"] (zdF K):=by
 have G_56:=zde (P:=P) (w:=w) (base:=base) T;have G_60:=zgY (P:=P) (w:=w) (base:=base) T;refine T.F_61.ok sc_61 (fun _ _ _ _ h=>h.1) fun cdv A outer s H vs Q E hr h=>by
  refine ⟨_,(zab (zaG (zbp (K:=K) rfl PySem.F.plainAttrs_list PySem.F.slot_list_append PySem.F.type_list_append mt_append (pv 4) (zaa (pv 5) pa_nil)))
   (zab (zax (i:=6) sc_61.nd rfl (Or.inl rfl) (zal G_56 (hr.mono (by decide)) (by rfl) T.m_56 T.F_56.kp T.b_56 .nil zau (zaa (pv 3) (zaa (pv 4) (zaa (zaw (zaf (K:=K) rfl) (pv 5) zad (fun _ _=>rfl)) pa_nil)))))
   (zab (zaS (zcs (zap (zbK (K:=K) rfl hr.units0) (zag (zai (K:=K) rfl) (by rfl) T.z_len (by rfl) (zaa (pv 6) pa_nil)) zad (zaC _)) (zcs (zap (zes (K:=K) rfl (zcY hr)) zcL (pv 6) (by with_unfolding_all rfl)) (zbS (zap (op_le) (zaq (op_sub) (zag (ze8 (K:=K) rfl rfl) (by rfl) T.z_max (by rfl) (zaa (pv 6) pa_nil)) (zag (zc6 (K:=K) rfl rfl) (by rfl) T.z_min (by rfl) (zaa (pv 6) pa_nil))) (pv 2) (zaC _))))).pt
   (zae (zak zad)) pss_nil)
   (zab (zax (i:=7) sc_61.nd rfl (Or.inl rfl) (zal G_60 (hr.mono (by decide)) (by rfl) T.m_60 T.F_60.kp T.b_60 .nil zau (zaa (pv 0) (zaa (pv 1) (zaa (pv 3) (zaa (zaw (zaf (K:=K) rfl) (pv 5) zad (fun _ _=>rfl)) pa_nil))))))
   (zab (zaS (zap (op_gt) (pv 7) zad (zaC _))
   (zae (zaG (zbp (K:=K) rfl PySem.F.plainAttrs_list PySem.F.slot_list_append PySem.F.type_list_append mt_append (zaw (zaf (K:=K) rfl) (pv 3) (zaq (op_sub) (zaw (zaf (K:=K) rfl) (pv 5) zad (fun _ _=>rfl)) zad) (fun _ _=>rfl)) (zaa (pv 7) pa_nil)))) pss_nil)
   (zae (zak (pv 7)))))))),?_⟩
  obtain ⟨_,l,o,st,k,r,p,rfl,L,ho,eo,k1,k2,p0,p1,BB,W,hd,e3,h9,q⟩:=h;have B1:=BB.lp;have B2:=BB.lr;have hln:=W.ln hd;have hk:(k-1).toNat < st.nm.length:=by omega
  have ek:((k-1).toNat:Int)+1=k:=by omega
  have hlr:=(W.row _ hk).len;have hle:=L.le;have hhd:=L.hd;have eo':H o=some (.lst [.int k,.int r,.int p]):=eo;symm;refine zaI L.hd (by rw [List.length_map];omega) fun H1 b1 e1=>?_;have L1:=L.entry ho eo b1 e1;have no:o≠l.d:=fun z=>ho (by rw [z];unfold LdA.all;simp);have eo1:H1 o=some (.lst [.int k,.int r,.int p]):=by rw [b1 _ no];exact eo
  have e3':∀ i,i < (st.en++[[k,r,p]]).length→((st.en++[[k,r,p]]).getD i []).length=3:=fun i hi=>by
   rw [List.length_append,List.length_singleton] at hi
   by_cases z:i < st.en.length
   ·rw [zaD z];exact e3 i z
   ·have:i=st.en.length:=by omega
    subst this;rw [zaA];rfl
  have een:(entS st (k-1).toNat r p).en=st.en++[[k,r,p]]:=by rw [zf7,ek]
  have hst1:(entS st (k-1).toNat r p).nm=st.nm:=rfl;have fr1:∀ b u,H b=some u→b≠l.d→H1 b=some u:=fun b u eb nb=>by rw [b1 _ nb];exact eb
  have stop:zaL (entS st (k-1).toNat r p) (k-1).toNat=0→∀ H',Same H1 H'→Q (.int 0) H':=fun z H' s=>by
   have hm:zaK (entS st (k-1).toNat r p) (k-1).toNat=entS st (k-1).toNat r p:=by unfold zaK;rw [z];rfl
   rw [z,hm] at q;exact q H' (fun b u eb nb _=>s _ _ (fr1 b u eb nb)) (L1.same s)
  have hneed0:zbZ (entS st (k-1).toNat r p) (k-1).toNat=false→zaL (entS st (k-1).toNat r p) (k-1).toNat=0:=fun z=>by unfold zaL;rw [z];rfl
  symm;refine zdE L1.lc L1.ld k1 k2 e3' (by omega) fun p2 H2 f2 s2 e2=>?_;have hg:=zdb st.nm (st.en++[[k,r,p]]) (k-1).toNat;symm;rw [List.length_map];refine zbi (fun g1=>?_) (fun g1=>?_)
  ·refine iteT ?_;symm;refine stop (hneed0 ?_) H2 s2;unfold zbZ;rw [hst1,decide_eq_false (by omega)];rfl
  have hl2:(st.nm.getD (k-1).toNat []).length=2:=by omega
  symm;refine zlH (SqL.of e2) ?_;symm;refine zbi (fun g2=>?_) (fun g2=>?_)
  ·refine iteT ?_;symm;refine stop (hneed0 ?_) H2 s2;unfold zbZ;rw [hst1,een,decide_eq_false (zec.mp g2),Bool.and_false];rfl
  have hw:zaO st.nm (st.en++[[k,r,p]]) (k-1).toNat=[]:=Decidable.byContradiction fun z=>g2 (zec.mpr z);rw [zgH hw] at e2;have hpl:=zf5 st.nm (st.en++[[k,r,p]]) (k-1).toNat;obtain ⟨x,y,hxy⟩:∃ x y,ptsOf st.nm (st.en++[[k,r,p]]) (k-1).toNat=[x,y]:=by
   match hh:ptsOf st.nm (st.en++[[k,r,p]]) (k-1).toNat,(show (ptsOf st.nm (st.en++[[k,r,p]]) (k-1).toNat).length=2 by omega) with
   | [x,y],_=>exact ⟨x,y,rfl⟩
  rw [hxy] at e2;have hnd:zbZ (entS st (k-1).toNat r p) (k-1).toNat = !zbF x y st.step:=by
   unfold zbZ;rw [hst1,een,decide_eq_true hl2,decide_eq_true hw,hxy];rfl
  symm;refine ze9 (SqL.of e2) (by simp) fun M hM hge=>?_;symm;refine zc7 (SqL.of e2) (by simp) fun m hm hle'=>?_;have c1:=hge x (by simp);have c2:=hge y (by simp);have c3:=hle' x (by simp);have c4:=hle' y (by simp);have c5:M=x∨M=y:=by simpa using hM
  have c6:m=x∨m=y:=by simpa using hm
  symm;refine zbi (fun g3=>?_) (fun g3=>?_)
  ·symm;refine stop (hneed0 ?_) H2 s2;rw [hnd,show zbF x y st.step=true from decide_eq_true (by omega)];rfl
  have hneed:zbZ (entS st (k-1).toNat r p) (k-1).toNat=true:=by rw [hnd,show zbF x y st.step=false from decide_eq_false (by omega)];rfl
  have ht:zaL (entS st (k-1).toNat r p) (k-1).toNat=zbk st.hs st.rs (za4 st.rs st.nm) k (st.nm.getD (k-1).toNat []):=by
   unfold zaL;rw [hneed,ek];rfl
  have L2:=L1.same s2;have eo2:=s2 _ _ eo1;symm;refine zhH (SqL.of L2.ha) L2.lb L2.lc BB (by omega) k1 (by omega) k2 fun H3 s3=>?_;rw [← ht];have s13:=s2.trans s3;have L3:=L1.same s13;have lq:=L.lq;symm;refine zbi (fun g4=>?_) (fun g4=>?_)
  ·have hc3:H3 l.c=some (.lst (l.qs.map V.ref)):=L3.hc;have hrow3:H3 (l.qs.getD (k-1).toNat 0)=some (.lst ((st.nm.getD (k-1).toNat []).map V.int)):=L3.rq _ hk;have eo3:=s13 _ _ eo1;symm;refine zaI hrow3 (by rw [List.length_map];omega) fun H4 b4 e4=>?_;have L4:=L3.name (row:=st.nm.getD (k-1).toNat []++[zaL (entS st (k-1).toNat r p) (k-1).toNat]) hk b4 (by rw [e4,List.map_append];rfl);have hm:(zaK (entS st (k-1).toNat r p) (k-1).toNat).nm=st.nm.set (k-1).toNat (st.nm.getD (k-1).toNat []++[zaL (entS st (k-1).toNat r p) (k-1).toNat]):=by unfold zaK;rw [if_pos g4];rfl
   rw [hm] at q;symm;refine q H4 (fun b u eb nb nq=>?_) L4;rw [b4 _ (fun z=>nq (by rw [z];exact zbX (by omega)))];exact s13 _ _ (fr1 b u eb nb)
  ·symm;have hm:zaK (entS st (k-1).toNat r p) (k-1).toNat=entS st (k-1).toNat r p:=by unfold zaK;rw [if_neg g4]
   rw [hm] at q;exact q H3 (fun b u eb nb _=>s13 _ _ (fr1 b u eb nb)) L3
theorem zi3 {H:Hp} {l:LdA} {o:Addr} {st:ExS} {k r p:Int} {Q:VK} {E:XK} (L:Led H l st.hs st.rs st.nm st.en) (ho:o∉l.all) (eo:H o=some (.lst ([k,r,p].map V.int))) (k1:1≤k) (k2:k≤st.nm.length) (p0:0≤p) (p1:p≤100) (B:InB st.hs st.rs) (W:Wf st) (hd:st.dl.isSome=true) (e3:∀ i,i < st.en.length→(st.en.getD i []).length=3) (h9:st.en.length≤900) (q:∀ H',(∀ b u,H b=some u→b≠l.d→b∉l.qs→H' b=some u)→Led H' { l with es:=l.es++[o] } st.hs st.rs (zaK (entS st (k-1).toNat r p) (k-1).toNat).nm (st.en++[[k,r,p]])→Q (.int (zaL (entS st (k-1).toNat r p) (k-1).toNat)) H'):zdF K [.ref l.a,.ref l.b,.int st.step,.ref l.c,.ref l.d,.ref o] H Q E:=⟨rfl,l,o,st,k,r,p,rfl,L,ho,eo,k1,k2,p0,p1,B,W,hd,e3,h9,q⟩
theorem zhJ {H:Hp} {l:LdA} {o:Addr} {st:ExS} {k r p s:Int} {hs:List Int} {rs nm en:List (List Int)} {Q:VK} {E:XK} (hh:st.hs=hs) (hr:st.rs=rs) (hn:st.nm=nm) (he:st.en=en) (hs':st.step=s) (L:Led H l hs rs nm en) (ho:o∉l.all) (eo:H o=some (.lst ([k,r,p].map V.int))) (k1:1≤k) (k2:k≤nm.length) (p0:0≤p) (p1:p≤100) (B:InB hs rs) (W:Wf st) (hd:st.dl.isSome=true) (e3:∀ i,i < en.length→(en.getD i []).length=3) (h9:en.length≤900) (q:∀ H',(∀ b u,H b=some u→b≠l.d→b∉l.qs→H' b=some u)→Led H' { l with es:=l.es++[o] } hs rs (zaK (entS st (k-1).toNat r p) (k-1).toNat).nm (en++[[k,r,p]])→Q (.int (zaL (entS st (k-1).toNat r p) (k-1).toNat)) H'):zdF K [.ref l.a,.ref l.b,.int s,.ref l.c,.ref l.d,.ref o] H Q E:=by
 subst hh hr hn he hs';exact zi3 L ho eo k1 k2 p0 p1 B W hd e3 h9 q
theorem zgZ {st:ExS}:∀ {es:List E3},Wf st→st.dl.isSome=true→okS st es→Wf (runS st es)∧(runS st es).dl.isSome=true
 | [],W,hd,_=>⟨W,hd⟩
 | e::es,W,hd,o=>zgZ (st:=zby st e) (zmC W hd o.1) zko o.2
theorem zmF (E:List E3):∀ i,i < (E.map rowE).length→((E.map rowE).getD i []).length=3:=fun i hi=>by
 rw [List.length_map] at hi;rw [List.getD_eq_getElem?_getD,List.getElem?_map,List.getElem?_eq_getElem hi];rfl
def zcl (K:PySem.W.Frag):Sp:=fun vs H Q _=>vs.length=6∧∃ (sc a b c tb:Addr) (ns:List Int) (ps qs:List Addr) (hs:List Int) (rs tt tab:List (List Int)) (stp:Int),vs=[.ref sc,.ref a,.ref b,.int stp,.ref c,.ref tb]∧ns.length≤63∧(∀ d H1,H d=none→Same H H1→H1 d=some (.lst [])→Led H1 ⟨a,b,c,d,ps,qs,[]⟩ hs rs tt [])∧(∀ H',(∀ y u,H y=some u→y∉qs→H' y=some u)→LL K H' tb tab∧SqL K H' sc (ns.map V.int))∧tab.length=tt.length∧(∀ i,i < tab.length→(tab.getD i []).length=3∧∀ x∈tab.getD i [],0≤x∧x≤100)∧InB hs rs∧Wf (S0 hs rs tt stp)∧(∀ k,k < tt.length→(tt.getD k []).length=2∧(tt.getD k []).getD 0 0≠(tt.getD k []).getD 1 0)∧∀ H' d es E,H d=none→Led H' ⟨a,b,c,d,ps,qs,es⟩ hs rs (runS (S0 hs rs tt stp) E).nm (E.map rowE)→okS (S0 hs rs tt stp) E→(∀ e∈E,zfa tt (fun k=>tab.getD k []) e)→dueB (runS (S0 hs rs tt stp) E).nm (E.map rowE)=[]→(∀ y u,H y=some u→y∉qs→H' y=some u)→(∀ y∈es,H y=none)→E.length≤30→Q (.ref d) H'
theorem zd2 (T:Txt K mg t):FnOk P w K mg base CX0 4 t.f_66 t.d_66 ["_law_script","_law_homes","_law_staff","_law_step_here","_law_names","_law_table_here"] (zcl K):=by
 have G_57:=zfx (P:=P) (w:=w) (base:=base) T;have G_47:=zdc (P:=P) (w:=w) (base:=base) T;have G_61:=zhI (P:=P) (w:=w) (base:=base) T;refine T.F_66.ok sc_66 (fun _ _ _ _ h=>h.1) fun cdv A outer s H vs Q E hr h=>by
  refine ⟨_,(zab (zax (i:=6) sc_66.nd rfl (Or.inl rfl) (zaM pa_nil))
   (zab (zaZ PassesOwn.never rfl (zaW (by rfl) T.z_range (zaa zad pa_nil)) (zar (i:=7) sc_66.nd rfl (Or.inl rfl))
   (zab (zax (i:=8) sc_66.nd rfl (Or.inl rfl) (zal G_57 (hr.mono (by decide)) (by rfl) T.m_57 T.F_57.kp T.b_57 .nil zau (zaa (pv 4) (zaa (pv 6) pa_nil))))
   (zab (zaS (zap (zbK (K:=K) rfl hr.units0) (pv 8) (zaM pa_nil) (zaC _))
   (zae ps_break) pss_nil)
   (zab (zax (i:=9) sc_66.nd rfl (Or.inl rfl) (zaw (zaf (K:=K) rfl) (pv 8) (zaq (op_mod) (zal G_47 (hr.mono (by decide)) (by rfl) T.m_47 T.F_47.kp T.b_47 .nil zau (zaa (pv 0) (zaa (zaq (op_addG) zad (pv 7)) pa_nil))) (zag (zai (K:=K) rfl) (by rfl) T.z_len (by rfl) (zaa (pv 8) pa_nil))) (fun _ _=>rfl)))
   (zab (zax (i:=10) sc_66.nd rfl (Or.inl rfl) (zbp (K:=K) rfl PySem.F.plainAttrs_list PySem.F.slot_list_index PySem.F.type_list_index mt_index (zaw (zaf (K:=K) rfl) (pv 4) (zaq (op_sub) (zaw (zaf (K:=K) rfl) (pv 9) zad (fun _ _=>rfl)) zad) (fun _ _=>rfl)) (zaa (zaw (zaf (K:=K) rfl) (pv 9) zad (fun _ _=>rfl)) pa_nil)))
   (zae (zaG (zal G_61 (hr.mono (by decide)) (by rfl) T.m_61 T.F_61.kp T.b_61 .nil zau (zaa (pv 1) (zaa (pv 2) (zaa (pv 3) (zaa (pv 4) (zaa (pv 6) (zaa (zaq (op_addG) (pv 9) (zaM (zaa (zaw (zaf (K:=K) rfl) (zaw (zaf (K:=K) rfl) (pv 5) (zaq (op_sub) (zaw (zaf (K:=K) rfl) (pv 9) zad (fun _ _=>rfl)) zad) (fun _ _=>rfl)) (pv 10) (fun _ _=>rfl)) pa_nil))) pa_nil))))))))))))))
   (zae (zak (pv 6))))),?_⟩
  obtain ⟨_,sc,a,b,c,tb,ns,ps,qs,hs,rs,tt,tab,stp,rfl,hl,hled,htb,htl,htr,B,W0,htt,q⟩:=h;have B1:=B.lp;have hln:tt.length=hs.length:=W0.ln rfl;symm;refine zat (by decide) fun d H1 f1 s1 e1=>?_;have L1:=hled d H1 f1 s1 e1;walk_at "st";refine ze0 (fun σ H'=>∃ (es:List Addr) (E:List E3) (v7 v8 v9 v10:Option V),σ=[some (.ref sc),some (.ref a),some (.ref b),some (.int stp),some (.ref c),some (.ref tb),some (.ref d),v7,v8,v9,v10]∧Led H' ⟨a,b,c,d,ps,qs,es⟩ hs rs (runS (S0 hs rs tt stp) E).nm (E.map rowE)∧okS (S0 hs rs tt stp) E∧(∀ e∈E,zfa tt (fun k=>tab.getD k []) e)∧(∀ y u,H y=some u→y∉qs→H' y=some u)∧(∀ y∈es,H y=none)∧E.length≤30∧dueB (runS (S0 hs rs tt stp) E).nm (E.map rowE)=[]) ?_ ?_
  ·intro nx' hnx;symm;refine zbU (by decide) (by decide) ?_;refine zbV (fun i σ H'=>∃ (es:List Addr) (E:List E3) (v7 v8 v9 v10:Option V),σ=[some (.ref sc),some (.ref a),some (.ref b),some (.int stp),some (.ref c),some (.ref tb),some (.ref d),v7,v8,v9,v10]∧Led H' ⟨a,b,c,d,ps,qs,es⟩ hs rs (runS (S0 hs rs tt stp) E).nm (E.map rowE)∧okS (S0 hs rs tt stp) E∧(∀ e∈E,zfa tt (fun k=>tab.getD k []) e)∧(∀ y u,H y=some u→y∉qs→H' y=some u)∧(∀ y∈es,H y=none)∧E.length=i∧Run (runS (S0 hs rs tt stp) E) i∧Grow tt (runS (S0 hs rs tt stp) E).nm) ⟨[],[],none,none,none,none,rfl,L1,trivial,fun e he=>absurd he (by simp),fun y u e _=>s1 _ _ e,fun y hy=>absurd hy (by simp),rfl,Run.new,Grow.new⟩ ?_ ?_
   ·rintro i σ H' hi ⟨es,E,v7,v8,v9,v10,rfl,L,ok,hp,fr,hes,hEl,RN,GR⟩;have hi30:i < 30:=hi;obtain ⟨W,hdl⟩:=zgZ W0 rfl ok;obtain ⟨g1,g2,g3,g4⟩:=zcO (S0 hs rs tt stp) E;have g4:(runS (S0 hs rs tt stp) E).nm.length=tt.length:=g4;have gen:=en0 (hs:=hs) (rs:=rs) (tt:=tt) (stp:=stp) E;have hrow:=W.row;rw [gen] at hrow;have hdue:=znN W;rw [gen] at hdue;have hml:(E.map rowE).length=E.length:=List.length_map ..;have hRe:=fun (k:Nat) (r p:Int)=>RN.enter (k:=k) (r:=r) (p:=p);generalize hst:runS (S0 hs rs tt stp) E=st at *;obtain ⟨_,hSc⟩:=htb H' fr;symm;refine zgc L.lc L.ld (by omega) (zmF E) hrow fun w2 J2 R2=>?_;obtain ⟨zs,hz,hzn⟩:=zlp R2;symm;refine zat (by decide) fun w3 J3 g3' s3' e3'=>?_;have R3:=R2.mono s3';have s13:=R2.same.trans s3';symm;refine zlD (SqL.of (s3' _ _ hz)) (SqL.of e3') ?_;symm;refine zbi (fun g=>?_) (fun g=>?_)
    ·symm;exact hnx _ _ ⟨es,E,_,_,_,_,rfl,by rw [hst];exact L.same s13,ok,hp,fun y u e n=>s13 _ _ (fr y u e n),hes,by omega,by rw [hst];exact hzn.mp g⟩
    have hne:dueB st.nm (E.map rowE)≠[]:=fun z=>g (hzn.mpr z);have fr3:∀ y u,H y=some u→y∉qs→J3 y=some u:=fun y u e n=>s13 _ _ (fr y u e n);obtain ⟨LT3,hS3⟩:=htb J3 fr3;have L3:=L.same s13;obtain ⟨s1',n1',ps1,h1',h2',_,h3'⟩:=id R3;have hpos:0 < (dueB st.nm (E.map rowE)).length:=List.length_pos_iff.mpr hne;symm;have hl':(ps1.length:Int)=((dueB st.nm (E.map rowE)).length:Int):=by omega
    try rw [hl']
    generalize zbJ ns (31+(0+(i:Int)))=cc;have hm0:=Int.emod_nonneg cc (show ((dueB st.nm (E.map rowE)).length:Int)≠0 by omega);have hm1:=Int.emod_lt_of_pos cc (show (0:Int) < (dueB st.nm (E.map rowE)).length by omega);generalize hj:cc % ((dueB st.nm (E.map rowE)).length:Int)=j at *;have hj':j.toNat < (dueB st.nm (E.map rowE)).length:=by omega
    symm;obtain ⟨k,r,hk,hr1,hx⟩:=zmw (getD_mem (d:=[]) hj');have hrow1:=(h3' _ hj').1;rw [hx] at hrow1;have hrow1:J3 (ps1.getD j.toNat 0)=some (.lst [.int ((k:Int)+1),.int r]):=hrow1;generalize ps1.getD j.toNat 0=w1 at *;have ek:((k:Int)+1-1).toNat=k:=by omega
    have hkt:k < tt.length:=by omega
    have hc3:J3 c=some (.lst (qs.map V.ref)):=L3.hc;have hql:qs.length=st.nm.length:=L3.lq;have hrk:J3 (qs.getD k 0)=some (.lst ((st.nm.getD k []).map V.int)):=L3.rq k hk;have hrin:=(List.mem_filter.mp hr1).1;have hlr:=(hrow k hk).len;obtain ⟨pt,ht1,ht2,ht3⟩:=id LT3;have htk:=ht3 k (by omega);have h3l:=htr k (by omega);have h3l1:=h3l.1;symm;rw [ek];symm;refine ziS hrk hrin fun jj hjj hjr hjm=>?_;have hpt:=h3l.2 ((tab.getD k []).getD jj 0) (getD_mem (by omega));have hok:=znY (tab:=fun k=>tab.getD k []) GR hkt (htt k hkt).1 (htt k hkt).2 hjr hjm;symm;rw [ek];symm;have ejj:((jj:Nat):Int).toNat=jj:=by omega
    try rw [ejj]
    refine zat (by simp) fun w4 J4 g4' s4 e4=>?_;symm;refine zfX (s4 _ _ hrow1) e4 (by simp) fun o J5 ho s5 eo=>?_;have s35:=s4.trans s5;have L5:=L3.same s35;have ho3:J3 o=none:=s4.free ho;have no:o∉(⟨a,b,c,d,ps,qs,es⟩:LdA).all:=fun z=>by
     obtain ⟨u,eu⟩:=L3.mem z;rw [ho3] at eu;cases eu
    have eo':J5 o=some (.lst (([(k:Int)+1,r,(tab.getD k []).getD jj 0]:List Int).map V.int)):=eo;have okE':okE st (k,r,(tab.getD k []).getD jj 0):=⟨hk,by rw [gen];exact hr1,hpt.1,hpt.2⟩
    symm;refine zhJ (l:=⟨a,b,c,d,ps,qs,es⟩) (st:=st) (k:=(k:Int)+1) (r:=r) (p:=(tab.getD k []).getD jj 0) g1 g2 rfl gen g3 L5 no eo' (by omega) (by omega) hpt.1 hpt.2 B W hdl (zmF E) (by omega) fun J6 fr6 L6=>?_;rw [ek] at L6;have hrun:runS (S0 hs rs tt stp) (E++[(k,r,(tab.getD k []).getD jj 0)])=zby st (k,r,(tab.getD k []).getD jj 0):=by rw [zcE,hst]
    have hdn:d∉qs∧d≠c:=by
     have:=L5.nd;unfold LdA.all at this;simp only [List.nodup_cons,List.mem_cons,List.mem_append,not_or] at this;exact ⟨this.2.2.2.1.2.1,fun z=>this.2.2.1.1 z.symm⟩
    symm;refine ⟨es++[o],E++[(k,r,(tab.getD k []).getD jj 0)],_,_,_,_,rfl,?_,(ok_snoc _ _ _).mpr ⟨ok,by rw [hst];exact okE'⟩,fun e he=>?_,fun y u e n=>?_,fun y hy=>?_,by rw [List.length_append,List.length_singleton,hEl],?_,?_⟩
    ·rw [hrun,List.map_append];exact L6
    ·rcases List.mem_append.mp he with z | z
     ·exact hp e z
     ·rw [List.mem_singleton.mp z];exact hok
    ·exact fr6 _ _ (s35 _ _ (fr3 y u e n)) (fun z=>by rw [z,f1] at e;cases e) n
    ·rcases List.mem_append.mp hy with z | z
     ·exact hes y z
     ·rw [List.mem_singleton.mp z]
      cases hh:H o with
      | none=>rfl
      | some u =>
        by_cases hq:o∈qs
        ·exact absurd (zmz.2.2.1 _ hq) no
        ·have:=fr3 o u hh hq;rw [ho3] at this;cases this
    ·rw [hrun];exact hRe k r _ W hk (by rw [gen];exact hr1)
    ·rw [hrun];exact zkp GR hk
   ·rintro σ H' ⟨es,E,v7,v8,v9,v10,rfl,L,ok,hp,fr,hes,hEl,RN,GR⟩;obtain ⟨W,hdl⟩:=zgZ W0 rfl ok;obtain ⟨g1,g2,g3,g4⟩:=zcO (S0 hs rs tt stp) E;have g4:(runS (S0 hs rs tt stp) E).nm.length=tt.length:=g4;have hd:=RN.done W (by rw [g4];show 3 * tt.length≤30;omega);rw [en0] at hd;exact hnx _ _ ⟨es,E,_,_,_,_,rfl,L,ok,hp,fr,hes,by have:E.length=30:=hEl;omega,hd⟩
  rintro σ H' ⟨es,E,v7,v8,v9,v10,rfl,L,ok,hp,fr,hes,hEl,hd⟩;symm;exact q H' d es E f1 L ok hp hd fr hes hEl
theorem zek {H:Hp} {sc a b c tb:Addr} {ns:List Int} {ps qs:List Addr} {hs:List Int} {rs tt tab:List (List Int)} {stp:Int} {Q:VK} {E:XK} (hl:ns.length≤63) (hled:∀ d H1,H d=none→Same H H1→H1 d=some (.lst [])→Led H1 ⟨a,b,c,d,ps,qs,[]⟩ hs rs tt []) (htb:∀ H',(∀ y u,H y=some u→y∉qs→H' y=some u)→LL K H' tb tab∧SqL K H' sc (ns.map V.int)) (htl:tab.length=tt.length) (htr:∀ i,i < tab.length→(tab.getD i []).length=3∧∀ x∈tab.getD i [],0≤x∧x≤100) (B:InB hs rs) (W0:Wf (S0 hs rs tt stp)) (htt:∀ k,k < tt.length→(tt.getD k []).length=2∧(tt.getD k []).getD 0 0≠(tt.getD k []).getD 1 0) (q:∀ H' d es E,H d=none→Led H' ⟨a,b,c,d,ps,qs,es⟩ hs rs (runS (S0 hs rs tt stp) E).nm (E.map rowE)→okS (S0 hs rs tt stp) E→(∀ e∈E,zfa tt (fun k=>tab.getD k []) e)→dueB (runS (S0 hs rs tt stp) E).nm (E.map rowE)=[]→(∀ y u,H y=some u→y∉qs→H' y=some u)→(∀ y∈es,H y=none)→E.length≤30→Q (.ref d) H'):zcl K [.ref sc,.ref a,.ref b,.int stp,.ref c,.ref tb] H Q E:=⟨rfl,sc,a,b,c,tb,ns,ps,qs,hs,rs,tt,tab,stp,rfl,hl,hled,htb,htl,htr,B,W0,htt,q⟩
def zba (K:PySem.W.Frag) (C:Addr):Sp:=fun vs H Q _=>vs.length=1∧∃ (x:Addr) (F:Addr→Prop) (st:ExS),vs=[.ref x]∧ExAt C H x F st∧st.dl.isSome=true∧Q .non H
theorem zbQ (T:Txt K mg t):FnOk P w K mg base CX0 1 t.f_40 t.d_40 ["self"] (zba K t.C_Exam):=by
 refine T.F_40.ok sc_40 (fun _ _ _ _ h=>h.1) fun cdv A outer s H vs Q E hr h=>by
  refine ⟨_,(zae (zaS (za6 (zav (K:=K) rfl (zaF (K:=K) rfl (pv 0)) (fun _=>rfl)))
   (zae ps_never) pss_nil)),?_⟩
  obtain ⟨_,x,F,st,rfl,E0,hd,q⟩:=h;walk_at "hd";symm;rw [hd];refine iteF ?_;symm;exact q
theorem zdG {K:PySem.W.Frag} {C x:Addr} {H:Hp} {F:Addr→Prop} {st:ExS} {Q:VK} {E:XK} {σ:L2.St} (h:ExAt C H x F st) (hd:st.dl.isSome=true) (q:Q .non H):zbm C "refuse_ahead_of_dealing" (zba K C) E tNil σ (.ref x) H Q:=by
 obtain ⟨dx,fs,e,l⟩:=h.ob;exact zaN e (l _ (by decide +kernel)) (zeF ⟨rfl,x,F,st,rfl,h,hd,q⟩)
def zbz (K:PySem.W.Frag) (C:Addr):Sp:=fun vs H Q _=>vs.length=2∧∃ (x:Addr) (F:Addr→Prop) (st:ExS) (k:Int),vs=[.ref x,.int k]∧ExAt C H x F st∧InB st.hs st.rs∧1≤k∧k≤st.nm.length∧(∀ p H',H p=none→Same H H'→H' p=some (.lst ((zaO st.nm st.en (k-1).toNat).map V.int))→Q (.ref p) H')
theorem zbc (T:Txt K mg t):FnOk P w K mg base CX0 1 t.f_42 t.d_42 ["self","paper"] (zbz K t.C_Exam):=by
 refine T.F_42.ok sc_42 (fun _ _ _ _ h=>h.1) fun cdv A outer s H vs Q E hr h=>by
  refine ⟨_,(zab (zax (i:=2) sc_42.nd rfl (Or.inr rfl) (zaw (zaf (K:=K) rfl) (zaF (K:=K) rfl (pv 0)) (zaq (op_sub) (pv 1) zad) (fun _ _=>rfl)))
   (zae (zak (za7 (zas (sc:=zac s_42) (XN:=["self","paper","entered"]) (N:=["reader","entered"]) (own:=1) (js:=[2]) rfl rfl (by decide +kernel)) rfl (zaJ (K:=K) rfl (zaw (zaf (K:=K) rfl) (zaF (K:=K) rfl (pv 0)) (zaq (op_sub) (pv 1) zad) (fun _ _=>rfl))) (fun _ _ _ _ _=>(zar (i:=0) (show List.Nodup [(Str.ofString "reader"),(Str.ofString "entered")] by decide +kernel) rfl (Or.inl rfl))) (fun _ _ _ _ _=>(zb5 (zlv (zjE (zcY hr) (pv 0) (pv 1))))) (fun _ _ _ _ _=>(pv 0)))))),?_⟩
  obtain ⟨_,x,F,st,k,rfl,E0,BB,k1,k2,q⟩:=h;have B1:=BB.lp;have B2:=BB.lr;have E0':=E0;walk_at "hd";have lq:=I.lq;have ld:=I.ld;have l10:=I.wf.n10 BB;have hk:(k-1).toNat < st.nm.length:=by omega
  have hdic:=I.rd _ hk;have hrow:=I.rq _ hk;have hvk:=I.vk _ hk;have hlr:=(I.wf.row _ hk).len;symm;refine zaT (SqL.of hrow) ?_;refine zdQ (SqL.of hrow) (by rw [List.length_map];omega) (fun v=>match v with | .int r=>(zaE st.en (k-1).toNat r).isNone | _=>false) (fun i H' Q' hi s q'=>?_) fun p H2 f s e2=>?_
  ·rw [List.length_map] at hi;have ex:((st.nm.getD (k-1).toNat []).map V.int).getD i .non=.int ((st.nm.getD (k-1).toNat []).getD i 0):=zc9 hi;rw [ex] at q' ⊢;symm;refine zj8 (s _ _ hdic) ?_;rw [hvk];have eb:(!((zaE st.en (k-1).toNat ((st.nm.getD (k-1).toNat []).getD i 0)).map V.int).isSome)=(zaE st.en (k-1).toNat ((st.nm.getD (k-1).toNat []).getD i 0)).isNone:=by
    cases zaE st.en (k-1).toNat ((st.nm.getD (k-1).toNat []).getD i 0) <;> rfl
   symm;rw [eb];exact q'
  ·have ew:((st.nm.getD (k-1).toNat []).map V.int).filter (fun v=>match v with | .int r=>(zaE st.en (k-1).toNat r).isNone | _=>false)=(zaO st.nm st.en (k-1).toNat).map V.int:=by
    unfold zaO;rw [List.filter_map];rfl
   rw [ew] at e2;exact q p H2 f s e2
theorem zd3 {K:PySem.W.Frag} {C x:Addr} {H:Hp} {F:Addr→Prop} {st:ExS} {k:Int} {Q:VK} {E:XK} (h:ExAt C H x F st) (B:InB st.hs st.rs) (k1:1≤k) (k2:k≤st.nm.length) (q:(∀ p H',H p=none→Same H H'→H' p=some (.lst ((zaO st.nm st.en (k-1).toNat).map V.int))→Q (.ref p) H')):zbz K C [.ref x,.int k] H Q E:=⟨rfl,x,F,st,k,rfl,h,B,k1,k2,q⟩
theorem zbh {K:PySem.W.Frag} {C x:Addr} {H:Hp} {F:Addr→Prop} {st:ExS} {k:Int} {Q:VK} {E:XK} {σ:L2.St} {tk:TE} (h:ExAt C H x F st) (B:InB st.hs st.rs) (k1:1≤k) (k2:k≤st.nm.length) (hk:∀ Q:VK,Q (.int k) H→tk σ H Q) (q:(∀ p H',H p=none→Same H H'→H' p=some (.lst ((zaO st.nm st.en (k-1).toNat).map V.int))→Q (.ref p) H')):zbm C "due_readers" (zbz K C) E (zgi tk tNil) σ (.ref x) H Q:=by
 obtain ⟨dx,fs,e,l⟩:=h.ob;exact zaN e (l _ (by decide +kernel)) (zfF (hk _ (zeF (zd3 h B k1 k2  q))))
def zbL (K:PySem.W.Frag) (C:Addr):Sp:=fun vs H Q _=>vs.length=3∧∃ (x:Addr) (F:Addr→Prop) (st:ExS) (k r:Int),vs=[.ref x,.int k,.int r]∧ExAt C H x F st∧InB st.hs st.rs∧1≤k∧k≤st.nm.length∧r∈zaO st.nm st.en (k-1).toNat∧∀ H',Same H H'→Q .non H'
theorem zcV (T:Txt K mg t):FnOk P w K mg base CX0 2 t.f_41 t.d_41 ["self","paper","reader"] (zbL K t.C_Exam):=by
 have G_42:=zbc (P:=P) (w:=w) (base:=base) T;refine T.F_41.ok sc_41 (fun _ _ _ _ h=>h.1) fun cdv A outer s H vs Q E hr h=>by
  refine ⟨_,(zae (zaS (zap (zdU (K:=K) rfl (zcY hr)) (pv 2) (zbf (pv 0) T.cl_Exam T.me_42 G_42 (hr.mono (by decide)) T.b_42 .nil zau (zaa (pv 1) pa_nil)) (by with_unfolding_all rfl))
   (zae ps_never) pss_nil)),?_⟩
  obtain ⟨_,x,F,st,k,r,rfl,E0,BB,k1,k2,hr',q⟩:=h;have E0':=E0;walk_at "hd";symm;refine zbh E0' BB k1 k2 (fun Q z=>zeE (i:=1) rfl z) fun p1 H1 f1 s1 e1=>?_;symm;rw [decide_eq_true hr'];refine iteF ?_;symm;exact q H1 s1
theorem zdf {K:PySem.W.Frag} {C x:Addr} {H:Hp} {F:Addr→Prop} {st:ExS} {k r:Int} {Q:VK} {E:XK} (h:ExAt C H x F st) (B:InB st.hs st.rs) (k1:1≤k) (k2:k≤st.nm.length) (hr:r∈zaO st.nm st.en (k-1).toNat) (q:∀ H',Same H H'→Q .non H'):zbL K C [.ref x,.int k,.int r] H Q E:=⟨rfl,x,F,st,k,r,rfl,h,B,k1,k2,hr,q⟩
def zbI (K:PySem.W.Frag) (C:Addr):Sp:=fun vs H Q _=>vs.length=2∧∃ (x:Addr) (F:Addr→Prop) (st:ExS) (k:Int),vs=[.ref x,.int k]∧ExAt C H x F st∧InB st.hs st.rs∧1≤k∧k≤st.nm.length∧zaO st.nm st.en (k-1).toNat=[]∧(∀ p H',H p=none→Same H H'→H' p=some (.lst ((ptsOf st.nm st.en (k-1).toNat).map V.int))→Q (.ref p) H')
theorem zcm (T:Txt K mg t):FnOk P w K mg base CX0 1 t.f_43 t.d_43 ["self","paper"] (zbI K t.C_Exam):=by
 refine T.F_43.ok sc_43 (fun _ _ _ _ h=>h.1) fun cdv A outer s H vs Q E hr h=>by
  refine ⟨_,(zab (zax (i:=2) sc_43.nd rfl (Or.inr rfl) (zaw (zaf (K:=K) rfl) (zaF (K:=K) rfl (pv 0)) (zaq (op_sub) (pv 1) zad) (fun _ _=>rfl)))
   (zae (zak (za7 (zas (sc:=zac s_43) (XN:=["self","paper","entered"]) (N:=["reader","entered"]) (own:=1) (js:=[2]) rfl rfl (by decide +kernel)) rfl (zaJ (K:=K) rfl (zaw (zaf (K:=K) rfl) (zaF (K:=K) rfl (pv 0)) (zaq (op_sub) (pv 1) zad) (fun _ _=>rfl))) (fun _ _ _ _ _=>(zar (i:=0) (show List.Nodup [(Str.ofString "reader"),(Str.ofString "entered")] by decide +kernel) rfl (Or.inl rfl))) (fun _ _ _ _ _=>zbx) (fun _ _ _ _ _=>(zl8 (zcY hr) (pv 1) (pv 0) (fun _ _=>rfl))))))),?_⟩
  obtain ⟨_,x,F,st,k,rfl,E0,BB,k1,k2,hw,q⟩:=h;have B1:=BB.lp;have B2:=BB.lr;have E0':=E0;walk_at "hd";have lq:=I.lq;have ld:=I.ld;have l10:=I.wf.n10 BB;have hk:(k-1).toNat < st.nm.length:=by omega
  have hdic:=I.rd _ hk;have hrow:=I.rq _ hk;have hvk:=I.vk _ hk;have hlr:=(I.wf.row _ hk).len;symm;refine zaT (SqL.of hrow) ?_;refine zgu (zbq (SqL.of hrow)) (by rw [List.length_map];omega) (fun i=>(zaE st.en (k-1).toNat ((st.nm.getD (k-1).toNat []).getD i 0)).getD 0) (fun i H' Q' hi s q'=>?_) fun p H2 f s e2=>?_
  ·rw [List.length_map] at hi;have ex:((st.nm.getD (k-1).toNat []).map V.int).getD i .non=.int ((st.nm.getD (k-1).toNat []).getD i 0):=zc9 hi;rw [ex];obtain ⟨p,hp⟩:=zcD hw (getD_mem (d:=0) hi);rw [hp] at q';symm;refine zj9 (s _ _ hdic) (by rw [hvk,hp];rfl) ?_;exact q'
  ·have ew:(List.range ((st.nm.getD (k-1).toNat []).map V.int).length).map (fun i=>(zaE st.en (k-1).toNat ((st.nm.getD (k-1).toNat []).getD i 0)).getD 0)=ptsOf st.nm st.en (k-1).toNat:=by
    unfold ptsOf;rw [List.length_map]
    conv=>rhs;rw [← zcq (st.nm.getD (k-1).toNat []) 0]
    rw [List.map_map];rfl
   rw [ew] at e2;exact q p H2 f s e2
theorem zel {K:PySem.W.Frag} {C x:Addr} {H:Hp} {F:Addr→Prop} {st:ExS} {k:Int} {Q:VK} {E:XK} (h:ExAt C H x F st) (B:InB st.hs st.rs) (k1:1≤k) (k2:k≤st.nm.length) (hw:zaO st.nm st.en (k-1).toNat=[]) (q:(∀ p H',H p=none→Same H H'→H' p=some (.lst ((ptsOf st.nm st.en (k-1).toNat).map V.int))→Q (.ref p) H')):zbI K C [.ref x,.int k] H Q E:=⟨rfl,x,F,st,k,rfl,h,B,k1,k2,hw,q⟩
theorem zcw {K:PySem.W.Frag} {C x:Addr} {H:Hp} {F:Addr→Prop} {st:ExS} {k:Int} {Q:VK} {E:XK} {σ:L2.St} {tk:TE} (h:ExAt C H x F st) (B:InB st.hs st.rs) (k1:1≤k) (k2:k≤st.nm.length) (hw:zaO st.nm st.en (k-1).toNat=[]) (hk:∀ Q:VK,Q (.int k) H→tk σ H Q) (q:(∀ p H',H p=none→Same H H'→H' p=some (.lst ((ptsOf st.nm st.en (k-1).toNat).map V.int))→Q (.ref p) H')):zbm C "points_for" (zbI K C) E (zgi tk tNil) σ (.ref x) H Q:=by
 obtain ⟨dx,fs,e,l⟩:=h.ob;exact zaN e (l _ (by decide +kernel)) (zfF (hk _ (zeF (zel h B k1 k2 hw q))))
def zin (K:PySem.W.Frag):Sp:=fun vs H Q _=>vs.length=3∧∃ x y s:Int,vs=[.int x,.int y,.int s]∧Q (.bl (zbF x y s)) H
theorem zio (T:Txt K mg t):FnOk P w K mg base CX0 1 t.f_17 t.d_17 ["one","other","step"] (zin K):=by
 refine T.F_17.ok sc_17 (fun _ _ _ _ h=>h.1) fun cdv A outer s H vs Q E hr h=>by
  refine ⟨_,(zae (zak (zdx (op_le) (zag (call_abs) (by rfl) T.z_abs (by rfl) (zaa (zaq (op_sub) (pv 0) (pv 1)) pa_nil)) (pv 2) (zaC _)))),?_⟩;obtain ⟨_,x,y,s,rfl,q⟩:=h;symm;refine ⟨_,rfl,?_⟩;symm;have e:zbF x y s=decide ((if x-y < 0 then -(x-y) else x-y)≤s):=by
   unfold zbF;rw [decide_eq_decide];split <;> constructor <;> intro h <;> first | omega | (constructor <;> omega)
  rw [e] at q;exact q
theorem zku {H:Hp} {x y s:Int} {Q:VK} {E:XK} (q:Q (.bl (zbF x y s)) H):zin K [.int x,.int y,.int s] H Q E:=⟨rfl,x,y,s,rfl,q⟩
def zbA (K:PySem.W.Frag) (C:Addr):Sp:=fun vs H Q _=>vs.length=2∧∃ (x:Addr) (F:Addr→Prop) (st:ExS) (k:Int),vs=[.ref x,.int k]∧ExAt C H x F st∧InB st.hs st.rs∧1≤k∧k≤st.nm.length∧(∀ H',Same H H'→Q (.bl (zbZ st (k-1).toNat)) H')
theorem zdH (T:Txt K mg t):FnOk P w K mg base CX0 2 t.f_46 t.d_46 ["self","paper"] (zbA K t.C_Exam):=by
 have G_42:=zbc (P:=P) (w:=w) (base:=base) T;have G_43:=zcm (P:=P) (w:=w) (base:=base) T;have G_17:=zio (P:=P) (w:=w) (base:=base) T;refine T.F_46.ok sc_46 (fun _ _ _ _ h=>h.1) fun cdv A outer s H vs Q E hr h=>by
  refine ⟨_,(zab (zaS (zcs (zap (op_gt) (zag (zai (K:=K) rfl) (by rfl) T.z_len (by rfl) (zaa (zaw (zaf (K:=K) rfl) (zaF (K:=K) rfl (pv 0)) (zaq (op_sub) (pv 1) zad) (fun _ _=>rfl)) pa_nil)) zad (zaC _)) (zbS (zap (op_gt) (zag (zai (K:=K) rfl) (by rfl) T.z_len (by rfl) (zaa (zbf (pv 0) T.cl_Exam T.me_42 G_42 (hr.mono (by decide)) T.b_42 .nil zau (zaa (pv 1) pa_nil)) pa_nil)) zad (zaC _)))).pt
   (zae (zak za3)) pss_nil)
   (zab (zax (i:=2) sc_46.nd rfl (Or.inl rfl) (zbf (pv 0) T.cl_Exam T.me_43 G_43 (hr.mono (by decide)) T.b_43 .nil zau (zaa (pv 1) pa_nil)))
   (zae (zak (zlw (zal G_17 (hr.mono (by decide)) (by rfl) T.m_17 T.F_17.kp T.b_17 .nil zau (zaa (zaw (zaf (K:=K) rfl) (pv 2) zad (fun _ _=>rfl)) (zaa (zaw (zaf (K:=K) rfl) (pv 2) zad (fun _ _=>rfl)) (zaa (zaF (K:=K) rfl (pv 0)) pa_nil))))))))),?_⟩
  obtain ⟨_,x,F,st,k,rfl,E0,BB,k1,k2,q⟩:=h;have B1:=BB.lp;have B2:=BB.lr;have E0':=E0;walk_at "hd";have lq:=I.lq;have ld:=I.ld;have l10:=I.wf.n10 BB;have hk:(k-1).toNat < st.nm.length:=by omega
  have hdic:=I.rd _ hk;have hrow:=I.rq _ hk;have hvk:=I.vk _ hk;have hlr:=(I.wf.row _ hk).len;have hpl:=zf5 st.nm st.en (k-1).toNat;symm;refine zbi (fun h0=>?_) (fun h0=>?_)
  ·refine iteT ?_;symm;have hn:zbZ st (k-1).toNat=false:=by unfold zbZ;rw [decide_eq_false (by omega)];rfl
   rw [hn] at q;exact q H (Same.refl H)
  have hl2:(st.nm.getD (k-1).toNat []).length=2:=by omega
  symm;refine zbh E0' BB k1 k2 (fun Q z=>zeE (i:=1) rfl z) fun p1 H1 f1 s1 e1=>?_;symm;refine zbi (fun h1=>?_) (fun h1=>?_)
  ·symm;have hn:zbZ st (k-1).toNat=false:=by
    unfold zbZ;rw [decide_eq_false (show ¬zaO st.nm st.en (k-1).toNat=[] from fun z=>by rw [z] at h1;exact absurd h1 (by simp)),Bool.and_false];rfl
   rw [hn] at q;exact q H1 s1
  have hw:zaO st.nm st.en (k-1).toNat=[]:=List.eq_nil_of_length_eq_zero (by omega);have E1:=E0'.same s1;symm;refine zcw E1 BB k1 k2 hw (fun Q z=>zeE (i:=1) rfl z) fun p2 H2 f2 s2 e2=>?_;have hob:=s2 _ _ (s1 _ _ hob);symm;refine zku ?_;symm;have hn:zbZ st (k-1).toNat = !zbF ((ptsOf st.nm st.en (k-1).toNat).getD 0 0) ((ptsOf st.nm st.en (k-1).toNat).getD 1 0) st.step:=by unfold zbZ;rw [decide_eq_true hl2,decide_eq_true hw];rfl
  rw [hn] at q;exact q H2 (s1.trans s2)
theorem zd4 {K:PySem.W.Frag} {C x:Addr} {H:Hp} {F:Addr→Prop} {st:ExS} {k:Int} {Q:VK} {E:XK} (h:ExAt C H x F st) (B:InB st.hs st.rs) (k1:1≤k) (k2:k≤st.nm.length) (q:(∀ H',Same H H'→Q (.bl (zbZ st (k-1).toNat)) H')):zbA K C [.ref x,.int k] H Q E:=⟨rfl,x,F,st,k,rfl,h,B,k1,k2,q⟩
theorem zd5 {K:PySem.W.Frag} {C x:Addr} {H:Hp} {F:Addr→Prop} {st:ExS} {k:Int} {Q:VK} {E:XK} {σ:L2.St} {tk:TE} (h:ExAt C H x F st) (B:InB st.hs st.rs) (k1:1≤k) (k2:k≤st.nm.length) (hk:∀ Q:VK,Q (.int k) H→tk σ H Q) (q:(∀ H',Same H H'→Q (.bl (zbZ st (k-1).toNat)) H')):zbm C "needs_third" (zbA K C) E (zgi tk tNil) σ (.ref x) H Q:=by
 obtain ⟨dx,fs,e,l⟩:=h.ob;exact zaN e (l _ (by decide +kernel)) (zfF (hk _ (zeF (zd4 h B k1 k2  q))))
def okT (left row:List Int) (r:Int):Bool:=!decide (r∈row) && decide (0 < left.getD (r-1).toNat 0)
theorem zhK {hs:List Int} {rs:List (List Int)} {left row:List Int} {k:Int} {i:Nat}:fitT hs rs left k row i=(mayB hs rs k i && okT left row (1+(i:Int))):=by
 unfold fitT mayB okT;have e:((1:Int)+(i:Int)-1).toNat=i:=by omega
 have e2:(1:Int)+(i:Int)=(i:Int)+1:=by omega
 have e3:decide (1≤left.getD i 0)=decide (0 < left.getD i 0):=decide_eq_decide.mpr (by omega);rw [e,e2,e3];generalize decide (0 < left.getD i 0)=x;generalize decide ((i:Int)+1∈row)=y
 cases x <;> cases y <;> simp
theorem zlM {hs:List Int} {rs:List (List Int)} {k:Int} {i:Nat} (hi:i < (zah hs rs k).length):∃ a,a < rs.length∧mayB hs rs k a=true∧(zah hs rs k).getD i 0=1+(a:Int)∧∀ b,b < a→mayB hs rs k b=true→∃ j,j < i∧(zah hs rs k).getD j 0=1+(b:Int):=by
 unfold zah at hi ⊢;generalize hl:(List.range rs.length).filter (mayB hs rs k)=l at hi ⊢;rw [List.length_map] at hi;have hm:l[i]∈(List.range rs.length).filter (mayB hs rs k):=hl▸List.getElem_mem hi;obtain ⟨m1,m2⟩:=List.mem_filter.mp hm;have hp:l.Pairwise (· < ·):=hl▸List.Pairwise.filter _ List.pairwise_lt_range;have hg:∀ j (hj:j < l.length),(l.map fun i:Nat=>1+(i:Int)).getD j 0=1+((l[j]:Nat):Int):=fun j hj=>by
  rw [List.getD_eq_getElem?_getD,List.getElem?_map,List.getElem?_eq_getElem hj];rfl
 refine ⟨l[i],List.mem_range.mp m1,m2,hg i hi,fun b hb hm=>?_⟩;have hbm:b∈l:=hl▸List.mem_filter.mpr ⟨List.mem_range.mpr (by have:=List.mem_range.mp m1;omega),hm⟩;obtain ⟨j,hj,ej⟩:=List.getElem_of_mem hbm;refine ⟨j,?_,by rw [hg j hj,ej]⟩;refine Nat.lt_of_not_le fun hle=>?_;rcases Nat.eq_or_lt_of_le hle with z | z
 ·subst z;omega
 ·have:=List.pairwise_iff_getElem.mp hp i j hi hj z;omega
theorem zmG {hs:List Int} {rs:List (List Int)} {k:Int} {b:Nat} (hb:b < rs.length) (hm:mayB hs rs k b=true):∃ j,j < (zah hs rs k).length∧(zah hs rs k).getD j 0=1+(b:Int):=by
 have:(1+(b:Int))∈zah hs rs k:=List.mem_map.mpr ⟨b,List.mem_filter.mpr ⟨List.mem_range.mpr hb,hm⟩,rfl⟩;exact L2.mem_getD this
theorem zkv {hs:List Int} {rs:List (List Int)} {left row:List Int} {k:Int} {i:Nat} (hi:i < (zah hs rs k).length) (h:okT left row ((zah hs rs k).getD i 0)=true) (hb:∀ j,j < i→okT left row ((zah hs rs k).getD j 0)=false):zbk hs rs left k row=(zah hs rs k).getD i 0:=by
 obtain ⟨a,a1,a2,a3,a4⟩:=zlM hi;rw [a3] at h ⊢;rw [Int.add_comm];refine zgI a1 (by rw [zhK,a2,h];rfl) fun b hlt=>?_;rw [zhK]
 cases hm:mayB hs rs k b with
 | false=>rfl
 | true =>
   obtain ⟨j,j1,j2⟩:=a4 b hlt hm;have:=hb j j1;rw [j2] at this;rw [this];rfl
theorem zi4 {hs:List Int} {rs:List (List Int)} {left row:List Int} {k:Int} (hb:∀ j,j < (zah hs rs k).length→okT left row ((zah hs rs k).getD j 0)=false):zbk hs rs left k row=0:=by
 refine zid fun b hlt=>?_;rw [zhK]
 cases hm:mayB hs rs k b with
 | false=>rfl
 | true =>
   obtain ⟨j,j1,j2⟩:=zmG hlt hm;have:=hb j j1;rw [j2] at this;rw [this];rfl
def zeC (K:PySem.W.Frag):Sp:=fun vs H Q _=>vs.length=5∧∃ (a b c d:Addr) (k:Int) (hs:List Int) (rs:List (List Int)) (left row:List Int),vs=[.ref a,.ref b,.ref c,.int k,.ref d]∧SqL K H a (hs.map V.int)∧LL K H b rs∧SqL K H c (left.map V.int)∧SqL K H d (row.map V.int)∧InB hs rs∧left.length=rs.length∧1≤k∧k≤hs.length∧∀ H',Same H H'→Q (.int (zbk hs rs left k row)) H'
theorem zg0 (T:Txt K mg t):FnOk P w K mg base CX0 3 t.f_23 t.d_23 ["papers","readers","left","paper","row"] (zeC K):=by
 have G_2:=zcr (P:=P) (w:=w) (base:=base) T;refine T.F_23.ok sc_23 (fun _ _ _ _ h=>h.1) fun cdv A outer s H vs Q E hr h=>by
  refine ⟨_,(zab (zaZ PassesOwn.never rfl (zaJ (K:=K) rfl (zal G_2 (hr.mono (by decide)) (by rfl) T.m_2 T.F_2.kp T.b_2 .nil zau (zaa (pv 0) (zaa (pv 1) (zaa (pv 3) pa_nil))))) (zar (i:=5) sc_23.nd rfl (Or.inl rfl))
   (zae (zaS (zeo (zap (zdU (K:=K) rfl (zcY hr)) (pv 5) (pv 4) (by with_unfolding_all rfl)) (zcX (zap (op_gt) (zaw (zaf (K:=K) rfl) (pv 2) (zaq (op_sub) (pv 5) zad) (fun _ _=>rfl)) zad (zaC _)))).pt
   (zae (zak (pv 5))) pss_nil)))
   (zae (zak zad))),?_⟩
  obtain ⟨_,a,b,c,d,k,hs,rs,left,row,rfl,h1,h2,h3,h4,B,hl,k1,k2,q⟩:=h;have B1:=B.lp;have B2:=B.lr;symm;refine zcH h1 h2 k1 k2 (by omega) B.r2 fun p H2 f s e=>?_;have h3':=s.seq h3;have h4':=s.seq h4;refine zaT (SqL.of e) ?_;refine zbN (xs:=(zah hs rs k).map V.int) (fun i σ H'=>(∃ v,σ=[some (.ref a),some (.ref b),some (.ref c),some (.int k),some (.ref d),v])∧H'=H2∧∀ j,j < i→okT left row ((zah hs rs k).getD j 0)=false) ⟨⟨none,rfl⟩,rfl,fun j hj=>absurd hj (by omega)⟩ ?_ ?_ ?_
  ·rintro i σ H' _ ⟨_,rfl,_⟩;exact SqL.of e
  ·rintro i y σ H' hy ⟨⟨v,rfl⟩,rfl,hall⟩;obtain ⟨hi,rfl⟩:=zcz hy;obtain ⟨x,x1,x2,x3,_⟩:=zlM hi;symm;have ends:okT left row ((zah hs rs k).getD i 0)=false→∀ j,j < i+1→okT left row ((zah hs rs k).getD j 0)=false:=fun z j hj=>by
    by_cases e:j=i
    ·rw [e];exact z
    ·exact hall j (by omega)
   refine zeq (fun g1=>?_) (fun g1=>?_)
   ·symm;refine zbi (fun g2=>?_) (fun g2=>?_)
    ·symm;have hok:okT left row ((zah hs rs k).getD i 0)=true:=by unfold okT;rw [decide_eq_false g1,decide_eq_true g2];rfl
     rw [← zkv hi hok hall];exact q _ s
    ·symm;exact ⟨⟨_,rfl⟩,rfl,ends (by unfold okT;rw [decide_eq_false g2,Bool.and_false])⟩
   ·symm;refine iteF ?_;symm;exact ⟨⟨_,rfl⟩,rfl,ends (by unfold okT;rw [decide_eq_true g1];rfl)⟩
  ·rintro σ H' ⟨⟨v,rfl⟩,rfl,hall⟩;rw [List.length_map] at hall;symm;rw [← zi4 (left:=left) (row:=row) hall];exact q _ s
theorem zhL {H:Hp} {a b c d:Addr} {k:Int} {hs:List Int} {rs:List (List Int)} {left row:List Int} {Q:VK} {E:XK} (h1:SqL K H a (hs.map V.int)) (h2:LL K H b rs) (h3:SqL K H c (left.map V.int)) (h4:SqL K H d (row.map V.int)) (B:InB hs rs) (hl:left.length=rs.length) (k1:1≤k) (k2:k≤hs.length) (q:∀ H',Same H H'→Q (.int (zbk hs rs left k row)) H'):zeC K [.ref a,.ref b,.ref c,.int k,.ref d] H Q E:=⟨rfl,a,b,c,d,k,hs,rs,left,row,rfl,h1,h2,h3,h4,B,hl,k1,k2,q⟩
def zdg (K:PySem.W.Frag) (C:Addr):Sp:=fun vs H Q _=>vs.length=1∧∃ (x:Addr) (F:Addr→Prop) (st:ExS),vs=[.ref x]∧ExAt C H x F st∧InB st.hs st.rs∧(∀ p H',H p=none→Same H H'→H' p=some (.lst ((zgG st).map V.int))→Q (.ref p) H')
theorem zg1 (T:Txt K mg t):FnOk P w K mg base CX0 3 t.f_38 t.d_38 ["self"] (zdg K t.C_Exam):=by
 have G_8:=zcI (P:=P) (w:=w) (base:=base) T;refine T.F_38.ok sc_38 (fun _ _ _ _ h=>h.1) fun cdv A outer s H vs Q E hr h=>by
  refine ⟨_,(zae (zak (zal G_8 (hr.mono (by decide)) (by rfl) T.m_8 T.F_8.kp T.b_8 .nil zau (zaa (zaF (K:=K) rfl (pv 0)) (zaa (zaF (K:=K) rfl (pv 0)) pa_nil))))),?_⟩;obtain ⟨_,x,F,st,rfl,E0,BB,q⟩:=h;have B1:=BB.lp;have B2:=BB.lr;walk_at "hd";have L:LL K H e.b st.rs:=⟨e.ps,SqL.of hhb,I.lp,I.rp⟩
  have M:LL K H e.c st.nm:=⟨e.qs,SqL.of hhc,I.lq,I.rq⟩
  symm;refine zcJ L M (by omega) (by have:=I.wf.n10 BB;omega) BB.r2 fun p H2 f s z=>?_;exact q p H2 f s z
theorem zhM {K:PySem.W.Frag} {C x:Addr} {H:Hp} {F:Addr→Prop} {st:ExS} {Q:VK} {E:XK} (h:ExAt C H x F st) (B:InB st.hs st.rs) (q:(∀ p H',H p=none→Same H H'→H' p=some (.lst ((zgG st).map V.int))→Q (.ref p) H')):zdg K C [.ref x] H Q E:=⟨rfl,x,F,st,rfl,h,B,q⟩
theorem zhN {K:PySem.W.Frag} {C x:Addr} {H:Hp} {F:Addr→Prop} {st:ExS} {Q:VK} {E:XK} {σ:L2.St} (h:ExAt C H x F st) (B:InB st.hs st.rs) (q:(∀ p H',H p=none→Same H H'→H' p=some (.lst ((zgG st).map V.int))→Q (.ref p) H')):zbm C "left" (zdg K C) E tNil σ (.ref x) H Q:=by
 obtain ⟨dx,fs,e,l⟩:=h.ob;exact zaN e (l _ (by decide +kernel)) (zeF (zhM h B q))
def zcn (K:PySem.W.Frag) (C:Addr):Sp:=fun vs H Q _=>vs.length=2∧∃ (x:Addr) (F:Addr→Prop) (st:ExS) (k:Int),vs=[.ref x,.int k]∧ExAt C H x F st∧InB st.hs st.rs∧st.dl.isSome=true∧1≤k∧k≤st.nm.length∧∀ H' F',ExFr H H' F F'→ExAt C H' x F' (zaK st (k-1).toNat)→Q (.int (zaL st (k-1).toNat)) H'
theorem zd6 (T:Txt K mg t):FnOk P w K mg base CX0 4 t.f_45 t.d_45 ["self","paper"] (zcn K t.C_Exam):=by
 have G_46:=zdH (P:=P) (w:=w) (base:=base) T;have G_23:=zg0 (P:=P) (w:=w) (base:=base) T;have G_38:=zg1 (P:=P) (w:=w) (base:=base) T;refine T.F_45.ok sc_45 (fun _ _ _ _ h=>h.1) fun cdv A outer s H vs Q E hr h=>by
  refine ⟨_,(zab (zaS (za6 (zav (K:=K) rfl (zbf (pv 0) T.cl_Exam T.me_46 G_46 (hr.mono (by decide)) T.b_46 .nil zau (zaa (pv 1) pa_nil)) (fun _=>rfl)))
   (zae (zak zad)) pss_nil)
   (zab (zax (i:=2) sc_45.nd rfl (Or.inl rfl) (zaw (zaf (K:=K) rfl) (zaF (K:=K) rfl (pv 0)) (zaq (op_sub) (pv 1) zad) (fun _ _=>rfl)))
   (zab (zax (i:=3) sc_45.nd rfl (Or.inl rfl) (zal G_23 (hr.mono (by decide)) (by rfl) T.m_23 T.F_23.kp T.b_23 .nil zau (zaa (zaF (K:=K) rfl (pv 0)) (zaa (zaF (K:=K) rfl (pv 0)) (zaa (zbt (pv 0) T.cl_Exam T.me_38 G_38 (hr.mono (by decide)) T.b_38 .nil zau) (zaa (pv 1) (zaa (pv 2) pa_nil)))))))
   (zab (zaS (zap (op_gt) (pv 3) zad (zaC _))
   (zae (zaG (zbp (K:=K) rfl PySem.F.plainAttrs_list PySem.F.slot_list_append PySem.F.type_list_append mt_append (pv 2) (zaa (pv 3) pa_nil)))) pss_nil)
   (zae (zak (pv 3))))))),?_⟩
  obtain ⟨_,x,F,st,k,rfl,E0,BB,hd,k1,k2,q⟩:=h;have B1:=BB.lp;have B2:=BB.lr;have E0':=E0;walk_at "hd";have lq:=I.lq;have ld:=I.ld;have l10:=I.wf.n10 BB;have hk:(k-1).toNat < st.nm.length:=by omega
  have hdic:=I.rd _ hk;have hrow:=I.rq _ hk;have hvk:=I.vk _ hk;have hlr:=(I.wf.row _ hk).len;symm;refine zd5 E0' BB k1 k2 (fun Q z=>zeE (i:=1) rfl z) fun H1 s1=>?_;symm
  cases hn:zbZ st (k-1).toNat with
  | false =>
    refine iteT ?_;have ht:zaL st (k-1).toNat=0:=by unfold zaL;rw [hn];rfl
    have hm:zaK st (k-1).toNat=st:=by unfold zaK;rw [ht];rfl
    rw [ht,hm] at q;symm;exact q H1 F (ExFr.same s1) (E0'.same s1)
  | true =>
    refine iteF ?_;have ht:zaL st (k-1).toNat=zbk st.hs st.rs (zgG st) (((k-1).toNat:Int)+1) (st.nm.getD (k-1).toNat []):=by unfold zaL;rw [hn];rfl
    have ek:((k-1).toNat:Int)+1=k:=by omega
    rw [ek] at ht;have E1:=E0'.same s1;have hob1:=s1 _ _ hob;have hhc1:=s1 _ _ hhc;symm;refine zhN E1 BB fun p2 H2 f2 s2 e2=>?_;have s02:=s1.trans s2;have hrow2:=s02 _ _ hrow;have L:LL K H e.b st.rs:=⟨e.ps,SqL.of hhb,I.lp,I.rp⟩
    symm;refine zhL (SqL.of (s02 _ _ hha)) (L.same s02) (SqL.of e2) (SqL.of hrow2) BB (by unfold zgG za4;rw [List.length_map,List.length_range]) k1 (by have:=I.wf.ln hd;omega) fun H3 s3=>?_;rw [← ht];have s03:=s02.trans s3;have hrow3:=s03 _ _ hrow;symm;refine zbi (fun h0=>?_) (fun h0=>?_)
    ·symm;refine zaI hrow3 (by rw [List.length_map];omega) fun H4 b4 e4=>?_;symm;obtain ⟨d,hdl⟩:=Option.isSome_iff_exists.mp hd;obtain ⟨nm,en⟩:=d;have enm:st.nm=nm:=by unfold ExS.nm;rw [hdl];rfl
     have een:st.en=en:=by unfold ExS.en;rw [hdl];rfl
     have I3:ExIn t.C_Exam H3 e st kvs:=I.keep fun b o _ z=>s03 b o z;have hneed:=hn;unfold zbZ at hneed;simp only [Bool.and_eq_true,decide_eq_true_eq] at hneed;obtain ⟨⟨n1,n2⟩,_⟩:=hneed;obtain ⟨f,s,r1,r2,r3,r4⟩:=I.wf.row _ hk;have hrw:st.nm.getD (k-1).toNat []=[f,s]:=by
      rcases r4 with r4 | ⟨t',r4,_⟩
      ·exact r4
      ·rw [r4] at n1;exact absurd n1 (by simp)
     have h0':0 < zbk st.hs st.rs (zgG st) k (st.nm.getD (k-1).toNat []):=by rw [← ht];exact h0
     have sp:=zed h0';rw [← ht] at sp;have wn:∀ r∈st.nm.getD (k-1).toNat [],(zaE en (k-1).toNat r).isSome=true:=fun r hr=>by
      obtain ⟨p,hp⟩:=zcD n2 hr;rw [een] at hp;rw [hp];rfl
     have hm:zaK st (k-1).toNat={ st with dl:=some (nm.set (k-1).toNat (nm.getD (k-1).toNat []++[zaL st (k-1).toNat]),en) }:=by unfold zaK;rw [if_pos h0,enm,een]
     rw [hm] at q;rw [enm] at hrw hrow3 hk e4 wn sp;have I4:=I3.third (t:=zaL st (k-1).toNat) hdl hk hrw ⟨sp.1,sp.2.1⟩ (by rw [← hrw];exact sp.2.2.1) (wn f (by rw [hrw];simp)) (wn s (by rw [hrw];simp)) b4 e4;exact q H4 F ⟨fun b o eb nb=>by rw [b4 _ (fun z=>nb ((hF _).mpr (by rw [z];exact zlf (zbX (by omega)))))];exact s03 _ _ eb,fun b z=>.inl z⟩ ⟨e,kvs,rfl,hF,I4⟩
    ·symm;have hm:zaK st (k-1).toNat=st:=by unfold zaK;rw [if_neg h0]
     rw [hm] at q;exact q H3 F (ExFr.same s03) (E0'.same s03)
theorem zem {K:PySem.W.Frag} {C x:Addr} {H:Hp} {F:Addr→Prop} {st:ExS} {k:Int} {Q:VK} {E:XK} {σ:L2.St} {tk:TE} (h:ExAt C H x F st) (B:InB st.hs st.rs) (hd:st.dl.isSome=true) (k1:1≤k) (k2:k≤st.nm.length) (hk:∀ Q:VK,Q (.int k) H→tk σ H Q) (q:∀ H' F',ExFr H H' F F'→ExAt C H' x F' (zaK st (k-1).toNat)→Q (.int (zaL st (k-1).toNat)) H'):zbm C "name_third" (zcn K C) E (zgi tk tNil) σ (.ref x) H Q:=by
 obtain ⟨dx,fs,e,l⟩:=h.ob;exact zaN e (l _ (by decide +kernel)) (zfF (hk _ (zeF ⟨rfl,x,F,st,k,rfl,h,B,hd,k1,k2,q⟩)))
def zd7 (K:PySem.W.Frag) (C:Addr):Sp:=fun vs H Q _=>vs.length=4∧∃ (x:Addr) (F:Addr→Prop) (st:ExS) (k r p:Int),vs=[.ref x,.int k,.int r,.int p]∧ExAt C H x F st∧InB st.hs st.rs∧st.dl.isSome=true∧1≤k∧k≤st.nm.length∧r∈zaO st.nm st.en (k-1).toNat∧0≤p∧p≤100∧st.en.length≤900∧∀ H' F',ExFr H H' F F'→ExAt C H' x F' (zaK (entS st (k-1).toNat r p) (k-1).toNat)→Q (.int (zaL (entS st (k-1).toNat r p) (k-1).toNat)) H'
theorem zgd (T:Txt K mg t):FnOk P w K mg base CX0 5 t.f_29 t.d_29 ["self","paper","reader","points"] (zd7 K t.C_Exam):=by
 have G_40:=zbQ (P:=P) (w:=w) (base:=base) T;have G_20:=zbP (P:=P) (w:=w) (base:=base) T;have G_41:=zcV (P:=P) (w:=w) (base:=base) T;have G_21:=zbb (P:=P) (w:=w) (base:=base) T;have G_45:=zd6 (P:=P) (w:=w) (base:=base) T;refine T.F_29.ok sc_29 (fun _ _ _ _ h=>h.1) fun cdv A outer s H vs Q E hr h=>by
  refine ⟨_,(zab (zaG (zbt (pv 0) T.cl_Exam T.me_40 G_40 (hr.mono (by decide)) T.b_40 .nil zau))
   (zab (zaG (zal G_20 (hr.mono (by decide)) (by rfl) T.m_20 T.F_20.kp T.b_20 .nil zau (zaa (pv 1) (zaa zad (zaa (zag (zai (K:=K) rfl) (by rfl) T.z_len (by rfl) (zaa (zaF (K:=K) rfl (pv 0)) pa_nil)) pa_nil)))))
   (zab (zaG (zal G_20 (hr.mono (by decide)) (by rfl) T.m_20 T.F_20.kp T.b_20 .nil zau (zaa (pv 2) (zaa zad (zaa (zag (zai (K:=K) rfl) (by rfl) T.z_len (by rfl) (zaa (zaF (K:=K) rfl (pv 0)) pa_nil)) pa_nil)))))
   (zab (zaG (zbf (pv 0) T.cl_Exam T.me_41 G_41 (hr.mono (by decide)) T.b_41 .nil zau (zaa (pv 1) (zaa (pv 2) pa_nil))))
   (zab (zaG (zal G_21 (hr.mono (by decide)) (by rfl) T.m_21 T.F_21.kp T.b_21 .nil zau (zaa (pv 3) (zaa (zcW (v:=.int 100) (by rfl) T.v_MOST_POINTS T.w_MOST_POINTS) pa_nil))))
   (zab (zjF (zcY hr) (zaw (zaf (K:=K) rfl) (zaF (K:=K) rfl (pv 0)) (zaq (op_sub) (pv 1) zad) (fun _ _=>rfl)) (pv 2) (pv 3) rfl)
   (zae (zak (zbf (pv 0) T.cl_Exam T.me_45 G_45 (hr.mono (by decide)) T.b_45 .nil zau (zaa (pv 1) pa_nil)))))))))),?_⟩
  obtain ⟨_,x,F,st,k,r,p,rfl,E0,BB,hd,k1,k2,hr',p0,p1,h900,q⟩:=h;have B1:=BB.lp;have B2:=BB.lr;have E0':=E0;walk_at "hd";have lq:=I.lq;have ld:=I.ld;have l10:=I.wf.n10 BB;have hk:(k-1).toNat < st.nm.length:=by omega
  have hdic:=I.rd _ hk;have hrow:=I.rq _ hk;have hvk:=I.vk _ hk;have hlr:=(I.wf.row _ hk).len;have hln:=I.wf.ln hd;have hrr:=(I.wf.row _ hk).rng (List.mem_filter.mp hr').1;have lp:=I.lp;symm;refine zdG E0' hd ?_;symm;refine zbw (by omega) (by omega) ?_;symm;refine zbw (by omega) (by omega) ?_;symm;refine zaN hob (zka (zfL (by decide +kernel))) ?_;symm;refine zdf E0' BB k1 k2 hr' fun H1 s1=>?_;symm;refine zbg (by omega) (by omega) ?_;have hob1:=s1 _ _ hob;have hhd1:=s1 _ _ hhd;have hdic1:=s1 _ _ hdic;have hsk:=I.sk _ hk;symm;refine ziL hdic1 (by omega) fun H2 b2 e2=>?_;obtain ⟨d,hdl⟩:=Option.isSome_iff_exists.mp hd;obtain ⟨nm,en⟩:=d;have enm:st.nm=nm:=by unfold ExS.nm;rw [hdl];rfl
  have een:st.en=en:=by unfold ExS.en;rw [hdl];rfl
  have I1:ExIn t.C_Exam H1 e st kvs:=I.keep fun b o _ z=>s1 b o z;have I2:=I1.enter (k:=(k-1).toNat) (r:=r) (pts:=p) hdl (by rw [← enm];exact hk) ⟨p0,p1⟩ b2 e2;have e2':entS st (k-1).toNat r p={ st with dl:=some (nm,en++[[((k-1).toNat:Int)+1,r,p]]) }:=by unfold entS;rw [enm,een]
  rw [← e2'] at I2;have E2:ExAt t.C_Exam H2 e.x F (entS st (k-1).toNat r p):=⟨e,_,rfl,hF,I2⟩
  have nm2:(entS st (k-1).toNat r p).nm=st.nm:=rfl;symm;refine zem E2 BB rfl k1 (by rw [nm2];exact k2) (fun Q z=>zeE (i:=1) rfl z) fun H3 F3 f3 E3=>?_;refine q H3 F3 (ExFr.trans ?_ f3) E3;exact ⟨fun b o eb nb=>by rw [b2 _ (fun z=>nb ((hF _).mpr (by rw [z];exact zia (zbX (by omega)))))];exact s1 _ _ eb,fun b z=>.inl z⟩
theorem zg2 {K:PySem.W.Frag} {C x:Addr} {H:Hp} {F:Addr→Prop} {st:ExS} {k r p:Int} {Q:VK} {E:XK} (h:ExAt C H x F st) (B:InB st.hs st.rs) (hd:st.dl.isSome=true) (k1:1≤k) (k2:k≤st.nm.length) (hr:r∈zaO st.nm st.en (k-1).toNat) (p0:0≤p) (p1:p≤100) (h9:st.en.length≤900) (q:∀ H' F',ExFr H H' F F'→ExAt C H' x F' (zaK (entS st (k-1).toNat r p) (k-1).toNat)→Q (.int (zaL (entS st (k-1).toNat r p) (k-1).toNat)) H'):zd7 K C [.ref x,.int k,.int r,.int p] H Q E:=⟨rfl,x,F,st,k,r,p,rfl,h,B,hd,k1,k2,hr,p0,p1,h9,q⟩
end
end Prf
namespace Prf
open PySem PySem.Spec PyProof.Rows L2
section
variable {P:Program} {w:World} {K:PySem.W.Frag} {mg:Str→Option Value} {base:Heap} {t:Adr}
local macro_rules | `(tactic| walk_at "rd1")=>`(tactic| ((with_reducible refine' zij ?h1 ?h2 ?_);(case h1=>walk_at "hp");(case h2=>omega)))
local macro_rules | `(tactic| walk_at "rd1")=>`(tactic| (with_reducible refine zfe ?_))
local macro_rules | `(tactic| walk_at "rd1")=>`(tactic| (with_reducible refine zfl ?_))
theorem zoy {st:ExS} {E:List E3} {j:Nat} {d:E3} (o:okS st E) (hj:j < E.length):okE (runS st (E.take j)) (E.getD j d):=by
 have e:E=(E.take j++[E.getD j d])++E.drop (j+1):=by
  rw [← zgM hj,List.take_append_drop]
 rw [e] at o;exact ((ok_snoc _ _ _).mp (zf8 o)).2
theorem zlN {st:ExS}:∀ {es:List E3},st.dl.isSome=true→(runS st es).dl.isSome=true
 | [],h=>h
 | e::es,_=>zlN (st:=zby st e) zko
def zdw (K:PySem.W.Frag) (C:Addr):Sp:=fun vs H Q _=>vs.length=2∧∃ (x d:Addr) (F:Addr→Prop) (st:ExS) (es:List Addr) (E:List E3),vs=[.ref x,.ref d]∧ExAt C H x F st∧InB st.hs st.rs∧st.dl.isSome=true∧zhq H F d es (E.map rowE)∧okS st E∧st.en.length+E.length≤800∧∀ H' F',ExFr H H' F F'→ExAt C H' x F' (runS st E)→Q (.bl true) H'
theorem zfy (T:Txt K mg t):FnOk P w K mg base CX0 6 t.f_68 t.d_68 ["_law_exam_here","_law_entries"] (zdw K t.C_Exam):=by
 have G_29:=zgd (P:=P) (w:=w) (base:=base) T;have G_48:=zdd (P:=P) (w:=w) (base:=base) T;refine T.F_68.ok sc_68 (fun _ _ _ _ h=>h.1) fun cdv A outer s H vs Q E hr h=>by
  refine ⟨_,(zab (zaZ PassesOwn.never rfl (zaJ (K:=K) rfl (pv 1)) (zar (i:=2) sc_68.nd rfl (Or.inl rfl))
   (zab (zmE (fun _ _ z=>z) (zae (zax (i:=3) sc_68.nd rfl (Or.inl rfl) (zbf (pv 0) T.cl_Exam T.me_29 G_29 (hr.mono (by decide)) T.b_29 .nil zau (zaa (zaw (zaf (K:=K) rfl) (pv 2) zad (fun _ _=>rfl)) (zaa (zaw (zaf (K:=K) rfl) (pv 2) zad (fun _ _=>rfl)) (zaa (zaw (zaf (K:=K) rfl) (pv 2) zad (fun _ _=>rfl)) pa_nil)))))))
   (zae (zaS (za6 (zav (K:=K) rfl (zal G_48 (hr.mono (by decide)) (by rfl) T.m_48 T.F_48.kp T.b_48 .nil zau (zaa (pv 3) pa_nil)) (fun _=>rfl)))
   (zae (zak za3)) pss_nil))))
   (zae (zak za3))),?_⟩
  obtain ⟨_,x,d,F,st,es,E,rfl,E0,BB,hd,RO,ok,h8,q⟩:=h;have hel:es.length=E.length:=by rw [RO.2.2.1,List.length_map]
  have ed:=RO.1;symm;refine zaT (SqL.of ed) ?_;refine zbN (xs:=es.map V.ref) (fun j σ H'=>∃ (F':Addr→Prop) (v2 v3:Option V),σ=[some (.ref x),some (.ref d),v2,v3]∧ExFr H H' F F'∧ExAt t.C_Exam H' x F' (runS st (E.take j))) ⟨F,none,none,rfl,ExFr.same (Same.refl H),E0⟩ ?_ ?_ ?_
  ·rintro j σ H' _ ⟨F',_,_,_,fr,_⟩;exact SqL.of (RO.fr fr).1
  ·rintro j y σ H' hy ⟨F',v2,v3,rfl,fr,E1⟩;obtain ⟨hj,rfl⟩:=zfZ hy;have hjE:j < E.length:=by omega
   have okj:=zoy (d:=((0:Nat),(0:Int),(0:Int))) ok hjE;have hrow:=((RO.fr fr).2.2.2 j (by rw [List.length_map];exact hjE)).1;have er:(E.map rowE).getD j []=rowE (E.getD j ((0:Nat),(0:Int),(0:Int))):=by
    rw [List.getD_eq_getElem?_getD,List.getElem?_map,List.getElem?_eq_getElem hjE,List.getD_eq_getElem?_getD,List.getElem?_eq_getElem hjE];rfl
   rw [er] at hrow;have htk:E.take (j+1)=E.take j++[E.getD j ((0:Nat),(0:Int),(0:Int))]:=zgM hjE;obtain ⟨g1,g2,g3,g4⟩:=zcO st (E.take j);have gl:(runS st (E.take j)).en.length≤900:=by
    rw [zlI,List.length_append,List.length_map,List.length_take];omega
   have hdl:=zlN (es:=E.take j) hd;have BBj:InB (runS st (E.take j)).hs (runS st (E.take j)).rs:=by rw [g1,g2];exact BB
   generalize E.getD j ((0:Nat),(0:Int),(0:Int))=e at *;obtain ⟨k,r,pt⟩:=e;have hrow:H' (es.getD j 0)=some (.lst [.int ((k:Int)+1),.int r,.int pt]):=hrow;generalize es.getD j 0=oj at *;obtain ⟨o1,o2,o3,o4⟩:=okj;have ek:((k:Int)+1-1).toNat=k:=by omega
   have o1:k < (runS st (E.take j)).nm.length:=o1;obtain ⟨dx4,fs4,hob4,hlk4⟩:=E1.ob;symm;refine zaN hob4 (hlk4 _ (by decide +kernel)) ?_;symm;refine zg2 E1 BBj hdl (by omega) (by omega) (by rw [ek];exact o2) o3 o4 gl fun J5 F5 f5 E5=>?_;rw [ek] at E5 ⊢;symm;refine iteF ?_;symm;refine ⟨F5,_,_,rfl,fr.trans f5,?_⟩;rw [htk,zcE];exact E5
  ·rintro σ H' ⟨F',v2,v3,rfl,fr,E1⟩;rw [List.length_map,hel,List.take_length] at E1;symm;exact q H' F' fr E1
theorem zd8 {C x d:Addr} {H:Hp} {F:Addr→Prop} {st:ExS} {es:List Addr} (E:List E3) {Q:VK} {E':XK} (E0:ExAt C H x F st) (BB:InB st.hs st.rs) (hd:st.dl.isSome=true) (RO:zhq H F d es (E.map rowE)) (ok:okS st E) (h8:st.en.length+E.length≤800) (q:∀ H' F',ExFr H H' F F'→ExAt C H' x F' (runS st E)→Q (.bl true) H'):zdw K C [.ref x,.ref d] H Q E':=⟨rfl,x,d,F,st,es,E,rfl,E0,BB,hd,RO,ok,h8,q⟩
def apK (tab:List (List Int)) (stp:Int) (k:Nat):Bool:=!zbF ((tab.getD k []).getD 0 0) ((tab.getD k []).getD 1 0) stp
theorem zfz {α β:Type} {f:α→β} {M:List α} {i:Nat} {d:α} {d':β} (h:i < M.length):(M.map f).getD i d'=f (M.getD i d):=by
 rw [List.getD_eq_getElem?_getD,List.getElem?_map,List.getElem?_eq_getElem h,List.getD_eq_getElem?_getD,List.getElem?_eq_getElem h];rfl
def kOf (H:Hp) (v:V):Nat:=match v with
 | .ref a=>match H a with
   | some (.lst (.int x::_))=>(x-1).toNat
   | _=>0
 | _=>0
theorem ziq {H:Hp} {a:Addr} {e:E3} (h:H a=some (.lst ((rowE e).map V.int))):kOf H (.ref a)=e.1:=by
 show (match H a with
  | some (.lst (.int x::_))=>(x-1).toNat
  | _=>0)=e.1
 rw [h];show ((e.1:Int)+1-1).toNat=e.1;omega
theorem zi5 {α:Type} {xs:List α} {i:Nat} {d:α} (h:i < xs.length):xs.Perm (xs.getD i d::xs.eraseIdx i):=by
 induction xs generalizing i with
 | nil=>exact absurd h (by simp)
 | cons x xs ih =>
   cases i with
   | zero=>exact List.Perm.refl _
   | succ i =>
     have h':i < xs.length:=by simpa using h
     exact ((ih h').cons x).trans (List.Perm.swap _ _ _)
def zcc (K:PySem.W.Frag):Sp:=fun vs H Q _=>vs.length=4∧∃ (sc tb d:Addr) (ns:List Int) (tab:List (List Int)) (stp:Int) (M:List (Addr×E3)),vs=[.ref sc,.int stp,.ref tb,.ref d]∧SqL K H sc (ns.map V.int)∧ns.length≤63∧LL K H tb tab∧(∀ i,i < tab.length→(tab.getD i []).length=3)∧tab.length≤10∧H d=some (.lst (M.map fun p=>V.ref p.1))∧(∀ p∈M,H p.1=some (.lst ((rowE p.2).map V.int))∧p.2.1 < tab.length)∧M.length≤30∧∀ pm H' (N:List (Addr×E3)),H pm=none→Same H H'→H' pm=some (.lst (N.map fun p=>V.ref p.1))→(N.filter fun p=>apK tab stp p.2.1)=(M.filter fun p=>apK tab stp p.2.1)→(N.filter fun p=>!apK tab stp p.2.1).Perm (M.filter fun p=>!apK tab stp p.2.1)→Q (.ref pm) H'
theorem zdI (T:Txt K mg t):FnOk P w K mg base CX0 2 t.f_67 t.d_67 ["_law_script","_law_step_here","_law_table_here","_law_entries"] (zcc K):=by
 have G_47:=zdc (P:=P) (w:=w) (base:=base) T;refine T.F_67.ok sc_67 (fun _ _ _ _ h=>h.1) fun cdv A outer s H vs Q E hr h=>by
  refine ⟨_,(zab (zax (i:=4) sc_67.nd rfl (Or.inr rfl) (za7 (zas (sc:=zac s_67) (XN:=["_law_script","_law_step_here","_law_table_here","_law_entries","_law_apart","_law_calm","_law_made","_law_k","_law_cell"]) (N:=["_law_one","_law_table_here","_law_step_here"]) (own:=1) (js:=[2,1]) rfl rfl (by decide +kernel)) rfl (zaJ (K:=K) rfl (pv 3)) (fun _ _ _ _ _=>(zar (i:=0) (show List.Nodup [(Str.ofString "_law_one"),(Str.ofString "_law_table_here"),(Str.ofString "_law_step_here")] by decide +kernel) rfl (Or.inl rfl))) (fun _ _ _ _ _=>(zb5 (zap (op_gt) (zag (call_abs) (by rfl) T.z_abs (by rfl) (zaa (zaq (op_sub) (zaw (zaf (K:=K) rfl) (zaw (zaf (K:=K) rfl) (pv 1) (zaq (op_sub) (zaw (zaf (K:=K) rfl) (pv 0) zad (fun _ _=>rfl)) zad) (fun _ _=>rfl)) zad (fun _ _=>rfl)) (zaw (zaf (K:=K) rfl) (zaw (zaf (K:=K) rfl) (pv 1) (zaq (op_sub) (zaw (zaf (K:=K) rfl) (pv 0) zad (fun _ _=>rfl)) zad) (fun _ _=>rfl)) zad (fun _ _=>rfl))) pa_nil)) (pv 2) (zaC _)))) (fun _ _ _ _ _=>(pv 0))))
   (zab (zb3 (i:=5) sc_67.nd rfl (Or.inl rfl) (by rfl) (zas (sc:=zac s_67) (XN:=["_law_script","_law_step_here","_law_table_here","_law_entries","_law_apart","_law_calm","_law_made","_law_k","_law_cell"]) (N:=["_law_one","_law_apart"]) (own:=1) (js:=[4]) rfl rfl (by decide +kernel)) rfl (zaJ (K:=K) rfl (pv 3)) (fun _ _ _ _ _=>(zar (i:=0) (show List.Nodup [(Str.ofString "_law_one"),(Str.ofString "_law_apart")] by decide +kernel) rfl (Or.inl rfl))) (fun _ _ _ _ _=>(zb5 (zap (zdU (K:=K) rfl (zcY hr)) (pv 0) (pv 1) (by with_unfolding_all rfl)))) (fun _ _ _ _ _=>(pv 0)))
   (zab (zax (i:=6) sc_67.nd rfl (Or.inl rfl) (zaM pa_nil))
   (zab (zaZ PassesOwn.never rfl (zaW (by rfl) T.z_range (zaa (zag (zai (K:=K) rfl) (by rfl) T.z_len (by rfl) (zaa (pv 3) pa_nil)) pa_nil)) (zar (i:=7) sc_67.nd rfl (Or.inl rfl))
   (zab (zax (i:=8) sc_67.nd rfl (Or.inl rfl) (zaq (op_fdivB) (zal G_47 (hr.mono (by decide)) (by rfl) T.m_47 T.F_47.kp T.b_47 .nil zau (zaa (pv 0) (zaa (zaq (op_addG) zad (pv 7)) pa_nil))) zad))
   (zae (zaS (zcs (zap (zbK (K:=K) rfl hr.units0) (pv 5) (zaM pa_nil) (zaC _)) (zbS (zeo (zap (zcN (K:=K) rfl hr.units0) (pv 4) (zaM pa_nil) (zaC _)) (zcX (zap (zbK (K:=K) rfl hr.units0) (zaq (op_mod) (pv 8) zad) zad (zaC _)))).pt)).pt
   (zae (zaG (zbp (K:=K) rfl PySem.F.plainAttrs_list PySem.F.slot_list_append PySem.F.type_list_append mt_append (pv 6) (zaa (zbp (K:=K) rfl PySem.F.plainAttrs_list PySem.F.slot_list_pop PySem.F.type_list_pop mt_popAt (pv 4) (zaa zad pa_nil)) pa_nil)))) (zae (zaG (zbp (K:=K) rfl PySem.F.plainAttrs_list PySem.F.slot_list_append PySem.F.type_list_append mt_append (pv 6) (zaa (zbp (K:=K) rfl PySem.F.plainAttrs_list PySem.F.slot_list_pop PySem.F.type_list_pop mt_popAt (pv 5) (zaa (zaq (op_mod) (zaq (op_fdivB) (pv 8) zad) (zag (zai (K:=K) rfl) (by rfl) T.z_len (by rfl) (zaa (pv 5) pa_nil))) pa_nil)) pa_nil))))))))
   (zae (zak (pv 6))))))),?_⟩
  obtain ⟨_,sc,tb,d,ns,tab,stp,M,rfl,hS,hl,LT,ht3,ht10,ed,hM,hM30,q⟩:=h;obtain ⟨pt,ht1,ht2,htr⟩:=id LT;symm;refine zaT (SqL.of ed) ?_;refine zdQ (SqL.of ed) (by rw [List.length_map];omega) (fun v=>apK tab stp (kOf H v)) (fun i H' Q' hi s' q'=>?_) fun p1 H1 f1 s1 e1=>?_
  ·rw [List.length_map] at hi;have hm:=hM _ (getD_mem (d:=((0:Addr),(0:Nat),(0:Int),(0:Int))) hi);rw [zfz (d:=((0:Addr),(0:Nat),(0:Int),(0:Int))) hi];rw [zfz (d:=((0:Addr),(0:Nat),(0:Int),(0:Int))) hi] at q';generalize M.getD i ((0:Addr),(0:Nat),(0:Int),(0:Int))=P at *;obtain ⟨hm1,hm2⟩:=hm;rw [ziq hm1] at q';obtain ⟨pa,k,r,pp⟩:=P;have hm1:H pa=some (.lst [.int ((k:Int)+1),.int r,.int pp]):=hm1;have hm1':=s' _ _ hm1;have hm2:k < tab.length:=hm2;have ek:((k:Int)+1-1).toNat=k:=by omega
   have htk:=s' _ _ (htr k hm2);have h3:=ht3 k hm2;have ht':=s'.seq ht1;symm;rw [ek];symm;rw [ek];symm;refine ⟨_,rfl,?_⟩;symm;have hb:decide (stp < (if (tab.getD k []).getD 0 0-(tab.getD k []).getD 1 0 < 0 then -((tab.getD k []).getD 0 0-(tab.getD k []).getD 1 0) else (tab.getD k []).getD 0 0-(tab.getD k []).getD 1 0))=apK tab stp k:=by
    unfold apK zbF;rw [Bool.eq_iff_iff,decide_eq_true_iff,Bool.not_eq_true',decide_eq_false_iff_not];split <;> omega
   have q2:Q' (apK tab stp k) H':=q';rw [← hb] at q2;exact q2
  have ef:((M.map fun p=>V.ref p.1).filter fun v=>apK tab stp (kOf H v))=((M.filter fun p=>apK tab stp p.2.1).map fun p=>V.ref p.1):=by
   rw [List.filter_map]
   congr 1
   refine List.filter_congr fun p hp=>?_;show apK tab stp (kOf H (.ref p.1))=_;rw [ziq (hM p hp).1]
  rw [ef] at e1;have ed1:=s1 _ _ ed;have LA1:LL K H1 p1 ((M.filter fun p=>apK tab stp p.2.1).map fun p=>rowE p.2):=by
   refine ⟨(M.filter fun p=>apK tab stp p.2.1).map Prod.fst,SqL.of (by rw [e1,List.map_map];rfl),by rw [List.length_map,List.length_map],fun i hi=>?_⟩;rw [List.length_map] at hi;rw [zfz (d:=((0:Addr),(0:Nat),(0:Int),(0:Int))) hi,zfz (d:=((0:Addr),(0:Nat),(0:Int),(0:Int))) hi];have hm:=(List.mem_filter.mp (getD_mem (d:=((0:Addr),(0:Nat),(0:Int),(0:Int))) hi)).1;exact s1 _ _ (hM _ hm).1
  symm;refine zaT (SqL.of ed1) ?_;refine zdQ (SqL.of ed1) (by rw [List.length_map];omega) (fun v=>!apK tab stp (kOf H v)) (fun i H' Q' hi s' q'=>?_) fun p2 H2 f2 s2 e2=>?_
  ·rw [List.length_map] at hi;have hmm:=getD_mem (d:=((0:Addr),(0:Nat),(0:Int),(0:Int))) hi;have hm:=hM _ hmm;rw [zfz (d:=((0:Addr),(0:Nat),(0:Int),(0:Int))) hi];rw [zfz (d:=((0:Addr),(0:Nat),(0:Int),(0:Int))) hi] at q';generalize M.getD i ((0:Addr),(0:Nat),(0:Int),(0:Int))=P at *;obtain ⟨hm1,hm2⟩:=hm;rw [ziq hm1] at q';have hm1':=s' _ _ (s1 _ _ hm1);symm;refine zkk hm1' (LA1.same s') ?_;symm;have hb:decide (rowE P.2∈(M.filter fun p=>apK tab stp p.2.1).map fun p=>rowE p.2)=apK tab stp P.2.1:=by
    rw [Bool.eq_iff_iff,decide_eq_true_iff];constructor
    ·intro z;obtain ⟨p,hp,e⟩:=List.mem_map.mp z;rw [← zmD e];exact (List.mem_filter.mp hp).2
    ·intro z;exact List.mem_map.mpr ⟨P,List.mem_filter.mpr ⟨hmm,z⟩,rfl⟩
   rw [hb];exact q'
  have ef2:((M.map fun p=>V.ref p.1).filter fun v=>!apK tab stp (kOf H v))=((M.filter fun p=>!apK tab stp p.2.1).map fun p=>V.ref p.1):=by
   rw [List.filter_map]
   congr 1
   refine List.filter_congr fun p hp=>?_;show (!apK tab stp (kOf H (.ref p.1)))=_;rw [ziq (hM p hp).1]
  rw [ef2] at e2;symm;refine zat (by decide) fun p3 H3 f3 s3 e3=>?_;have s02:=s1.trans s2;have s03:=s02.trans s3;have e13:=s3 _ _ (s2 _ _ e1);have e23:=s3 _ _ e2;have n12:p1≠p2:=fun z=>by rw [z,f2] at e1;cases e1
  have n13:p1≠p3:=fun z=>by have:=s2 _ _ e1;rw [z,f3] at this;cases this
  have n23:p2≠p3:=fun z=>by rw [z,f3] at e2;cases e2
  have hp10:H p1=none:=f1;have hp20:H p2=none:=s1.free f2;have hp30:H p3=none:=s02.free f3;have ed3:=s03 _ _ ed;have hlen:(M.filter fun p=>apK tab stp p.2.1).length+(M.filter fun p=>!apK tab stp p.2.1).length=M.length:=by
   have:=(List.filter_append_perm (fun p:Addr×E3=>apK tab stp p.2.1) M).length_eq;rw [List.length_append] at this;exact this
  symm;refine zbU (by rw [List.length_map];omega) (by rw [List.length_map];omega) ?_;have enM:(((M.map fun p=>V.ref p.1).length:Nat):Int).toNat=M.length:=by rw [List.length_map];omega
  try rw [enM]
  refine zbV (fun i σ H'=>∃ (A C N:List (Addr×E3)) (v7 v8:Option V),σ=[some (.ref sc),some (.int stp),some (.ref tb),some (.ref d),some (.ref p1),some (.ref p2),some (.ref p3),v7,v8]∧Same H H'∧H' p1=some (.lst (A.map fun p=>V.ref p.1))∧H' p2=some (.lst (C.map fun p=>V.ref p.1))∧H' p3=some (.lst (N.map fun p=>V.ref p.1))∧(∀ p∈A,apK tab stp p.2.1=true)∧(∀ p∈C,apK tab stp p.2.1=false)∧(N.filter fun p=>apK tab stp p.2.1)++A=(M.filter fun p=>apK tab stp p.2.1)∧((N.filter fun p=>!apK tab stp p.2.1)++C).Perm (M.filter fun p=>!apK tab stp p.2.1)∧N.length=i∧N.length+A.length+C.length=M.length) ⟨_,_,[],none,none,rfl,s03,e13,e23,e3,fun p hp=>(List.mem_filter.mp hp).2,fun p hp=>by have:=(List.mem_filter.mp hp).2;simpa using this,rfl,List.Perm.refl _,rfl,by rw [← hlen];simp⟩ ?_ ?_
  ·rintro i σ H' hi ⟨A,C,N,v7,v8,rfl,s,eA,eC,eN,hA,hC,hfA,hfC,hN,hT⟩;have hS':=s.seq hS;have stepA:∀ J,(∃ a A',A=a::A'∧J p1=some (.lst (A'.map fun p=>V.ref p.1))∧J p2=some (.lst (C.map fun p=>V.ref p.1))∧J p3=some (.lst ((N++[a]).map fun p=>V.ref p.1))∧Same H J)→∃ (A C N:List (Addr×E3)),Same H J∧J p1=some (.lst (A.map fun p=>V.ref p.1))∧J p2=some (.lst (C.map fun p=>V.ref p.1))∧J p3=some (.lst (N.map fun p=>V.ref p.1))∧(∀ p∈A,apK tab stp p.2.1=true)∧(∀ p∈C,apK tab stp p.2.1=false)∧(N.filter fun p=>apK tab stp p.2.1)++A=(M.filter fun p=>apK tab stp p.2.1)∧((N.filter fun p=>!apK tab stp p.2.1)++C).Perm (M.filter fun p=>!apK tab stp p.2.1)∧N.length=i+1∧N.length+A.length+C.length=M.length:=by
    rintro J ⟨a,A',rfl,j1,j2,j3,sJ⟩;have ha:=hA a (by simp);refine ⟨A',C,N++[a],sJ,j1,j2,j3,fun p hp=>hA p (List.mem_cons_of_mem _ hp),hC,?_,?_,by rw [List.length_append,List.length_singleton,hN],by rw [List.length_append,List.length_singleton];rw [List.length_cons] at hT;omega⟩
    ·rw [List.filter_append,List.filter_cons,if_pos ha,List.filter_nil,List.append_assoc];exact hfA
    ·rw [List.filter_append,List.filter_cons,if_neg (by rw [ha];decide),List.filter_nil,List.append_nil];exact hfC
   symm;generalize zbJ ns (31+(0+(i:Int)))=cc;refine zat (by decide) fun w1 J1 g1 t1 x1=>?_;symm;refine zlD (SqL.of (t1 _ _ eC)) (SqL.of x1) ?_;have stepC:∀ J ii,ii < C.length→J p1=some (.lst (A.map fun p=>V.ref p.1))→J p2=some (.lst ((C.eraseIdx ii).map fun p=>V.ref p.1))→J p3=some (.lst ((N++[C.getD ii ((0:Addr),(0:Nat),(0:Int),(0:Int))]).map fun p=>V.ref p.1))→Same H J→∃ (A C N:List (Addr×E3)),Same H J∧J p1=some (.lst (A.map fun p=>V.ref p.1))∧J p2=some (.lst (C.map fun p=>V.ref p.1))∧J p3=some (.lst (N.map fun p=>V.ref p.1))∧(∀ p∈A,apK tab stp p.2.1=true)∧(∀ p∈C,apK tab stp p.2.1=false)∧(N.filter fun p=>apK tab stp p.2.1)++A=(M.filter fun p=>apK tab stp p.2.1)∧((N.filter fun p=>!apK tab stp p.2.1)++C).Perm (M.filter fun p=>!apK tab stp p.2.1)∧N.length=i+1∧N.length+A.length+C.length=M.length:=by
    intro J ii hii j1 j2 j3 sJ;have ha:=hC _ (getD_mem (d:=((0:Addr),(0:Nat),(0:Int),(0:Int))) hii);have hpm:=zi5 (d:=((0:Addr),(0:Nat),(0:Int),(0:Int))) hii;have hel:=hpm.length_eq;rw [List.length_cons] at hel;refine ⟨A,C.eraseIdx ii,N++[C.getD ii ((0:Addr),(0:Nat),(0:Int),(0:Int))],sJ,j1,j2,j3,hA,fun p hp=>hC p (hpm.mem_iff.mpr (List.mem_cons_of_mem _ hp)),?_,?_,by rw [List.length_append,List.length_singleton,hN],by rw [List.length_append,List.length_singleton];omega⟩
    ·rw [List.filter_append,List.filter_cons,if_neg (by rw [ha];decide),List.filter_nil,List.append_nil];exact hfA
    ·rw [List.filter_append,List.filter_cons,if_pos (by rw [ha];rfl),List.filter_nil,List.append_assoc];exact (List.Perm.append_left _ hpm.symm).trans hfC
   have goA:∀ J,Same H' J→A≠[]→∃ a0 A',A=a0::A'∧J p1=some (.lst (V.ref a0.1::A'.map fun p=>V.ref p.1)):=fun J t hne=>by
    obtain ⟨a0,A',hAe⟩:=List.exists_cons_of_ne_nil hne;exact ⟨a0,A',hAe,by have:=t _ _ eA;rw [hAe] at this;exact this⟩
   symm;refine zbi (fun g=>?_) (fun g=>?_)
   ·have hC0:C=[]:=by simpa using g
    have hA0:A≠[]:=fun z=>by rw [z,hC0] at hT;simp at hT;omega
    obtain ⟨a0,A',hAe,eAj⟩:=goA J1 t1 hA0;have eNj:=t1 _ _ eN;have eCj:=t1 _ _ eC;refine iteT ?_;symm;refine zdj eAj (by decide) (by simp only [List.length_cons];omega) (by decide) fun Ja ba xa=>?_;have xa:Ja p1=some (.lst (A'.map fun p=>V.ref p.1)):=xa;have eNa:Ja p3=some (.lst (N.map fun p=>V.ref p.1)):=by rw [ba _ n13.symm];exact eNj
    symm;refine zaI eNa (by rw [List.length_map];omega) fun Jb bb xb=>?_;obtain ⟨A2,C2,N2,hrest⟩:=stepA Jb ⟨a0,A',hAe,by rw [bb _ n13];exact xa,by rw [bb _ n23,ba _ n12.symm];exact eCj,by rw [xb,List.map_append];rfl,((s.trans t1).but ba hp10).but bb hp30⟩;symm;exact ⟨A2,C2,N2,_,_,rfl,hrest⟩
   have hCne:C≠[]:=fun z=>g (by rw [z];rfl);have hCpos:0 < C.length:=List.length_pos_iff.mpr hCne;have doC:∀ J,Same H' J→J p3=some (.lst (N.map fun p=>V.ref p.1))∧J p2=some (.lst (C.map fun p=>V.ref p.1))∧J p1=some (.lst (A.map fun p=>V.ref p.1))∧Same H J:=fun J t=>⟨t _ _ eN,t _ _ eC,t _ _ eA,s.trans t⟩
   symm;refine zat (by decide) fun w2 J2 g2 t2 x2=>?_;have t12:=t1.trans t2;symm;refine znT (SqL.of (t12 _ _ eA)) (SqL.of x2) ?_;symm;refine zeq (fun ga=>?_) (fun ga=>?_)
   ·have hA0:A≠[]:=fun z=>ga (by rw [z];rfl);symm;refine zbi (fun gc=>?_) (fun gc=>?_)
    ·obtain ⟨a0,A',hAe,eAj⟩:=goA J2 t12 hA0;have eNj:=t12 _ _ eN;have eCj:=t12 _ _ eC;symm;refine zdj eAj (by decide) (by simp only [List.length_cons];omega) (by decide) fun Ja ba xa=>?_;have xa:Ja p1=some (.lst (A'.map fun p=>V.ref p.1)):=xa;have eNa:Ja p3=some (.lst (N.map fun p=>V.ref p.1)):=by rw [ba _ n13.symm];exact eNj
     symm;refine zaI eNa (by rw [List.length_map];omega) fun Jb bb xb=>?_;obtain ⟨A2,C2,N2,hrest⟩:=stepA Jb ⟨a0,A',hAe,by rw [bb _ n13];exact xa,by rw [bb _ n23,ba _ n12.symm];exact eCj,by rw [xb,List.map_append];rfl,((s.trans t12).but ba hp10).but bb hp30⟩;symm;exact ⟨A2,C2,N2,_,_,rfl,hrest⟩
    ·obtain ⟨eNj,eCj,eAj,sj⟩:=doC J2 t12;symm
     try rw [List.length_map]
     have hm0:=Int.emod_nonneg (cc / 32 / 2) (show ((C.length:Nat):Int)≠0 by omega);have hm1:=Int.emod_lt_of_pos (cc / 32 / 2) (show (0:Int) < ((C.length:Nat):Int) by omega);symm;generalize hii:cc / 32 / 2 % ((C.length:Nat):Int)=ii at *;refine zdj eCj hm0 (by rw [List.length_map];exact hm1) (by omega) fun Ja ba xa=>?_;rw [zdS] at xa;rw [zfz (d:=((0:Addr),(0:Nat),(0:Int),(0:Int))) (show ii.toNat < C.length by omega)];have eNa:Ja p3=some (.lst (N.map fun p=>V.ref p.1)):=by rw [ba _ n23.symm];exact eNj
     symm;refine zaI eNa (by rw [List.length_map];omega) fun Jb bb xb=>?_;obtain ⟨A2,C2,N2,hrest⟩:=stepC Jb ii.toNat (by omega) (by rw [bb _ n13,ba _ n12];exact eAj) (by rw [bb _ n23];exact xa) (by rw [xb,List.map_append];rfl) ((sj.but ba hp20).but bb hp30);symm;exact ⟨A2,C2,N2,_,_,rfl,hrest⟩
   ·obtain ⟨eNj,eCj,eAj,sj⟩:=doC J2 t12;refine iteF ?_;symm
    try rw [List.length_map]
    have hm0:=Int.emod_nonneg (cc / 32 / 2) (show ((C.length:Nat):Int)≠0 by omega);have hm1:=Int.emod_lt_of_pos (cc / 32 / 2) (show (0:Int) < ((C.length:Nat):Int) by omega);symm;generalize hii:cc / 32 / 2 % ((C.length:Nat):Int)=ii at *;refine zdj eCj hm0 (by rw [List.length_map];exact hm1) (by omega) fun Ja ba xa=>?_;rw [zdS] at xa;rw [zfz (d:=((0:Addr),(0:Nat),(0:Int),(0:Int))) (show ii.toNat < C.length by omega)];have eNa:Ja p3=some (.lst (N.map fun p=>V.ref p.1)):=by rw [ba _ n23.symm];exact eNj
    symm;refine zaI eNa (by rw [List.length_map];omega) fun Jb bb xb=>?_;obtain ⟨A2,C2,N2,hrest⟩:=stepC Jb ii.toNat (by omega) (by rw [bb _ n13,ba _ n12];exact eAj) (by rw [bb _ n23];exact xa) (by rw [xb,List.map_append];rfl) ((sj.but ba hp20).but bb hp30);symm;exact ⟨A2,C2,N2,_,_,rfl,hrest⟩
  ·rintro σ H' ⟨A,C,N,v7,v8,rfl,s,eA,eC,eN,hA,hC,hfA,hfC,hN,hT⟩;have hA0:A=[]:=List.length_eq_zero_iff.mp (by omega);have hC0:C=[]:=List.length_eq_zero_iff.mp (by omega);subst hA0 hC0;rw [List.append_nil] at hfA hfC;symm;exact q p3 H' N hp30 s eN hfA hfC
theorem zd9 {H:Hp} {sc tb d:Addr} {ns:List Int} {tab:List (List Int)} {stp:Int} (M:List (Addr×E3)) {Q:VK} {E:XK} (hS:SqL K H sc (ns.map V.int)) (hl:ns.length≤63) (LT:LL K H tb tab) (ht3:∀ i,i < tab.length→(tab.getD i []).length=3) (ht10:tab.length≤10) (ed:H d=some (.lst (M.map fun p=>V.ref p.1))) (hM:∀ p∈M,H p.1=some (.lst ((rowE p.2).map V.int))∧p.2.1 < tab.length) (hM30:M.length≤30) (q:∀ pm H' (N:List (Addr×E3)),H pm=none→Same H H'→H' pm=some (.lst (N.map fun p=>V.ref p.1))→(N.filter fun p=>apK tab stp p.2.1)=(M.filter fun p=>apK tab stp p.2.1)→(N.filter fun p=>!apK tab stp p.2.1).Perm (M.filter fun p=>!apK tab stp p.2.1)→Q (.ref pm) H'):zcc K [.ref sc,.int stp,.ref tb,.ref d] H Q E:=⟨rfl,sc,tb,d,ns,tab,stp,M,rfl,hS,hl,LT,ht3,ht10,ed,hM,hM30,q⟩
def zdJ (K:PySem.W.Frag) (C:Addr):Sp:=fun vs H Q _=>vs.length=1∧∃ (x:Addr) (F:Addr→Prop) (st:ExS),vs=[.ref x]∧ExAt C H x F st∧InB st.hs st.rs∧(∀ p H',RowsAt H p (dueS st) H'→Q (.ref p) H')
theorem zhO (T:Txt K mg t):FnOk P w K mg base CX0 2 t.f_36 t.d_36 ["self"] (zdJ K t.C_Exam):=by
 have G_42:=zbc (P:=P) (w:=w) (base:=base) T;refine T.F_36.ok sc_36 (fun _ _ _ _ h=>h.1) fun cdv A outer s H vs Q E hr h=>by
  refine ⟨_,(zab (zax (i:=1) sc_36.nd rfl (Or.inl rfl) (zaM pa_nil))
   (zab (zaZ PassesOwn.never rfl (zb4 (by rfl) T.z_range (zaa zad (zaa (zaq (op_addG) (zag (zai (K:=K) rfl) (by rfl) T.z_len (by rfl) (zaa (zaF (K:=K) rfl (pv 0)) pa_nil)) zad) pa_nil))) (zar (i:=2) sc_36.nd rfl (Or.inr rfl))
   (zae (zaG (zbp (K:=K) rfl PySem.F.plainAttrs_list PySem.F.slot_list_extend PySem.F.type_list_extend mt_extend (pv 1) (zaa (za7 (zas (sc:=zac s_36) (XN:=["self","rows","paper"]) (N:=["reader","paper"]) (own:=1) (js:=[2]) rfl rfl (by decide +kernel)) rfl (zaJ (K:=K) rfl (zbf (pv 0) T.cl_Exam T.me_42 G_42 (hr.mono (by decide)) T.b_42 .nil zau (zaa (pv 2) pa_nil))) (fun _ _ _ _ _=>(zar (i:=0) (show List.Nodup [(Str.ofString "reader"),(Str.ofString "paper")] by decide +kernel) rfl (Or.inl rfl))) (fun _ _ _ _ _=>zbx) (fun _ _ _ _ _=>(zaM (zaa (pv 1) (zaa (pv 0) pa_nil))))) pa_nil)))))
   (zae (zak (pv 1))))),?_⟩
  obtain ⟨_,x,F,st,rfl,E0,BB,q⟩:=h;have B1:=BB.lp;have B2:=BB.lr;have E0':=E0;walk_at "hd";have lq:=I.lq;have l10:=I.wf.n10 BB;symm;refine zat (by decide) fun p1 H1 f1 s1 e1=>?_;have hob1:=s1 _ _ hob;have hhc1:=s1 _ _ hhc;symm;refine zeY ⟨by omega,by omega,by omega,by omega⟩ ?_;have en:((e.qs.length:Int)+1-1).toNat=st.nm.length:=by omega
  rw [en];refine zbV (fun i σ H'=>(∃ v,σ=[some (.ref e.x),some (.ref p1),v])∧RowsAt H p1 ((List.range i).flatMap fun k=>(zaO st.nm st.en k).map fun r=>[(k:Int)+1,r]) H'∧((List.range i).flatMap fun k=>(zaO st.nm st.en k).map fun r=>[(k:Int)+1,r]).length≤3 * i) ⟨⟨none,rfl⟩,RowsAt.start f1 s1 e1,by simp⟩ ?_ ?_
  ·rintro i σ H' hi ⟨⟨v,rfl⟩,R,hlen⟩;have E':=E0'.same R.same;have ek:(1+(i:Int)-1).toNat=i:=by omega
   have hw:=zhr st.nm st.en i;have hlr:=(I.wf.row i hi).len;obtain ⟨zs',z',_⟩:=R.lst;symm;refine zbh E' BB (k:=1+(i:Int)) (by omega) (by omega) (fun Q z=>zeE (i:=2) rfl z) fun p2 H2 f2 s2 e2=>?_;rw [ek] at e2;refine zaT (SqL.of e2) ?_;refine zch (zb7 (zco.one (zbq (SqL.of e2))) (by rw [List.length_map];omega) (fun j=>[(i:Int)+1,(zaO st.nm st.en i).getD j 0]) (fun j H3 Q' hj s3 q'=>?_) fun p3 H3 R3=>?_)
   ·rw [List.length_map] at hj;have ex:((zaO st.nm st.en i).map V.int).getD j .non=.int ((zaO st.nm st.en i).getD j 0):=zc9 hj;rw [ex];show (_:TE) (some (.int _)::some (.int (1+(i:Int)))::_) _ _;symm;rw [Int.add_comm 1 (i:Int)];refine zat (by simp) fun p4 H4 f4 s4 e4=>?_;exact q' p4 H4 f4 s4 e4
   ·have er:(List.range ((zaO st.nm st.en i).map V.int).length).map (fun j=>[(i:Int)+1,(zaO st.nm st.en i).getD j 0])=(zaO st.nm st.en i).map fun r=>[(i:Int)+1,r]:=by
     rw [List.length_map]
     conv=>rhs;rw [← zcq (zaO st.nm st.en i) 0]
     rw [List.map_map];rfl
    rw [er] at R3;have R':RowsAt H p1 _ H2:=⟨R.same.trans s2,R.new,by obtain ⟨ps,a1,a2,a3,a4⟩:=R.rows;exact ⟨ps,s2 _ _ a1,a2,a3,fun j hj=>⟨s2 _ _ (a4 j hj).1,(a4 j hj).2⟩⟩⟩
    obtain ⟨zs,zs2,z1,z2,z3,z4,zz⟩:=R'.ext (H3:=H3) R3;rw [List.length_map] at z4;obtain ⟨zs,zs2,z1,z2,z3,z4,_⟩:=R'.ext (H3:=H3) R3;rw [List.length_map] at z4;symm;refine zlh z1 z2 (by omega) fun H4 b4 e4=>?_;obtain ⟨ys,ys2,y1,y2,y3,y4,yy⟩:=R'.ext (H3:=H4) R3;have eq1:ys=zs:=by rw [y1] at z1;exact HO.lst.inj (Option.some.inj z1)
    have eq2:ys2=zs2:=by rw [y2] at z2;exact HO.lst.inj (Option.some.inj z2)
    rw [eq1,eq2] at yy;symm;refine ⟨⟨_,rfl⟩,?_,?_⟩
    ·rw [zda _ _ _ hi];exact yy b4 e4
    ·rw [zda _ _ _ hi,List.length_append,List.length_map];omega
  ·rintro σ H' ⟨⟨v,rfl⟩,R,_⟩;symm;exact q p1 H' R
theorem zi6 {K:PySem.W.Frag} {C x:Addr} {H:Hp} {F:Addr→Prop} {st:ExS} {Q:VK} {E:XK} (h:ExAt C H x F st) (B:InB st.hs st.rs) (q:(∀ p H',RowsAt H p (dueS st) H'→Q (.ref p) H')):zdJ K C [.ref x] H Q E:=⟨rfl,x,F,st,rfl,h,B,q⟩
theorem zi7 {K:PySem.W.Frag} {C x:Addr} {H:Hp} {F:Addr→Prop} {st:ExS} {Q:VK} {E:XK} {σ:L2.St} (h:ExAt C H x F st) (B:InB st.hs st.rs) (q:(∀ p H',RowsAt H p (dueS st) H'→Q (.ref p) H')):zbm C "due" (zdJ K C) E tNil σ (.ref x) H Q:=by
 obtain ⟨dx,fs,e,l⟩:=h.ob;exact zaN e (l _ (by decide +kernel)) (zeF (zi6 h B q))
def zfp (K:PySem.W.Frag):Sp:=fun vs H Q _=>vs.length=2∧∃ (a:Addr) (xs:List Int) (s:Int),vs=[.ref a,.int s]∧SqL K H a (xs.map V.int)∧(xs.length=2∨xs.length=3)∧(∀ x∈xs,0≤x∧x≤100)∧∀ p H',H p=none→Same H H'→H' p=some (.lst ((MarkB xs s).map V.int))→Q (.ref p) H'
theorem zhP (T:Txt K mg t):FnOk P w K mg base CX0 1 t.f_58 t.d_58 ["_law_given_here","_law_step_here"] (zfp K):=by
 refine T.F_58.ok sc_58 (fun _ _ _ _ h=>h.1) fun cdv A outer s H vs Q E hr h=>by
  refine ⟨_,(zab (zaS (zap (zbK (K:=K) rfl hr.units0) (zag (zai (K:=K) rfl) (by rfl) T.z_len (by rfl) (zaa (pv 0) pa_nil)) zad (zaC _))
   (zae (zak (zaM (zaa (zaq (op_sub) (zaq (op_sub) (zag (zc5 (K:=K) rfl rfl) (by rfl) T.z_sum (by rfl) (zaa (pv 0) pa_nil)) (zag (zc6 (K:=K) rfl rfl) (by rfl) T.z_min (by rfl) (zaa (pv 0) pa_nil))) (zag (ze8 (K:=K) rfl rfl) (by rfl) T.z_max (by rfl) (zaa (pv 0) pa_nil))) (zaa zad pa_nil))))) pss_nil)
   (zab (zaS (zap (op_gt) (zaq (op_sub) (zag (ze8 (K:=K) rfl rfl) (by rfl) T.z_max (by rfl) (zaa (pv 0) pa_nil)) (zag (zc6 (K:=K) rfl rfl) (by rfl) T.z_min (by rfl) (zaa (pv 0) pa_nil))) (pv 1) (zaC _))
   (zae (zak (zaM (zaa (zag (zc6 (K:=K) rfl rfl) (by rfl) T.z_min (by rfl) (zaa (pv 0) pa_nil)) (zaa zad pa_nil))))) pss_nil)
   (zab (zaS (zap (zbK (K:=K) rfl hr.units0) (zaq (op_mod) (zag (zc5 (K:=K) rfl rfl) (by rfl) T.z_sum (by rfl) (zaa (pv 0) pa_nil)) zad) zad (zaC _))
   (zae (zak (zaM (zaa (zag (zc5 (K:=K) rfl rfl) (by rfl) T.z_sum (by rfl) (zaa (pv 0) pa_nil)) (zaa zad pa_nil))))) pss_nil)
   (zae (zak (zaM (zaa (zaq (op_fdivB) (zag (zc5 (K:=K) rfl rfl) (by rfl) T.z_sum (by rfl) (zaa (pv 0) pa_nil)) zad) (zaa zad pa_nil)))))))),?_⟩
  obtain ⟨_,a,xs,s,rfl,ha,hl,hb,q⟩:=h;have hb':∀ z∈xs,0≤z∧z≤1000000:=fun z hz=>by have:=hb z hz;omega
  symm;rcases hl with hl | hl
  ·match xs,hl with
   | [x,y],_ =>
     have hx:=hb x (by simp);have hy:=hb y (by simp);rw [zlk] at q;unfold zft at q;have es:[x,y].sum=x+y:=by simp
     refine iteF ?_;symm;refine ze9 ha (by simp) fun M hM hge=>?_;symm;refine zc7 ha (by simp) fun m hm hle=>?_;have e1:=hge x (by simp);have e2:=hge y (by simp);have e3:=hle x (by simp);have e4:=hle y (by simp);have e5:M=x∨M=y:=by simpa using hM
     have e6:m=x∨m=y:=by simpa using hm
     have em:m=min2 x y:=by unfold min2;split <;> omega
     symm;refine zbi (fun g=>?_) (fun g=>?_)
     ·have eg:zbF x y s=false:=decide_eq_false (by omega);rw [eg] at q;symm;refine zc7 ha (by simp) fun m' hm' hle'=>?_;have f3:=hle' x (by simp);have f4:=hle' y (by simp);have f6:m'=x∨m'=y:=by simpa using hm'
      have ef:m'=min2 x y:=by unfold min2;split <;> omega
      symm;refine zat (by simp) fun p H1 f1 s1 e1=>?_;rw [ef] at e1;exact q p H1 f1 s1 e1
     ·have eg:zbF x y s=true:=decide_eq_true (by omega);rw [eg] at q;symm;refine zdR ha hb' (by simp) ?_;rw [es];symm;refine zbi (fun g2=>?_) (fun g2=>?_)
      ·rw [if_pos g2] at q;symm;refine zdR ha hb' (by simp) ?_;rw [es];symm;refine zat (by simp) fun p H1 f1 s1 e1=>?_;exact q p H1 f1 s1 e1
      ·rw [if_neg g2] at q;symm;refine zdR ha hb' (by simp) ?_;rw [es];symm;refine zat (by simp) fun p H1 f1 s1 e1=>?_;exact q p H1 f1 s1 e1
  ·match xs,hl with
   | [x,y,z],_ =>
     rw [ziO] at q;have es:[x,y,z].sum=x+y+z:=by simp;omega
     refine iteT ?_;symm;refine zdR ha hb' (by simp) ?_;rw [es];symm;refine zc7 ha (by simp) fun m hm hle=>?_;symm;refine ze9 ha (by simp) fun M hM hge=>?_;have e1:=hge x (by simp);have e2:=hge y (by simp);have e2':=hge z (by simp);have e3:=hle x (by simp);have e4:=hle y (by simp);have e4':=hle z (by simp);have e5:M=x∨M=y∨M=z:=by simpa using hM
     have e6:m=x∨m=y∨m=z:=by simpa using hm
     have em:x+y+z-m-M=mid3 x y z:=by
      unfold mid3 min2 max2
      repeat' split
      all_goals omega
     symm;refine zat (by simp) fun p H1 f1 s1 e1=>?_;rw [em] at e1;exact q p H1 f1 s1 e1
theorem zi8 {H:Hp} {a:Addr} {xs:List Int} {s:Int} {Q:VK} {E:XK} (h1:SqL K H a (xs.map V.int)) (h2:xs.length=2∨xs.length=3) (h3:∀ x∈xs,0≤x∧x≤100) (q:∀ p H',H p=none→Same H H'→H' p=some (.lst ((MarkB xs s).map V.int))→Q (.ref p) H'):zfp K [.ref a,.int s] H Q E:=⟨rfl,a,xs,s,rfl,h1,h2,h3,q⟩
theorem zkw (x y s:Int):zft x y s=[(zft x y s).getD 0 0,(zft x y s).getD 1 0]:=by
 unfold zft;split
 ·split <;> rfl
 ·rfl
theorem zkx {xs:List Int} (s:Int) (h:xs.length=2∨xs.length=3):MarkB xs s=[(MarkB xs s).getD 0 0,(MarkB xs s).getD 1 0]:=by
 rcases h with h | h
 ·match xs,h with
  | [x,y],_=>exact zkw x y s
 ·match xs,h with
  | [x,y,z],_=>rfl
def zcx (K:PySem.W.Frag):Sp:=fun vs H Q _=>vs.length=4∧∃ (mk c d:Addr) (B:Hp) (nm en:List (List Int)) (s:Int) (n:Nat),vs=[.ref mk,.ref c,.ref d,.int s]∧ze7 B mk ((List.range nm.length).map (zbG nm en s)) H∧LL K H c nm∧LL K H d en∧nm.length≤10∧(∀ i,i < en.length→(en.getD i []).length=3)∧(∀ k,k < nm.length→zcT n en k (nm.getD k []))∧(∀ k,k < nm.length→zaO nm en k=[])∧(∀ k,∀ p∈ptsOf nm en k,0≤p∧p≤100)∧∀ H',Same H H'→Q (.bl true) H'
theorem zen (T:Txt K mg t):FnOk P w K mg base CX0 4 t.f_64 t.d_64 ["_law_found","_law_names","_law_entries","_law_step_here"] (zcx K):=by
 have G_56:=zde (P:=P) (w:=w) (base:=base) T;have G_50:=zfQ (P:=P) (w:=w) (base:=base) T;have G_58:=zhP (P:=P) (w:=w) (base:=base) T;have G_51:=zfn (P:=P) (w:=w) (base:=base) T;refine T.F_64.ok sc_64 (fun _ _ _ _ h=>h.1) fun cdv A outer s H vs Q E hr h=>by
  refine ⟨_,(zab (zaS (zcs (za6 (zav (K:=K) rfl (zag (zaP (K:=K) rfl) (by rfl) T.z_isinstance (by rfl) (zaa (pv 0) (zaa (zcy (v:=.ty "list") (u:=.type "list") (by rfl) T.z_list (by rfl) rfl) pa_nil))) (fun _=>rfl))) (zbS (zap (zcN (K:=K) rfl hr.units0) (zag (zai (K:=K) rfl) (by rfl) T.z_len (by rfl) (zaa (pv 0) pa_nil)) (zag (zai (K:=K) rfl) (by rfl) T.z_len (by rfl) (zaa (pv 1) pa_nil)) (zaC _)))).pt
   (zae (zak za3)) pss_nil)
   (zab (zaZ PassesOwn.never rfl (zaW (by rfl) T.z_range (zaa (zag (zai (K:=K) rfl) (by rfl) T.z_len (by rfl) (zaa (pv 1) pa_nil)) pa_nil)) (zar (i:=4) sc_64.nd rfl (Or.inr rfl))
   (zab (zax (i:=5) sc_64.nd rfl (Or.inr rfl) (zal G_56 (hr.mono (by decide)) (by rfl) T.m_56 T.F_56.kp T.b_56 .nil zau (zaa (pv 1) (zaa (pv 2) (zaa (zaq (op_addG) (pv 4) zad) pa_nil)))))
   (zab (zb3 (i:=6) sc_64.nd rfl (Or.inl rfl) (by rfl) (zas (sc:=zac s_64) (XN:=["_law_found","_law_names","_law_entries","_law_step_here","_law_k","_law_given_here","_law_readings"]) (N:=["_law_j","_law_names","_law_k","_law_given_here"]) (own:=1) (js:=[1,4,5]) rfl rfl (by decide +kernel)) rfl (zaW (by rfl) T.z_range (zaa (zag (zai (K:=K) rfl) (by rfl) T.z_len (by rfl) (zaa (pv 5) pa_nil)) pa_nil)) (fun _ _ _ _ _=>(zar (i:=0) (show List.Nodup [(Str.ofString "_law_j"),(Str.ofString "_law_names"),(Str.ofString "_law_k"),(Str.ofString "_law_given_here")] by decide +kernel) rfl (Or.inl rfl))) (fun _ _ _ _ _=>zbx) (fun _ _ _ _ _=>(zaM (zaa (zaw (zaf (K:=K) rfl) (zaw (zaf (K:=K) rfl) (pv 1) (pv 2) (fun _ _=>rfl)) (pv 0) (fun _ _=>rfl)) (zaa (zaw (zaf (K:=K) rfl) (pv 3) (pv 0) (fun _ _=>rfl)) pa_nil)))))
   (zab (zaS (zcs (zap (zes (K:=K) rfl (zcY hr)) zcL (pv 5) (by with_unfolding_all rfl)) (zcs (za6 (zav (K:=K) rfl (zag (zaP (K:=K) rfl) (by rfl) T.z_isinstance (by rfl) (zaa (zaw (zaf (K:=K) rfl) (pv 0) (pv 4) (fun _ _=>rfl)) (zaa (zcy (v:=.ty "list") (u:=.type "list") (by rfl) T.z_list (by rfl) rfl) pa_nil))) (fun _=>rfl))) (zbS (zap (zcN (K:=K) rfl hr.units0) (zag (zai (K:=K) rfl) (by rfl) T.z_len (by rfl) (zaa (zaw (zaf (K:=K) rfl) (pv 0) (pv 4) (fun _ _=>rfl)) pa_nil)) zad (zaC _))))).pt
   (zae (zak za3)) pss_nil)
   (zab (zaS (za6 (zav (K:=K) rfl (zal G_50 (hr.mono (by decide)) (by rfl) T.m_50 T.F_50.kp T.b_50 .nil zau (zaa (zdL (zdP (K:=K) rfl) (zaw (zaf (K:=K) rfl) (pv 0) (pv 4) (fun _ _=>rfl)) po_none (zeU zad)) (zaa (zal G_58 (hr.mono (by decide)) (by rfl) T.m_58 T.F_58.kp T.b_58 .nil zau (zaa (pv 5) (zaa (pv 3) pa_nil))) pa_nil))) (fun _=>rfl)))
   (zae (zak za3)) pss_nil)
   (zae (zaS (za6 (zav (K:=K) rfl (zal G_51 (hr.mono (by decide)) (by rfl) T.m_51 T.F_51.kp T.b_51 .nil zau (zaa (zaw (zaf (K:=K) rfl) (zaw (zaf (K:=K) rfl) (pv 0) (pv 4) (fun _ _=>rfl)) zad (fun _ _=>rfl)) (zaa (pv 6) pa_nil))) (fun _=>rfl)))
   (zae (zak za3)) pss_nil)))))))
   (zae (zak za3)))),?_⟩
  obtain ⟨_,mk,c,d,B,nm,en,s,n,rfl,MA,LC,LD,l10,e3,hro,hw,hpt,q⟩:=h;obtain ⟨sB,nB,vs,hv,hvl,hvs⟩:=MA;rw [List.length_map,List.length_range] at hvl hvs;obtain ⟨pc,hc1,hc2,hc3⟩:=id LC;symm;refine iteF ?_;symm;rw [decide_eq_true (show (vs.length:Int)=(pc.length:Int) by omega)];refine iteF ?_;symm;refine zbU (by omega) (by omega) ?_;have en':((pc.length:Int)).toNat=nm.length:=by omega
  rw [en'];refine zbV (fun i σ H'=>(∃ v4 v5 v6,σ=[some (.ref mk),some (.ref c),some (.ref d),some (.int s),v4,v5,v6])∧Same H H') ⟨⟨none,none,none,rfl⟩,Same.refl H⟩ ?_ ?_
  ·rintro i σ H' hi ⟨⟨v4,v5,v6,rfl⟩,s0⟩;have e0:(0:Int)+(i:Int)=(i:Int):=by omega
   have ek:((i:Int)+1-1).toNat=i:=by omega
   have ei:((i:Nat):Int).toNat=i:=by omega
   have hlr:=(hro i hi).len;have hpl:=zf5 nm en i;have ia:atI vs (i:Int)=some (vs.getD i .non):=zfU (by rw [List.getD_eq_getElem?_getD,List.getElem?_eq_getElem (by omega)];rfl);rw [e0];symm;refine zdE (LC.same s0) (LD.same s0) (by omega) (by omega) e3 (by rw [ek];omega) fun p2 H2 f2 s2 e2=>?_;rw [ek] at e2;have e2o:=e2;rw [zgH (hw i hi)] at e2;have s02:=s0.trans s2;symm;refine zbU (by omega) (by omega) ?_;have en2:(((ptsOf nm en i).length:Nat):Int).toNat=(nm.getD i []).length:=by omega
   rw [en2];refine zch (zb7 (zco.one (zbM _ _ _)) (by omega) (fun j=>[(nm.getD i []).getD j 0,(ptsOf nm en i).getD j 0]) (fun j H3 Q' hj s3 q'=>?_) fun p3 H3 R3=>?_)
   ·have hc':=(s02.trans s3).seq hc1;have hrow:=(s02.trans s3) _ _ (hc3 i hi);have e2':=s3 _ _ e2;have ej:(0+(j:Int)).toNat=j:=by omega
    symm;rw [ej];exact zat (by simp) fun l H4 f s4 e4=>q' l H4 f s4 e4
   rw [zgF hpl] at R3;have hmi:=hvs i hi;rw [zaB hi] at hmi;unfold zbG at hmi;rw [if_pos (hw i hi)] at hmi;obtain ⟨q1,r1,ps1,b1,b2,b3,b4,b5,b6,b7⟩:=hmi;have s03:=s02.trans R3.same;have hv3:=s03 _ _ hv;have b43:=s03 _ _ b4;have e2o3:=R3.same _ _ e2o;have e23:=R3.same _ _ e2;symm;refine zlH (SqL.of e2o3) ?_;rw [decide_eq_false (fun z=>zec.mp z (hw i hi))];symm;refine iteF ?_;symm;refine zeX (SqL.of hv3) ia ?_;rw [b1];symm;refine iteF ?_;symm;refine zeX (SqL.of hv3) ia ?_;rw [b1];symm;refine iteF ?_;symm;refine zeX (SqL.of hv3) ia ?_;rw [b1];symm;refine zct (SqL.of b43) fun p4 H4 f4 s4 e4=>?_;rw [show cutV [V.int ((MarkB (ptsOf nm en i) s).getD 0 0),V.int ((MarkB (ptsOf nm en i) s).getD 1 0),V.ref r1] none (some 2)=([(MarkB (ptsOf nm en i) s).getD 0 0,(MarkB (ptsOf nm en i) s).getD 1 0]:List Int).map V.int from zhi 2] at e4;symm;refine zi8 (xs:=ptsOf nm en i) (SqL.of (s4 _ _ e23)) (by omega) (hpt i) fun p5 H5 f5 s5 e5=>?_;rw [zkx s (xs:=ptsOf nm en i) (by omega)] at e5;symm;refine zgT (s5 _ _ e4) (SqL.of e5) (by simp) ?_;rw [decide_eq_true rfl];symm;refine iteF ?_;have s35:=s4.trans s5;have s05:=s03.trans s35;have hv5:=s35 _ _ hv3;have b45:=s35 _ _ b43;have R5:=R3.mono s35;symm;refine zeX (SqL.of hv5) ia ?_;rw [b1];symm;refine zej ⟨_,s05 _ _ b5⟩ (⟨ps1,SqL.of (s05 _ _ b5),b6,fun j hj=>s05 _ _ (b7 j hj).2⟩:LL K H5 r1 (((nm.getD i []).zip (ptsOf nm en i)).map fun p=>[p.1,p.2])) R5.ll (by rw [List.length_map,List.length_zip];omega) (fun j hj=>by
    rw [List.getD_eq_getElem?_getD,List.getElem?_eq_getElem hj,Option.getD_some,List.getElem_map];show 2≤1000000;decide) ?_
   rw [decide_eq_true rfl];symm;refine iteF ?_;symm;exact ⟨⟨_,_,_,rfl⟩,s05⟩
  ·rintro σ H' ⟨⟨v4,v5,v6,rfl⟩,s0⟩;symm;exact q _ s0
theorem zeJ {mk c d:Addr} {B H:Hp} {nm en:List (List Int)} {s:Int} (n:Nat) {Q:VK} {E:XK} (MA:ze7 B mk ((List.range nm.length).map (zbG nm en s)) H) (LC:LL K H c nm) (LD:LL K H d en) (l10:nm.length≤10) (e3:∀ i,i < en.length→(en.getD i []).length=3) (hro:∀ k,k < nm.length→zcT n en k (nm.getD k [])) (hw:∀ k,k < nm.length→zaO nm en k=[]) (hpt:∀ k,∀ p∈ptsOf nm en k,0≤p∧p≤100) (q:∀ H',Same H H'→Q (.bl true) H'):zcx K [.ref mk,.ref c,.ref d,.int s] H Q E:=⟨rfl,mk,c,d,B,nm,en,s,n,rfl,MA,LC,LD,l10,e3,hro,hw,hpt,q⟩
def zcd (K:PySem.W.Frag):Sp:=fun vs H Q _=>vs.length=2∧∃ a b:Nat,vs=[.int (a:Int),.int (b:Int)]∧Q (.int ((Nat.gcd a b:Nat):Int)) H
theorem zdK (T:Txt K mg t):FnOk P w K mg base CX0 1 t.f_16 t.d_16 ["one","other"] (zcd K):=by
 refine T.F_16.ok sc_16 (fun _ _ _ _ h=>h.1) fun cdv A outer s H vs Q E hr h=>by
  refine ⟨_,(zab (zax (i:=2) sc_16.nd rfl (Or.inl rfl) (pv 0))
   (zab (zax (i:=3) sc_16.nd rfl (Or.inl rfl) (pv 1))
   (zab (zhT PassesOwn.never (zap (op_gt) (pv 3) zad (zaC _))
   (zab (zax (i:=4) sc_16.nd rfl (Or.inl rfl) (zaq (op_mod) (pv 2) (pv 3)))
   (zab (zax (i:=2) sc_16.nd rfl (Or.inl rfl) (pv 3))
   (zae (zax (i:=3) sc_16.nd rfl (Or.inl rfl) (pv 4))))))
   (zae (zak (pv 2)))))),?_⟩
  obtain ⟨_,a,b,rfl,q⟩:=h;symm;refine ⟨fun n σ H'=>∃ (x:Nat) (v:Option V),σ=[some (.int (a:Int)),some (.int (b:Int)),some (.int (x:Int)),some (.int (n:Int)),v]∧H'=H∧Nat.gcd x n=Nat.gcd a b,⟨b,a,none,rfl,rfl,rfl⟩,?_⟩;rintro n σ H' ⟨x,v,rfl,rfl,hg⟩;symm;refine zbi (fun h1=>?_) (fun h1=>?_)
  ·refine ⟨fun σ H''=>∃ (x' y':Nat) (v:Option V),y' < n∧σ=[some (.int (a:Int)),some (.int (b:Int)),some (.int (x':Int)),some (.int (y':Int)),v]∧H''=H'∧Nat.gcd x' y'=Nat.gcd a b,?_,?_⟩
   ·rintro σ' H'' ⟨x',y',v',hlt,rfl,rfl,hg'⟩;exact ⟨y',hlt,x',v',rfl,rfl,hg'⟩
   ·symm;refine ⟨n,x % n,_,Nat.mod_lt _ (by omega),rfl,rfl,?_⟩;rw [← hg,Nat.gcd_comm n,← Nat.gcd_rec,Nat.gcd_comm]
  ·have h0:n=0:=by omega
   subst h0;rw [Nat.gcd_zero_right] at hg;subst hg;symm;exact q
theorem zea {H:Hp} {a b:Nat} {Q:VK} {E:XK} (q:Q (.int ((Nat.gcd a b:Nat):Int)) H):zcd K [.int (a:Int),.int (b:Int)] H Q E:=⟨rfl,a,b,rfl,q⟩
theorem zmH {a b:Nat} (hb:1≤b):Low (a:Int) (b:Int) ((a:Int) / ((Nat.gcd a b:Nat):Int)) ((b:Int) / ((Nat.gcd a b:Nat):Int)):=by
 have hg:0 < Nat.gcd a b:=Nat.gcd_pos_of_pos_right _ hb;obtain ⟨x,hx⟩:=Nat.gcd_dvd_left a b;obtain ⟨y,hy⟩:=Nat.gcd_dvd_right a b;have hco:Nat.gcd (a / Nat.gcd a b) (b / Nat.gcd a b)=1:=by
  rw [Nat.gcd_div (Nat.gcd_dvd_left a b) (Nat.gcd_dvd_right a b),Nat.div_self hg]
 have e1:a / Nat.gcd a b=x:=by
  conv=>lhs;arg 1;rw [hx]
  exact Nat.mul_div_cancel_left x hg
 have e2:b / Nat.gcd a b=y:=by
  conv=>lhs;arg 1;rw [hy]
  exact Nat.mul_div_cancel_left y hg
 have l1:=Nat.div_le_self a (Nat.gcd a b);have l2:=Nat.div_le_self b (Nat.gcd a b);rw [e1] at l1;rw [e2] at l2;have c1:(a:Int) / ((Nat.gcd a b:Nat):Int)=(x:Int):=by rw [← Int.natCast_ediv,e1]
 have c2:(b:Int) / ((Nat.gcd a b:Nat):Int)=(y:Int):=by rw [← Int.natCast_ediv,e2]
 rw [e1,e2] at hco;rw [c1,c2];have y1:1≤y:=by
  rcases Nat.eq_zero_or_pos y with h | h
  ·rw [h,Nat.mul_zero] at hy;omega
  ·exact h
 refine ⟨by omega,by omega,?_,?_,by omega,by omega⟩
 ·have:x * b=a * y:=by
   generalize Nat.gcd a b=g at *;subst hx hy;rw [Nat.mul_comm g y,← Nat.mul_assoc,Nat.mul_comm g x,Nat.mul_right_comm]
  exact_mod_cast this
 ·show Nat.gcd (Int.natAbs x) (Int.natAbs y)=1;rw [Int.natAbs_natCast,Int.natAbs_natCast];exact hco
def zg3 (K:PySem.W.Frag):Sp:=fun vs H Q _=>vs.length=2∧∃ x y:Int,vs=[.int x,.int y]∧0≤x∧x≤10 ^ 30∧1≤y∧y≤10 ^ 30∧∀ t b,Low x y t b→∀ p H',H p=none→Same H H'→H' p=some (.lst ([t,b].map V.int))→Q (.ref p) H'
theorem zky (T:Txt K mg t):FnOk P w K mg base CX0 2 t.f_15 t.d_15 ["top","bottom"] (zg3 K):=by
 have G_16:=zdK (P:=P) (w:=w) (base:=base) T;refine T.F_15.ok sc_15 (fun _ _ _ _ h=>h.1) fun cdv A outer s H vs Q E hr h=>by
  refine ⟨_,(zab (zax (i:=2) sc_15.nd rfl (Or.inl rfl) (zal G_16 (hr.mono (by decide)) (by rfl) T.m_16 T.F_16.kp T.b_16 .nil zau (zaa (pv 0) (zaa (pv 1) pa_nil))))
   (zae (zak (zaM (zaa (zaq (op_fdivB) (pv 0) (pv 2)) (zaa (zaq (op_fdivB) (pv 1) (pv 2)) pa_nil)))))),?_⟩
  obtain ⟨_,x,y,rfl,x0,x1,y0,y1,q⟩:=h;obtain ⟨a,rfl⟩:=Int.eq_ofNat_of_zero_le x0;obtain ⟨b,rfl⟩:=Int.eq_ofNat_of_zero_le (show 0≤y by omega);have hb:1≤b:=by omega
  have hL:=zmH (a:=a) hb;have hg:0 < Nat.gcd a b:=Nat.gcd_pos_of_pos_right _ hb;have hg2:Nat.gcd a b≤b:=Nat.le_of_dvd hb (Nat.gcd_dvd_right a b);symm;refine zea ?_;symm;refine zat (by simp) fun p H' f s e=>?_;exact q _ _ hL p H' f s e
theorem zge {H:Hp} {x y:Int} {Q:VK} {E:XK} (x0:0≤x) (x1:x≤10 ^ 30) (y0:1≤y) (y1:y≤10 ^ 30) (q:∀ t b,Low x y t b→∀ p H',H p=none→Same H H'→H' p=some (.lst ([t,b].map V.int))→Q (.ref p) H'):zg3 K [.int x,.int y] H Q E:=⟨rfl,x,y,rfl,x0,x1,y0,y1,q⟩
theorem zlu {a b:List Int} (h:a.Perm b):a.sum=b.sum:=by
 induction h with
 | nil=>rfl
 | cons x _ ih=>rw [List.sum_cons,List.sum_cons,ih]
 | swap x y l=>simp only [List.sum_cons];omega
 | trans _ _ i1 i2=>exact i1.trans i2
theorem zi9 {x y z:Int} {ns:List Int} (hp:ns.Perm [x,y,z]) (hs:ns.Pairwise (·≤·)):ns.getD 1 0=mid3 x y z:=by
 have hl:=hp.length_eq
 match ns,hl with
 | [a,b,c],_ =>
   have h1:a≤b∧b≤c:=by simp at hs;omega
   have hsum:a+b+c=x+y+z:=by
    have:=zlu hp;simp at this;omega
   have ma:a=x∨a=y∨a=z:=by have:=hp.mem_iff.mp (show a∈[a,b,c] by simp);simpa using this
   have mc:c=x∨c=y∨c=z:=by have:=hp.mem_iff.mp (show c∈[a,b,c] by simp);simpa using this
   have mx:x=a∨x=b∨x=c:=by have:=hp.mem_iff.mpr (show x∈[x,y,z] by simp);simpa using this
   have my:y=a∨y=b∨y=c:=by have:=hp.mem_iff.mpr (show y∈[x,y,z] by simp);simpa using this
   have mz:z=a∨z=b∨z=c:=by have:=hp.mem_iff.mpr (show z∈[x,y,z] by simp);simpa using this
   show b=_;unfold mid3 min2 max2
   repeat' split
   all_goals omega
def zeD (K:PySem.W.Frag):Sp:=fun vs H Q _=>vs.length=1∧∃ (a:Addr) (x y z:Int),vs=[.ref a]∧SqL K H a ([x,y,z].map V.int)∧∀ H',Same H H'→Q (.int (mid3 x y z)) H'
theorem zg4 (T:Txt K mg t):FnOk P w K mg base CX0 1 t.f_19 t.d_19 ["points"] (zeD K):=by
 refine T.F_19.ok sc_19 (fun _ _ _ _ h=>h.1) fun cdv A outer s H vs Q E hr h=>by
  refine ⟨_,(zae (zak (zaw (zaf (K:=K) rfl) (zag (zer (K:=K) rfl) (by rfl) T.z_sorted (by rfl) (zaa (pv 0) pa_nil)) zad (fun _ _=>rfl)))),?_⟩;obtain ⟨_,a,x,y,z,rfl,ha,q⟩:=h;symm;refine ze3 ha (by simp) fun ns hp hs p H' f s e=>?_;have hl:ns.length=3:=hp.length_eq;symm;have e1:ns.getD (Int.toNat 1) 0=mid3 x y z:=zi9 hp hs;rw [e1];exact q _ s
theorem zhQ {H:Hp} {a:Addr} {x y z:Int} {Q:VK} {E:XK} (h:SqL K H a ([x,y,z].map V.int)) (q:∀ H',Same H H'→Q (.int (mid3 x y z)) H'):zeD K [.ref a] H Q E:=⟨rfl,a,x,y,z,rfl,h,q⟩
theorem zkz {x t b:Int} (h:Low x 1 t b):t=x∧b=1:=by
 have h1:=h.bl;have h2:=h.b1;have hb:b=1:=by omega
 have:=h.eq;rw [hb] at this;exact ⟨by omega,hb⟩
theorem zmI {x t b:Int} (h:Low x 2 t b):[t,b]=if x % 2=1 then [x,2] else [x / 2,1]:=by
 have h1:=h.bl;have h2:=h.b1;have h3:=h.eq;have hb:b=1∨b=2:=by omega
 rcases hb with rfl | rfl
 ·rw [if_neg (by omega)];have:t=x / 2:=by omega
  rw [this]
 ·have ht:t=x:=by omega
  subst ht;have hg:=h.co;have hodd:t % 2=1:=by
   rcases Int.emod_two_eq t with e | e
   ·exfalso;have hd:(2:Int) ∣ t:=Int.dvd_of_emod_eq_zero e;have:(2:Nat) ∣ Int.gcd t 2:=Int.dvd_gcd hd (Int.dvd_refl 2);rw [hg] at this;have:=Nat.le_of_dvd (by decide) this;omega
   ·exact e
  rw [if_pos hodd]
def zfR (K:PySem.W.Frag):Sp:=fun vs H Q _=>vs.length=2∧∃ (a:Addr) (xs:List Int) (s:Int),vs=[.ref a,.int s]∧SqL K H a (xs.map V.int)∧(xs.length=2∨xs.length=3)∧(∀ x∈xs,0≤x∧x≤100)∧∀ p H',H p=none→Same H H'→H' p=some (.lst ((MarkB xs s).map V.int))→Q (.ref p) H'
theorem zja (T:Txt K mg t):FnOk P w K mg base CX0 3 t.f_18 t.d_18 ["points","step"] (zfR K):=by
 have G_15:=zky (P:=P) (w:=w) (base:=base) T;have G_19:=zg4 (P:=P) (w:=w) (base:=base) T;have G_17:=zio (P:=P) (w:=w) (base:=base) T;refine T.F_18.ok sc_18 (fun _ _ _ _ h=>h.1) fun cdv A outer s H vs Q E hr h=>by
  refine ⟨_,(zab (zaS (zap (zbK (K:=K) rfl hr.units0) (zag (zai (K:=K) rfl) (by rfl) T.z_len (by rfl) (zaa (pv 0) pa_nil)) zad (zaC _))
   (zae (zak (zal G_15 (hr.mono (by decide)) (by rfl) T.m_15 T.F_15.kp T.b_15 .nil zau (zaa (zal G_19 (hr.mono (by decide)) (by rfl) T.m_19 T.F_19.kp T.b_19 .nil zau (zaa (pv 0) pa_nil)) (zaa zad pa_nil))))) pss_nil)
   (zab (zaS (zav (K:=K) rfl (zal G_17 (hr.mono (by decide)) (by rfl) T.m_17 T.F_17.kp T.b_17 .nil zau (zaa (zaw (zaf (K:=K) rfl) (pv 0) zad (fun _ _=>rfl)) (zaa (zaw (zaf (K:=K) rfl) (pv 0) zad (fun _ _=>rfl)) (zaa (pv 1) pa_nil)))) (fun _=>rfl))
   (zae (zak (zal G_15 (hr.mono (by decide)) (by rfl) T.m_15 T.F_15.kp T.b_15 .nil zau (zaa (zag (zc5 (K:=K) rfl rfl) (by rfl) T.z_sum (by rfl) (zaa (pv 0) pa_nil)) (zaa zad pa_nil))))) pss_nil)
   (zae (zak (zal G_15 (hr.mono (by decide)) (by rfl) T.m_15 T.F_15.kp T.b_15 .nil zau (zaa (zag (zc6 (K:=K) rfl rfl) (by rfl) T.z_min (by rfl) (zaa (pv 0) pa_nil)) (zaa zad pa_nil))))))),?_⟩
  obtain ⟨_,a,xs,s,rfl,ha,hl,hb,q⟩:=h;symm;rcases hl with hl | hl
  ·match xs,hl with
   | [x,y],_ =>
     have hx:=hb x (by simp);have hy:=hb y (by simp);refine iteF ?_;have l2:([x,y]:List Int).length=2:=rfl;symm;refine zku ?_;symm;show if zbF x y s=true then _ else _
     have em:MarkB [x,y] s=zft x y s:=rfl;rw [em] at q;unfold zft at q
     cases eg:zbF x y s with
     | true =>
       rw [eg] at q;simp only [if_true] at q ⊢;symm;refine zdR ha (fun z hz=>?_) (by simp) ?_
       ·have:=hb z hz;omega
       symm;have es:[x,y].sum=x+y:=by simp
       rw [es];refine zge (by omega) (by omega) (by omega) (by omega) fun t b hL p H' f s' e=>?_;rw [zmI hL] at e;exact q p H' f s' e
     | false =>
       rw [eg] at q;simp only [Bool.false_eq_true,if_false] at q ⊢;symm;refine zc7 ha (by simp) fun m hm hle=>?_;have em:m=min2 x y:=by
        have h1:=hle x (by simp);have h2:=hle y (by simp);have h3:m=x∨m=y:=by simpa using hm
        unfold min2;split <;> omega
       have hmb:=hb m hm;symm;refine zge (by omega) (by omega) (by omega) (by omega) fun t b hL p H' f s' e=>?_;obtain ⟨rfl,rfl⟩:=zkz hL;rw [em] at e;exact q p H' f s' e
  ·match xs,hl with
   | [x,y,z],_ =>
     have hx:=hb x (by simp);have hy:=hb y (by simp);have hz:=hb z (by simp);refine iteT ?_;symm;refine zhQ ha fun H1 s1=>?_;have hm:0≤mid3 x y z∧mid3 x y z≤100:=by rcases zk3 x y z with e | e | e <;> rw [e] <;> assumption
     symm;refine zge (by omega) (by omega) (by omega) (by omega) fun t b hL p H' f s' e=>?_;obtain ⟨rfl,rfl⟩:=zkz hL;exact q p H' (s1.free f) (s1.trans s') e
theorem zkA {H:Hp} {a:Addr} {xs:List Int} {s:Int} {Q:VK} {E:XK} (h1:SqL K H a (xs.map V.int)) (h2:xs.length=2∨xs.length=3) (h3:∀ x∈xs,0≤x∧x≤100) (q:∀ p H',H p=none→Same H H'→H' p=some (.lst ((MarkB xs s).map V.int))→Q (.ref p) H'):zfR K [.ref a,.int s] H Q E:=⟨rfl,a,xs,s,rfl,h1,h2,h3,q⟩
def zb0 (K:PySem.W.Frag) (C:Addr):Sp:=fun vs H Q _=>vs.length=2∧∃ (x:Addr) (F:Addr→Prop) (st:ExS) (k:Int),vs=[.ref x,.int k]∧ExAt C H x F st∧InB st.hs st.rs∧1≤k∧k≤st.nm.length∧(∀ v H',Same H H'→ze6 H v (zbG st.nm st.en st.step (k-1).toNat) H'→Q v H')
theorem zeK (T:Txt K mg t):FnOk P w K mg base CX0 4 t.f_44 t.d_44 ["self","paper"] (zb0 K t.C_Exam):=by
 have G_42:=zbc (P:=P) (w:=w) (base:=base) T;have G_43:=zcm (P:=P) (w:=w) (base:=base) T;have G_18:=zja (P:=P) (w:=w) (base:=base) T;refine T.F_44.ok sc_44 (fun _ _ _ _ h=>h.1) fun cdv A outer s H vs Q E hr h=>by
  refine ⟨_,(zab (zaS (zap (op_gt) (zag (zai (K:=K) rfl) (by rfl) T.z_len (by rfl) (zaa (zbf (pv 0) T.cl_Exam T.me_42 G_42 (hr.mono (by decide)) T.b_42 .nil zau (zaa (pv 1) pa_nil)) pa_nil)) zad (zaC _))
   (zae (zak zcL)) pss_nil)
   (zab (zax (i:=2) sc_44.nd rfl (Or.inl rfl) (zbf (pv 0) T.cl_Exam T.me_43 G_43 (hr.mono (by decide)) T.b_43 .nil zau (zaa (pv 1) pa_nil)))
   (zab (zb3 (i:=3) sc_44.nd rfl (Or.inl rfl) (by rfl) (zas (sc:=zac s_44) (XN:=["self","paper","points","readings"]) (N:=["reader","given"]) (own:=2) (js:=[]) rfl rfl (by decide +kernel)) rfl (zjK (K:=K) rfl (by rfl) T.z_zip (zaa (zaw (zaf (K:=K) rfl) (zaF (K:=K) rfl (pv 0)) (zaq (op_sub) (pv 1) zad) (fun _ _=>rfl)) (zaa (pv 2) pa_nil))) (fun _ _ _ _ _=>(zfY (K:=K) (n:=2) rfl rfl (zce (zar (i:=0) (show List.Nodup [(Str.ofString "reader"),(Str.ofString "given")] by decide +kernel) rfl (Or.inl rfl)) (zce (zar (i:=1) (show List.Nodup [(Str.ofString "reader"),(Str.ofString "given")] by decide +kernel) rfl (Or.inl rfl)) pgs_nil)))) (fun _ _ _ _ _=>zbx) (fun _ _ _ _ _=>(zaM (zaa (pv 0) (zaa (pv 1) pa_nil)))))
   (zae (zak (zaq (op_addG) (zal G_18 (hr.mono (by decide)) (by rfl) T.m_18 T.F_18.kp T.b_18 .nil zau (zaa (pv 2) (zaa (zaF (K:=K) rfl (pv 0)) pa_nil))) (zaM (zaa (pv 3) pa_nil)))))))),?_⟩
  obtain ⟨_,x,F,st,k,rfl,E0,BB,k1,k2,q⟩:=h;have B1:=BB.lp;have B2:=BB.lr;have E0':=E0;walk_at "hd";have lq:=I.lq;have ld:=I.ld;have l10:=I.wf.n10 BB;have hk:(k-1).toNat < st.nm.length:=by omega
  have hdic:=I.rd _ hk;have hrow:=I.rq _ hk;have hvk:=I.vk _ hk;have hlr:=(I.wf.row _ hk).len;have hpl:=zf5 st.nm st.en (k-1).toNat;symm;refine zbh E0' BB k1 k2 (fun Q z=>zeE (i:=1) rfl z) fun p1 H1 f1 s1 e1=>?_;symm;refine zbi (fun h0=>?_) (fun h0=>?_)
  ·symm;refine q .non H1 s1 ?_;have hm:zbG st.nm st.en st.step (k-1).toNat=none:=by
    unfold zbG;rw [if_neg (fun z=>by rw [z] at h0;exact absurd h0 (by simp))]
   rw [hm];rfl
  ·have hw:zaO st.nm st.en (k-1).toNat=[]:=List.eq_nil_of_length_eq_zero (by omega);have hm:zbG st.nm st.en st.step (k-1).toNat=some ((MarkB (ptsOf st.nm st.en (k-1).toNat) st.step).getD 0 0,(MarkB (ptsOf st.nm st.en (k-1).toNat) st.step).getD 1 0,((st.nm.getD (k-1).toNat []).zip (ptsOf st.nm st.en (k-1).toNat)).map fun p=>[p.1,p.2]):=by
    unfold zbG;rw [if_pos hw]
   rw [hm] at q;have E1:=E0'.same s1;symm;refine zcw E1 BB k1 k2 hw (fun Q z=>zeE (i:=1) rfl z) fun p2 H2 f2 s2 e2=>?_;have s02:=s1.trans s2;have hob:=s02 _ _ hob;have hhc:=s02 _ _ hhc;have hrow:=s02 _ _ hrow;symm;refine zjL (SqL.of hrow) (SqL.of e2) ?_;refine zb7 (zco.zip (SqL.of hrow) (SqL.of e2) (by rw [List.length_map,List.length_map,hpl])) (by rw [List.length_map];omega) (fun i=>[(st.nm.getD (k-1).toNat []).getD i 0,(ptsOf st.nm st.en (k-1).toNat).getD i 0]) (fun i H' Q' hi s q'=>?_) fun p3 H3 R3=>?_
   ·rw [List.length_map] at hi;have ex:((st.nm.getD (k-1).toNat []).map V.int).getD i .non=.int ((st.nm.getD (k-1).toNat []).getD i 0):=zc9 hi;have ey:((ptsOf st.nm st.en (k-1).toNat).map V.int).getD i .non=.int ((ptsOf st.nm st.en (k-1).toNat).getD i 0):=zc9 (by omega);rw [ex,ey];show (_:TE) (some (.int _)::some (.int _)::_) _ _;symm;refine zat (by simp) fun p4 H4 f4 s4 e4=>?_;exact q' p4 H4 f4 s4 e4
   ·have er:(List.range ((st.nm.getD (k-1).toNat []).map V.int).length).map (fun i=>[(st.nm.getD (k-1).toNat []).getD i 0,(ptsOf st.nm st.en (k-1).toNat).getD i 0])=((st.nm.getD (k-1).toNat []).zip (ptsOf st.nm st.en (k-1).toNat)).map fun p=>[p.1,p.2]:=by
     rw [List.length_map];exact zgF hpl
    rw [er] at R3;have s03:=s02.trans R3.same;have hob:=R3.same _ _ hob;symm;refine zkA (SqL.of (R3.same _ _ e2)) (by rw [hpl];exact hlr) (fun x hx=>I.wf.ptsOf hx) fun p4 H4 f4 s4 e4=>?_;have s04:=s03.trans s4;symm;refine zat (by simp) fun p5 H5 f5 s5 e5=>?_;symm;obtain ⟨sR,nR,psr,r1,r2,_,r3⟩:=R3;have ml:MarkB (ptsOf st.nm st.en (k-1).toNat) st.step=[(MarkB (ptsOf st.nm st.en (k-1).toNat) st.step).getD 0 0,(MarkB (ptsOf st.nm st.en (k-1).toNat) st.step).getD 1 0]:=by
     unfold MarkB zft;split
     ·split
      ·split <;> rfl
      ·rfl
     ·rfl
    rw [ml] at e4;refine zfX (s5 _ _ e4) e5 (by simp) fun p6 H6 f6 s6 e6=>?_;have s46:=s5.trans s6;have s36:=s4.trans s46;refine q _ H6 (s03.trans s36) ⟨p6,p3,psr,rfl,(s04.trans s5).free f6,s02.free nR,e6,s36 _ _ r1,r2,fun j hj=>⟨s02.free (r3 j hj).2.1,s36 _ _ (r3 j hj).1⟩⟩
theorem zfq {K:PySem.W.Frag} {C x:Addr} {H:Hp} {F:Addr→Prop} {st:ExS} {k:Int} {Q:VK} {E:XK} (h:ExAt C H x F st) (B:InB st.hs st.rs) (k1:1≤k) (k2:k≤st.nm.length) (q:(∀ v H',Same H H'→ze6 H v (zbG st.nm st.en st.step (k-1).toNat) H'→Q v H')):zb0 K C [.ref x,.int k] H Q E:=⟨rfl,x,F,st,k,rfl,h,B,k1,k2,q⟩
theorem zfr {K:PySem.W.Frag} {C x:Addr} {H:Hp} {F:Addr→Prop} {st:ExS} {k:Int} {Q:VK} {E:XK} {σ:L2.St} {tk:TE} (h:ExAt C H x F st) (B:InB st.hs st.rs) (k1:1≤k) (k2:k≤st.nm.length) (hk:∀ Q:VK,Q (.int k) H→tk σ H Q) (q:(∀ v H',Same H H'→ze6 H v (zbG st.nm st.en st.step (k-1).toNat) H'→Q v H')):zbm C "mark_for" (zb0 K C) E (zgi tk tNil) σ (.ref x) H Q:=by
 obtain ⟨dx,fs,e,l⟩:=h.ob;exact zaN e (l _ (by decide +kernel)) (zfF (hk _ (zeF (zfq h B k1 k2  q))))
def zcK (K:PySem.W.Frag) (C:Addr):Sp:=fun vs H Q _=>vs.length=1∧∃ (x:Addr) (F:Addr→Prop) (st:ExS),vs=[.ref x]∧ExAt C H x F st∧InB st.hs st.rs∧(∀ p H',ze7 H p (zcM st) H'→Q (.ref p) H')
theorem zgf (T:Txt K mg t):FnOk P w K mg base CX0 5 t.f_37 t.d_37 ["self"] (zcK K t.C_Exam):=by
 have G_44:=zeK (P:=P) (w:=w) (base:=base) T;refine T.F_37.ok sc_37 (fun _ _ _ _ h=>h.1) fun cdv A outer s H vs Q E hr h=>by
  refine ⟨_,(zab (zaS (za6 (zav (K:=K) rfl (zaF (K:=K) rfl (pv 0)) (fun _=>rfl)))
   (zae (zak (za7 (zas (sc:=zac s_37) (XN:=["self"]) (N:=["house"]) (own:=1) (js:=[]) rfl rfl (by decide +kernel)) rfl (zaJ (K:=K) rfl (zaF (K:=K) rfl (pv 0))) (fun _ _ _ _ _=>(zar (i:=0) (show List.Nodup [(Str.ofString "house")] by decide +kernel) rfl (Or.inl rfl))) (fun _ _ _ _ _=>zbx) (fun _ _ _ _ _=>zcL)))) pss_nil)
   (zae (zak (za7 (zas (sc:=zac s_37) (XN:=["self"]) (N:=["paper","self"]) (own:=1) (js:=[0]) rfl rfl (by decide +kernel)) rfl (zb4 (by rfl) T.z_range (zaa zad (zaa (zaq (op_addG) (zag (zai (K:=K) rfl) (by rfl) T.z_len (by rfl) (zaa (zaF (K:=K) rfl (pv 0)) pa_nil)) zad) pa_nil))) (fun _ _ _ _ _=>(zar (i:=0) (show List.Nodup [(Str.ofString "paper"),(Str.ofString "self")] by decide +kernel) rfl (Or.inl rfl))) (fun _ _ _ _ _=>zbx) (fun _ _ _ _ _=>(zbf (pv 1) T.cl_Exam T.me_44 G_44 (hr.mono (by decide)) T.b_44 .nil zau (zaa (pv 0) pa_nil))))))),?_⟩
  obtain ⟨_,x,F,st,rfl,E0,BB,q⟩:=h;have B1:=BB.lp;have B2:=BB.lr;have E0':=E0;walk_at "hd";have l10:=I.wf.n10 BB;symm
  cases hdl:st.dl with
  | none =>
    refine iteT ?_;rw [hdl] at hob;have fA:=@exFs_a (.ref e.a) (.ref e.b) (.int st.step) (.bl (none:Option (List (List Int)×List (List Int))).isSome) (.ref e.c) (.ref e.d);symm;refine zaT (SqL.of hha) ?_;refine zc0 (zbq (SqL.of hha)) (za1 (by rw [List.length_map];omega)) (fun _=>true) (fun _=>.non) (fun i H' Q' hi s q'=>q') (fun i H' Q' hi s _ q'=>q') fun p hp=>?_;have em:zcM st=(List.range st.hs.length).map fun _=>none:=by unfold zcM;rw [hdl]
    rw [List.filter_eq_self.mpr (fun _ _=>rfl),List.length_map];refine q p _ ⟨za0 hp,hp,_,zay,by rw [em];simp,fun i hi=>?_⟩;rw [em] at hi ⊢;rw [List.length_map,List.length_range] at hi;rw [zaB hi,zaB hi];rfl
  | some d =>
    obtain ⟨nm,en⟩:=d;refine iteF ?_;have hln:=I.wf.ln (by rw [hdl];rfl);rw [hdl] at hob;have fA:=@exFs_a (.ref e.a) (.ref e.b) (.int st.step) (.bl (some (nm,en)).isSome) (.ref e.c) (.ref e.d);have enm:st.nm=nm:=by unfold ExS.nm;rw [hdl];rfl
    have een:st.en=en:=by unfold ExS.en;rw [hdl];rfl
    symm;refine zeY ⟨by omega,by omega,by omega,by omega⟩ ?_;have en':((st.hs.length:Int)+1-1).toNat=st.hs.length:=by omega
    rw [en'];refine zch (zib (zco.one (zbM 1 st.hs.length H)) (by omega) (fun p i v H2=>zdz H p v (zbG nm en st.step i) H2) (fun _ _=>True) (fun p i v H1 H2 h k=>h.keep k) (fun p ys i H' Q' hi hp s hpp hl hR q'=>?_) fun p vs H2 hp s hpp hl hR _=>?_)
    ·have E':=E0'.same s;show (_:TE) (some (.int (1+(i:Int)))::_) _ _;symm;refine zfr E' BB (k:=1+(i:Int)) (by omega) (by omega) (fun Q z=>zeE (i:=0) rfl z) fun v H2 s2 M=>?_;have ek:(1+(i:Int)-1).toNat=i:=by omega
     rw [ek,enm,een] at M;exact q' v H2 s2 (M.new s hpp) trivial
    ·refine q p H2 ⟨s,hp,vs,hpp,?_,fun i hi=>?_⟩
     ·unfold zcM;rw [hdl];simpa using hl
     ·have em:zcM st=(List.range st.hs.length).map (zbG nm en st.step):=by unfold zcM;rw [hdl]
      rw [em] at hi ⊢;rw [List.length_map,List.length_range] at hi;rw [zaB hi];exact (hR i hi).is
theorem zg5 {K:PySem.W.Frag} {C x:Addr} {H:Hp} {F:Addr→Prop} {st:ExS} {Q:VK} {E:XK} (h:ExAt C H x F st) (B:InB st.hs st.rs) (q:(∀ p H',ze7 H p (zcM st) H'→Q (.ref p) H')):zcK K C [.ref x] H Q E:=⟨rfl,x,F,st,rfl,h,B,q⟩
theorem zg6 {K:PySem.W.Frag} {C x:Addr} {H:Hp} {F:Addr→Prop} {st:ExS} {Q:VK} {E:XK} {σ:L2.St} (h:ExAt C H x F st) (B:InB st.hs st.rs) (q:(∀ p H',ze7 H p (zcM st) H'→Q (.ref p) H')):zbm C "marks" (zcK K C) E tNil σ (.ref x) H Q:=by
 obtain ⟨dx,fs,e,l⟩:=h.ob;exact zaN e (l _ (by decide +kernel)) (zeF (zg5 h B q))
theorem zg7 {st:ExS} (W:Wf st) (hd:st.dl.isSome=true) {nm en:List (List Int)} {s:Int} (hn:st.nm=nm) (hs:st.step=s) (he:∀ k r,zaE st.en k r=zaE en k r):zcM st=(List.range nm.length).map (zbG nm en s):=by
 rw [zgJ W hd,hn,hs];exact List.map_congr_left fun k _=>ziT he k
theorem zjb {es:List Addr} {E:List E3} (hl:es.length=E.length):((es.zip E).map fun p=>V.ref p.1)=es.map V.ref∧(es.zip E).map Prod.snd=E∧∀ p∈es.zip E,∃ j,j < E.length∧p.1=es.getD j 0∧rowE p.2=(E.map rowE).getD j []:=by
 refine ⟨?_,?_,fun p hp=>?_⟩
 ·rw [show (fun p:Addr×E3=>V.ref p.1)=V.ref∘Prod.fst from rfl,← List.map_map,List.map_fst_zip (by omega)]
 ·exact List.map_snd_zip (by omega)
 ·obtain ⟨j,hj,e⟩:=List.mem_iff_getElem.mp hp;rw [List.length_zip] at hj;refine ⟨j,by omega,?_,?_⟩
  ·rw [← e,List.getElem_zip,List.getD_eq_getElem?_getD,List.getElem?_eq_getElem (by omega)];rfl
  ·rw [← e,List.getElem_zip,List.getD_eq_getElem?_getD,List.getElem?_map,List.getElem?_eq_getElem (by omega)];rfl
def zg8 (K:PySem.W.Frag):Sp:=fun vs H Q _=>vs.length=1∧∃ (a:Addr) (ns:List Int),vs=[.ref a]∧SqL K H a (ns.map V.int)∧ns.length≤63∧∀ H',Q (.bl true) H'
theorem zn7 (T:Txt K mg t):FnOk P w K mg base CX0 23 t.f_69 t.d_69 ["_law_script"] (zg8 K):=by
 have G_52:=zfu (P:=P) (w:=w) (base:=base) T;have G_63:=zht (P:=P) (w:=w) (base:=base) T;have G_47:=zdc (P:=P) (w:=w) (base:=base) T;have G_55:=zhv (P:=P) (w:=w) (base:=base) T;have G_49:=zgP (P:=P) (w:=w) (base:=base) T;have G_28:=zgS (P:=P) (w:=w) (base:=base) T;have G_34:=zfk (P:=P) (w:=w) (base:=base) T;have G_51:=zfn (P:=P) (w:=w) (base:=base) T;have G_54:=zgU (P:=P) (w:=w) (base:=base) T;have G_65:=zgW (P:=P) (w:=w) (base:=base) T;have G_66:=zd2 (P:=P) (w:=w) (base:=base) T;have G_68:=zfy (P:=P) (w:=w) (base:=base) T;have G_67:=zdI (P:=P) (w:=w) (base:=base) T;have G_36:=zhO (P:=P) (w:=w) (base:=base) T;have G_64:=zen (P:=P) (w:=w) (base:=base) T;have G_37:=zgf (P:=P) (w:=w) (base:=base) T;refine T.F_69.ok sc_69 (fun _ _ _ _ h=>h.1) fun cdv A outer s H vs Q E hr h=>by
  refine ⟨_,(zab (zax (i:=1) sc_69.nd rfl (Or.inl rfl) (zal G_52 (hr.mono (by decide)) (by rfl) T.m_52 T.F_52.kp T.b_52 .nil zau (zaa (pv 0) (zaa zad (zaa zad pa_nil)))))
   (zab (zax (i:=2) sc_69.nd rfl (Or.inl rfl) (zal G_63 (hr.mono (by decide)) (by rfl) T.m_63 T.F_63.kp T.b_63 .nil zau (zaa (zal G_47 (hr.mono (by decide)) (by rfl) T.m_47 T.F_47.kp T.b_47 .nil zau (zaa (pv 0) (zaa zad pa_nil))) pa_nil)))
   (zab (zax (i:=3) sc_69.nd rfl (Or.inl rfl) (zal G_55 (hr.mono (by decide)) (by rfl) T.m_55 T.F_55.kp T.b_55 .nil zau (zaa (zaw (zaf (K:=K) rfl) (pv 1) zad (fun _ _=>rfl)) (zaa (zaw (zaf (K:=K) rfl) (pv 1) zad (fun _ _=>rfl)) (zaa (pv 2) (zaa zad pa_nil))))))
   (zab (zax (i:=4) sc_69.nd rfl (Or.inl rfl) (zal G_55 (hr.mono (by decide)) (by rfl) T.m_55 T.F_55.kp T.b_55 .nil zau (zaa (zaw (zaf (K:=K) rfl) (pv 1) zad (fun _ _=>rfl)) (zaa (zaw (zaf (K:=K) rfl) (pv 1) zad (fun _ _=>rfl)) (zaa (pv 2) (zaa zad pa_nil))))))
   (zab (zaS (zcs (za6 (zav (K:=K) rfl (zal G_49 (hr.mono (by decide)) (by rfl) T.m_49 T.F_49.kp T.b_49 .nil zau (zaa (zbt (pv 3) T.cl_Exam T.me_28 G_28 (hr.mono (by decide)) T.b_28 .nil zau) (zaa za3 pa_nil))) (fun _=>rfl))) (zbS (za6 (zav (K:=K) rfl (zal G_49 (hr.mono (by decide)) (by rfl) T.m_49 T.F_49.kp T.b_49 .nil zau (zaa (zbt (pv 4) T.cl_Exam T.me_28 G_28 (hr.mono (by decide)) T.b_28 .nil zau) (zaa za3 pa_nil))) (fun _=>rfl))))).pt
   (zae (zak za3)) pss_nil)
   (zab (zax (i:=5) sc_69.nd rfl (Or.inl rfl) (zbt (pv 3) T.cl_Exam T.me_34 G_34 (hr.mono (by decide)) T.b_34 .nil zau))
   (zab (zaS (zcs (za6 (zav (K:=K) rfl (zal G_54 (hr.mono (by decide)) (by rfl) T.m_54 T.F_54.kp T.b_54 .nil zau (zaa (zaw (zaf (K:=K) rfl) (pv 1) zad (fun _ _=>rfl)) (zaa (zaw (zaf (K:=K) rfl) (pv 1) zad (fun _ _=>rfl)) (zaa (pv 5) pa_nil)))) (fun _=>rfl))) (zbS (za6 (zav (K:=K) rfl (zal G_51 (hr.mono (by decide)) (by rfl) T.m_51 T.F_51.kp T.b_51 .nil zau (zaa (zbt (pv 4) T.cl_Exam T.me_34 G_34 (hr.mono (by decide)) T.b_34 .nil zau) (zaa (pv 5) pa_nil))) (fun _=>rfl))))).pt
   (zae (zak za3)) pss_nil)
   (zab (zax (i:=6) sc_69.nd rfl (Or.inl rfl) (zal G_65 (hr.mono (by decide)) (by rfl) T.m_65 T.F_65.kp T.b_65 .nil zau (zaa (pv 0) (zaa (pv 2) (zaa (zag (zai (K:=K) rfl) (by rfl) T.z_len (by rfl) (zaa (pv 5) pa_nil)) pa_nil)))))
   (zab (zax (i:=7) sc_69.nd rfl (Or.inl rfl) (zal G_66 (hr.mono (by decide)) (by rfl) T.m_66 T.F_66.kp T.b_66 .nil zau (zaa (pv 0) (zaa (zaw (zaf (K:=K) rfl) (pv 1) zad (fun _ _=>rfl)) (zaa (zaw (zaf (K:=K) rfl) (pv 1) zad (fun _ _=>rfl)) (zaa (pv 2) (zaa (pv 5) (zaa (pv 6) pa_nil))))))))
   (zab (zaS (za6 (zav (K:=K) rfl (zal G_68 (hr.mono (by decide)) (by rfl) T.m_68 T.F_68.kp T.b_68 .nil zau (zaa (pv 3) (zaa (pv 7) pa_nil))) (fun _=>rfl)))
   (zae (zak za3)) pss_nil)
   (zab (zaS (za6 (zav (K:=K) rfl (zal G_68 (hr.mono (by decide)) (by rfl) T.m_68 T.F_68.kp T.b_68 .nil zau (zaa (pv 4) (zaa (zal G_67 (hr.mono (by decide)) (by rfl) T.m_67 T.F_67.kp T.b_67 .nil zau (zaa (pv 0) (zaa (pv 2) (zaa (pv 6) (zaa (pv 7) pa_nil))))) pa_nil))) (fun _=>rfl)))
   (zae (zak za3)) pss_nil)
   (zab (zaZ PassesOwn.never rfl (zaJ (K:=K) rfl (zaM (zaa (pv 3) (zaa (pv 4) pa_nil)))) (zar (i:=8) sc_69.nd rfl (Or.inl rfl))
   (zae (zaS (zcs (za6 (zav (K:=K) rfl (zal G_64 (hr.mono (by decide)) (by rfl) T.m_64 T.F_64.kp T.b_64 .nil zau (zaa (zbt (pv 8) T.cl_Exam T.me_37 G_37 (hr.mono (by decide)) T.b_37 .nil zau) (zaa (pv 5) (zaa (pv 7) (zaa (pv 2) pa_nil))))) (fun _=>rfl))) (zbS (za6 (zav (K:=K) rfl (zal G_51 (hr.mono (by decide)) (by rfl) T.m_51 T.F_51.kp T.b_51 .nil zau (zaa (zbt (pv 8) T.cl_Exam T.me_36 G_36 (hr.mono (by decide)) T.b_36 .nil zau) (zaa (zaM pa_nil) pa_nil))) (fun _=>rfl))))).pt
   (zae (zak za3)) pss_nil)))
   (zae (zak za3)))))))))))))),?_⟩
  obtain ⟨_,a,ns,rfl,hS,hl,q⟩:=h;symm;refine zf9 hS hl (by omega) (by omega) fun p ph ps pr sa ra hs rs rows H1 P1 A=>?_;have B:=A.inb;have B1:=B.lp;have B2:=B.lr;have hS1:=P1.same.seq hS;have ep:=P1.at_p;symm;refine ziV fun H2 s2=>?_;have hst:=zjN (zbJ ns 0);generalize zhj (zbJ ns 0)=stp at *;have P2:=P1.mono s2;have hS2:=s2.seq hS1;have ep2:=P2.at_p;have eh2:=P2.at_h;have es2:=P2.at_s;symm;refine zfN (SqL.of eh2) P2.ls B hst.1 hst.2 fun x1 F1 H3 fx1 S3 nF1 E1=>?_;have ep3:=S3 _ _ ep2;symm;refine zfN (SqL.of (S3 _ _ eh2)) (P2.ls.same S3) B hst.1 hst.2 fun x2 F2 H4 fx2 S4 nF2 E2=>?_;have E1':=E1.same S4;have S24:=S3.trans S4;have dis0:∀ y,F1 y→¬F2 y:=fun y h1 h2=>by obtain ⟨o,e⟩:=ExAt.has E1 h1;exact nF2 _ _ e h2
  have nF2':∀ c o,H2 c=some o→¬F2 c:=fun c o e=>nF2 _ _ (S3 _ _ e);obtain ⟨dx6,fs6,hob6,hlk6⟩:=E1'.ob;symm;refine zaN hob6 (hlk6 _ (by decide +kernel)) ?_;symm;refine zfj E1' B rfl (fun F0=>absurd (F0 rows) (by rw [A.right];decide)) (fun tt FD H5 G1 f5 E1d=>?_);obtain ⟨hr,hmin⟩:zaX hs rs tt=true∧∀ rows,zaX hs rs rows=true→nbB tt rows=true:=FD;obtain ⟨nG1,S25⟩:=f5.nf S24 nF1;obtain ⟨kp2,dis1⟩:=far f5 dis0 (fun y h=>ExAt.has E2 h);have E2':ExAt t.C_Exam H5 x2 F2 ⟨hs,rs,stp,none⟩:=E2.keep fun b o hb e=>kp2 b o hb e;obtain ⟨dx7,fs7,hob7,hlk7⟩:=E2'.ob;symm;refine iteF ?_;symm;refine zaN hob7 (hlk7 _ (by decide +kernel)) ?_;symm;refine zfj E2' B rfl (fun F0=>absurd (F0 rows) (by rw [A.right];decide)) (fun tt2 FD2 H6 G2 f6 E2d=>?_);obtain ⟨hr2,hmin2⟩:zaX hs rs tt2=true∧∀ rows,zaX hs rs rows=true→nbB tt2 rows=true:=FD2;have RP:=zc4.mp hr;have RP2:=zc4.mp hr2;have hlen:=RP.len;have hlen2:=RP2.len;have htt:tt2=tt:=nb_anti (by omega) (fun i hi=>RP2.two i (by omega)) (fun i hi=>RP.two i (by omega)) (hmin2 tt hr) (hmin tt2 hr2);subst htt;obtain ⟨nG2,S26⟩:=f6.nf S25 nF2';obtain ⟨kp1,dis2⟩:=far f6 (fun y h2 h1=>dis1 y h1 h2) (fun y h=>ExAt.has E1d h);have E16:ExAt t.C_Exam H6 x1 G1 (S0 hs rs tt2 stp):=E1d.keep fun b o hb e=>kp1 b o hb e;have E26:ExAt t.C_Exam H6 x2 G2 (S0 hs rs tt2 stp):=E2d;have W0:=E16.wf;have P6:=P2.mono S26;have ep6:=P6.at_p;have eh6:=P6.at_h;symm;refine iteF ?_;symm;refine zdu E16 B ⟨fun z=>absurd z (by simp),fun nm en z p8 H7 R8=>?_⟩;obtain ⟨rfl,rfl⟩:nm=tt2∧en=[]:=by
   injection z with z;injection z with z1 z2;exact ⟨z1.symm,z2.symm⟩
  rw [zie hr] at R8;have E17:=E16.same R8.same;have E27:=E26.same R8.same;have S27:=S26.trans R8.same;have P7:=P2.mono S27;have ep7:=P7.at_p;have eh7:=P7.at_h;obtain ⟨za,hza,hzal⟩:=R8.lst;symm;refine zhE (SqL.of eh7) P7.ls B.r2 ⟨_,hza⟩ R8.ll (by omega) (by omega) (by omega) fun H8 s8=>?_;symm;rw [hr];refine iteF ?_;have E28:=E27.same s8;symm;refine zdu E28 B ⟨fun z=>absurd z (by simp),fun nm2 en2 z p9 H9 R9=>?_⟩;obtain ⟨rfl,rfl⟩:nm2=nm∧en2=[]:=by
   injection z with z;injection z with z1 z2;exact ⟨z1.symm,z2.symm⟩
  rw [zie hr] at R9;have s79:=s8.trans R9.same;have R89:=R8.mono s79;obtain ⟨zb,hzb,hzbl⟩:=R9.lst;symm;refine zej ⟨_,hzb⟩ R9.ll R89.ll (by omega) (fun i hi=>by rw [RP.two i (by omega)];decide) ?_;rw [decide_eq_true rfl];symm;refine iteF ?_;have S69:=R8.same.trans s79;have S29:=S26.trans S69;have hS9:=S29.seq hS2;obtain ⟨sb8,n8,psn,hn,hnl,hnd,hnr⟩:=id R89;symm;refine zhF hS9 hl (by omega) (by omega) fun tb H10 tab RT htl htr=>?_;have S610:=S69.trans RT.same;have S210:=S26.trans S610;have P10:=P2.mono S210;have ep10:=P10.at_p;have E110:=E16.same S610;have E210:=E26.same S610;have hS10:=S210.seq hS2;have hn10:=RT.same _ _ hn;have hmn:∀ y∈psn,H6 y=none∧y≠p8∧∃ o,H9 y=some o:=fun y hy=>by
   obtain ⟨i,hi,ei⟩:=L2.mem_getD (d:=0) hy;have:=hnr i (by omega);rw [ei] at this;exact ⟨this.2.1,this.2.2,_,this.1⟩
  have hmn2:∀ y∈p8::psn,H2 y=none∧¬G1 y∧¬G2 y:=fun y hy=>by
   have h6:H6 y=none:=by
    rcases List.mem_cons.mp hy with z | z
    ·rw [z];exact n8
    ·exact (hmn y z).1
   exact ⟨S26.free h6,E16.new h6,E26.new h6⟩
  have hled:∀ d H1',H10 d=none→Same H10 H1'→H1' d=some (.lst [])→Led H1' ⟨ph,ps,p8,d,sa,psn,[]⟩ hs rs nm2 []:=fun d H1' fd sd ed=>by
   refine (Both.mk0 (H0:=H2) (E110.same sd) B (S210.trans sd) nG1 eh2 es2 P2.sl P2.s_at P2.nd (sd _ _ hn10) hnl (fun i hi=>sd _ _ (RT.same _ _ (hnr i hi).1)) hnd (fun z=>(hmn _ z).2.1 rfl) ed (fun z=>?_) (fun y hy=>?_)).led
   ·rcases List.mem_cons.mp z with z | z
    ·rw [z,hn10] at fd;cases fd
    ·obtain ⟨_,_,o,e⟩:=hmn _ z;rw [RT.same _ _ e] at fd;cases fd
   ·rcases List.mem_cons.mp hy with z | z
    ·rw [z];exact ⟨S210.free fd,E110.new fd⟩
    ·exact ⟨(hmn2 y z).1,(hmn2 y z).2.1⟩
  obtain ⟨ptb,tb1,tb2,tb3,tb4⟩:=RT.rows;have htn:∀ y,y=tb∨y∈ptb→H9 y=none:=fun y hy=>by
   rcases hy with z | z
   ·rw [z];exact RT.new
   ·obtain ⟨i,hi,ei⟩:=L2.mem_getD (d:=0) z;rw [← ei];exact (tb4 i (by omega)).2.1
  have htp:∀ y,y=tb∨y∈ptb→y∉psn:=fun y hy z=>by
   obtain ⟨_,_,o,e⟩:=hmn _ z;rw [htn y hy] at e;cases e
  have hfrm:∀ H',(∀ y u,H10 y=some u→y∉psn→H' y=some u)→LL K H' tb tab∧SqL K H' a (ns.map V.int):=fun H' fr=>by
   refine ⟨⟨ptb,SqL.of (fr _ _ tb1 (htp _ (.inl rfl))),tb2,fun i hi=>fr _ _ (tb4 i hi).1 (htp _ (.inr (zbX (by omega))))⟩,?_⟩;have sH:Same H (fun y=>if y∈psn then none else H10 y):=fun y o e=>by
    have hy:y∉psn:=fun z=>by
     have:=(hmn2 y (List.mem_cons_of_mem _ z)).1;rw [(P1.same.trans s2) _ _ e] at this;cases this
    show (if y∈psn then none else H10 y)=some o;rw [if_neg hy];exact S210 _ _ ((P1.same.trans s2) _ _ e)
   have sH':Same (fun y=>if y∈psn then none else H10 y) H':=fun y o e=>by
    by_cases hy:y∈psn
    ·have e:(if y∈psn then none else H10 y)=some o:=e;rw [if_pos hy] at e;cases e
    ·have e:(if y∈psn then none else H10 y)=some o:=e;rw [if_neg hy] at e;exact fr y o e hy
   exact sH'.seq (sH.seq hS)
  symm;refine zek (a:=ph) (b:=ps) (c:=p8) (tb:=tb) (ps:=sa) (qs:=psn) (tab:=tab) hl hled hfrm (by omega) htr B W0 (fun k hk=>⟨RP.two k (by omega),by have:=RP.lt k (by omega);omega⟩) fun H11 d es E fd L11 ok hp hdue fr11 hes hE30=>?_;have hmemG:∀ y,H10 y=none→¬G1 y∧¬G2 y:=fun y hy=>⟨E110.new hy,E210.new hy⟩
  have gps:∀ y,y∈psn→¬G1 y∧¬G2 y:=fun y hy=>(hmn2 y (List.mem_cons_of_mem _ hy)).2;have E111:ExAt t.C_Exam H11 x1 G1 (S0 hs rs nm2 stp):=E110.keep fun b o hb e=>fr11 b o e (fun z=>(gps b z).1 hb);have E211:ExAt t.C_Exam H11 x2 G2 (S0 hs rs nm2 stp):=E210.keep fun b o hb e=>fr11 b o e (fun z=>(gps b z).2 hb);have hel:es.length=E.length:=by have:=L11.le;rw [List.length_map] at this;exact this
  have lall:∀ y∈(⟨ph,ps,p8,d,sa,psn,es⟩:LdA).all,¬G1 y∧¬G2 y:=fun y hy=>by
   unfold LdA.all at hy;simp only [List.mem_cons,List.mem_append] at hy;rcases hy with z | z | z | z | z | z | z
   ·rw [z];exact ⟨nG1 _ _ eh2,nG2 _ _ eh2⟩
   ·rw [z];exact ⟨nG1 _ _ es2,nG2 _ _ es2⟩
   ·exact (hmn2 y (by rw [z];exact List.mem_cons_self)).2
   ·rw [z];exact hmemG d fd
   ·obtain ⟨i,hi,ei⟩:=L2.mem_getD (d:=0) z;have:=P2.s_at i (by rw [← P2.sl];exact hi);rw [ei] at this;exact ⟨nG1 _ _ this,nG2 _ _ this⟩
   ·exact gps y z
   ·exact hmemG y (hes y z)
  have RO1:zhq H11 G1 d es (E.map rowE):=⟨L11.hd,(hmemG d fd).1,L11.le,fun i hi=>⟨L11.re i hi,(hmemG _ (hes _ (zbX (by rw [hel];rw [List.length_map] at hi;exact hi)))).1⟩⟩
  have ep11:=fr11 _ _ ep10 (fun z=>by have:=(hmn2 _ (List.mem_cons_of_mem _ z)).1;rw [ep2] at this;cases this);symm;refine zd8 E E111 B rfl RO1 ok (by show 0+E.length≤800;omega) fun H12 G1' fr12 E112=>?_;obtain ⟨kp12,dis3⟩:=far fr12 (fun y h1 h2=>dis2 y h2 h1) (fun y h=>ExAt.has E211 h);have E212:ExAt t.C_Exam H12 x2 G2 (S0 hs rs nm2 stp):=E211.keep fun b o hb e=>kp12 b o hb e;have L12:Led H12 ⟨ph,ps,p8,d,sa,psn,es⟩ hs rs (runS (S0 hs rs nm2 stp) E).nm (E.map rowE):=L11.keep fun y o hy e=>fr12.kp y o e (lall y hy).1;obtain ⟨LT11,hS11⟩:=hfrm H11 fr11;have tG:∀ y,y=tb∨y∈ptb→¬G1 y:=fun y hy=>(E16.same S69).new (htn y hy);have tab12:LL K H12 tb tab:=⟨ptb,SqL.of (fr12.kp _ _ (fr11 _ _ tb1 (htp _ (.inl rfl))) (tG _ (.inl rfl))),tb2,fun i hi=>fr12.kp _ _ (fr11 _ _ (tb4 i hi).1 (htp _ (.inr (zbX (by omega))))) (tG _ (.inr (zbX (by omega))))⟩
  have hS12:SqL K H12 a (ns.map V.int):=by
   have sa1:Same H H12:=fun y o e=>by
    have e2:=(P1.same.trans s2) _ _ e;exact fr12.kp _ _ (fr11 _ _ (S210 _ _ e2) (fun z=>by have:=(hmn2 _ (List.mem_cons_of_mem _ z)).1;rw [e2] at this;cases this)) (nG1 _ _ e2)
   exact sa1.seq hS
  obtain ⟨z1,z2,z3⟩:=zjb hel;have hMrow:∀ pp∈es.zip E,H12 pp.1=some (.lst ((rowE pp.2).map V.int))∧pp.1∈es:=fun pp hpp=>by
   obtain ⟨j,hj,e1,e2⟩:=z3 pp hpp;rw [e1,e2];exact ⟨L12.re j (by rw [List.length_map];exact hj),zbX (by omega)⟩
  have ed12:=L12.hd;have TM:Tame nm2 (fun k=>tab.getD k []) stp (apK tab stp):=⟨fun k hk=>RP.two k (by omega),fun k hk=>by have:=RP.lt k (by omega);omega,fun k hk ha=>by unfold apK at ha;simpa using ha⟩
  have hkE:∀ e∈E,e.1 < tab.length:=fun e he=>by
   obtain ⟨A1,A2,rfl⟩:=List.append_of_mem he;have o1:okS (S0 hs rs nm2 stp) (A1++[e]):=zf8 (fs:=A2) (by rw [List.append_assoc];exact ok);have h1:=((ok_snoc _ _ _).mp o1).2.1;rw [(zcO (S0 hs rs nm2 stp) A1).2.2.2] at h1;have h1:e.1 < nm2.length:=h1;omega
  symm;refine iteF ?_;symm;refine zd9 (tab:=tab) (es.zip E) hS12 hl tab12 (fun i hi=>(htr i hi).1) (by omega) (by rw [z1];exact ed12) (fun pp hpp=>⟨(hMrow pp hpp).1,hkE _ (by rw [← z2];exact List.mem_map.mpr ⟨pp,hpp,rfl⟩)⟩) (by rw [List.length_zip];omega) fun pm H13 N fpm s13 epm hfA hfC=>?_;have mapf:∀ (L:List (Addr×E3)) (c:E3→Bool),(L.map Prod.snd).filter c=(L.filter fun pp=>c pp.2).map Prod.snd:=fun L c=>by rw [List.filter_map];rfl
  have hperm:N.Perm (es.zip E):=by
   have p1:=List.filter_append_perm (fun pp:Addr×E3=>apK tab stp pp.2.1) N;have p2:=List.filter_append_perm (fun pp:Addr×E3=>apK tab stp pp.2.1) (es.zip E);refine p1.symm.trans (.trans ?_ p2);rw [hfA];exact List.Perm.append_left _ hfC
  have fE:∀ c:E3→Bool,((es.zip E).filter fun pp=>c pp.2).map Prod.snd=E.filter c:=fun c=>by rw [← mapf (es.zip E) c,z2]
  obtain ⟨ok2,hnm2,hent2⟩:=zkn (E:=E) (E2:=N.map Prod.snd) TM ok hp ((mapf N fun e=>apK tab stp e.1).trans ((congrArg (List.map Prod.snd) hfA).trans (fE fun e=>apK tab stp e.1))) (by rw [mapf N (fun e=>!apK tab stp e.1),← fE (fun e=>!apK tab stp e.1)];exact hfC.map Prod.snd);have E213:=E212.same s13;have hNl:N.length=E.length:=by rw [hperm.length_eq,List.length_zip];omega
  have pmG:¬G2 pm:=E212.new fpm;have RO2:zhq H13 G2 pm (N.map Prod.fst) ((N.map Prod.snd).map rowE):=by
   refine ⟨by rw [epm,List.map_map];rfl,pmG,by rw [List.length_map,List.length_map,List.length_map],fun i hi=>?_⟩;rw [List.length_map,List.length_map] at hi;have hmem:=hperm.mem_iff.mp (getD_mem (d:=((0:Addr),(0:Nat),(0:Int),(0:Int))) hi);rw [zfz (d:=((0:Addr),(0:Nat),(0:Int),(0:Int))) hi,List.map_map,zfz (d:=((0:Addr),(0:Nat),(0:Int),(0:Int))) hi];exact ⟨s13 _ _ (hMrow _ hmem).1,(hmemG _ (hes _ (hMrow _ hmem).2)).2⟩
  symm;refine zd8 (N.map Prod.snd) E213 B rfl RO2 ok2 (by show 0+(N.map Prod.snd).length≤800;rw [List.length_map];omega) fun H14 G2' fr14 E214=>?_;have E113:=E112.same s13;obtain ⟨kp14,_⟩:=far fr14 (fun y h2 h1=>dis3 y h1 h2) (fun y h=>ExAt.has E113 h);have E114:ExAt t.C_Exam H14 x1 G1' (runS (S0 hs rs nm2 stp) E):=E113.keep fun b o hb e=>kp14 b o hb e;have L14:Led H14 ⟨ph,ps,p8,d,sa,psn,es⟩ hs rs (runS (S0 hs rs nm2 stp) E).nm (E.map rowE):=L12.keep fun y o hy e=>fr14.kp y o (s13 _ _ e) (lall y hy).2;obtain ⟨W1,hd1⟩:=zgZ W0 rfl ok;obtain ⟨W2,hd2⟩:=zgZ W0 rfl ok2;obtain ⟨u1,u2,u3,u4⟩:=zcO (S0 hs rs nm2 stp) E;obtain ⟨w1,w2,w3,w4⟩:=zcO (S0 hs rs nm2 stp) (N.map Prod.snd);have en1:=en0 (hs:=hs) (rs:=rs) (tt:=nm2) (stp:=stp) E;have en2:=en0 (hs:=hs) (rs:=rs) (tt:=nm2) (stp:=stp) (N.map Prod.snd);have B114:InB (runS (S0 hs rs nm2 stp) E).hs (runS (S0 hs rs nm2 stp) E).rs:=by rw [u1,u2];exact B
  have B214:InB (runS (S0 hs rs nm2 stp) (N.map Prod.snd)).hs (runS (S0 hs rs nm2 stp) (N.map Prod.snd)).rs:=by rw [w1,w2];exact B
  have hM1:=zg7 W1 hd1 (nm:=(runS (S0 hs rs nm2 stp) E).nm) (en:=E.map rowE) (s:=stp) rfl u3 (fun k r=>by rw [en1]);have hM2:=zg7 W2 hd2 (nm:=(runS (S0 hs rs nm2 stp) E).nm) (en:=E.map rowE) (s:=stp) hnm2 w3 (fun k r=>by rw [hent2,en1]);have hD1:dueS (runS (S0 hs rs nm2 stp) E)=[]:=by show dueB _ _=[];rw [en1];exact hdue
  have hD2:dueS (runS (S0 hs rs nm2 stp) (N.map Prod.snd))=[]:=by
   show dueB _ _=[];rw [hnm2,zkq (en':=E.map rowE) (fun k r=>by rw [hent2,en1])];exact hdue
  have hwant:=zkg.mp hdue;have hro:=W1.row;rw [en1] at hro;have hpts:∀ k,∀ z∈ptsOf (runS (S0 hs rs nm2 stp) E).nm (E.map rowE) k,0≤z∧z≤100:=fun k z hz=>W1.ptsOf (k:=k) (by rw [en1];exact hz);have hl10:(runS (S0 hs rs nm2 stp) E).nm.length≤10:=W1.n10 B114;generalize hst1:runS (S0 hs rs nm2 stp) E=st1 at *;generalize hst2:runS (S0 hs rs nm2 stp) (N.map Prod.snd)=st2 at *;symm;refine iteF ?_;symm;refine zat (by simp) fun pl H15 fpl s15 epl=>?_;symm;refine zaT (SqL.of epl) ?_;refine zbN (xs:=[V.ref x1,V.ref x2]) (fun j σ J=>∃ v8,σ=[some (.ref a),some (.ref p),some (.int stp),some (.ref x1),some (.ref x2),some (.ref p8),some (.ref tb),some (.ref d),v8]∧Same H15 J) ⟨none,rfl,Same.refl _⟩ ?_ ?_ ?_
  ·rintro j σ J _ ⟨_,_,sJ⟩;exact SqL.of (sJ _ _ epl)
  ·rintro j y σ J hy ⟨v8,rfl,sJ⟩;have sJ':=s15.trans sJ;have LJ:=L14.same sJ';have hj:j < 2:=(List.getElem?_eq_some_iff.mp hy).1;have hcase:∃ (x:Addr) (G:Addr→Prop) (st:ExS),y=.ref x∧ExAt t.C_Exam J x G st∧InB st.hs st.rs∧zcM st=(List.range st1.nm.length).map (zbG st1.nm (E.map rowE) stp)∧dueS st=[]:=by
    match j,hj,hy with
    | 0,_,hy =>
      have hy:some (V.ref x1)=some y:=hy;exact ⟨x1,G1',st1,(Option.some.inj hy).symm,E114.same sJ',B114,hM1,hD1⟩
    | 1,_,hy =>
      have hy:some (V.ref x2)=some y:=hy;exact ⟨x2,G2',st2,(Option.some.inj hy).symm,E214.same sJ',B214,hM2,hD2⟩
   obtain ⟨x,G,st,rfl,EJ,BJ,hMJ,hDJ⟩:=hcase;symm;refine zg6 EJ BJ fun mk J2 M2=>?_;rw [hMJ] at M2;have LJ2:=LJ.same M2.same;have EJ2:=EJ.same M2.same;symm;refine zeJ st1.rs.length M2 LJ2.lc LJ2.ld hl10 (zmF E) hro hwant hpts fun J3 s3=>?_;have EJ3:=EJ2.same s3;symm;refine iteF ?_;symm;refine zi7 EJ3 BJ fun w J4 R4=>?_;rw [hDJ] at R4;obtain ⟨zs,hz,_⟩:=R4.lst;symm;refine zat (by decide) fun w5 J5 g5 s5 e5=>?_;symm;refine zej ⟨_,s5 _ _ hz⟩ (R4.ll.same s5) (⟨[],SqL.of e5,rfl,fun i hi=>absurd hi (by simp)⟩:LL K J5 w5 []) (by simp) (fun i hi=>absurd hi (by simp)) ?_;rw [decide_eq_true rfl];symm;refine iteF ?_;symm;exact ⟨_,rfl,(((sJ.trans M2.same).trans s3).trans R4.same).trans s5⟩
  ·rintro σ J ⟨v8,rfl,sJ⟩;symm;exact q _
theorem law_start {a:Addr} {ns:List Int} {H:Hp} (hl:ns.length≤63) (hS:SqL K H a (ns.map V.int)):zg8 K [.ref a] H (fun v _=>v=.bl true) fun _ _ _=>False:=⟨rfl,a,ns,rfl,hS,hl,fun _=>rfl⟩
end
theorem zn8 {l:PySem.W.OpenLaw} {w:World} {K:PySem.W.Frag} {h:Heap} {mg:Str→Option Value} {fa:Addr} (X:K.In h) (G:h.Ns mainGlobals mg) (hfa:mg "law" = some (.ref fa))
  {C_Attempt:Addr} (aC_Attempt:PySem.W.nsIn K mainGlobals "Attempt" = some (some (.ref C_Attempt)))
  {C_Exam:Addr} (aC_Exam:PySem.W.nsIn K mainGlobals "Exam" = some (some (.ref C_Exam)))
  {tk_READERS_EACH:Tok}
  {tk_MOST_HOUSES:Tok}
  {tk_MOST_PAPERS:Tok}
  {tk_MOST_LIMIT:Tok}
  {tk_MOST_READERS:Tok}
  {tk_MOST_STEP:Tok}
  {tk_MOST_POINTS:Tok}
  (a0:PySem.W.nsIn K mainGlobals "_law_at" = some (some (.ref f0))) (l0:K.lookup f0=some ⟨oc0,od0,.func (PySem.W.fnOf "_law_at" "_law_at" (zan s_47) (zam s_47) (zac s_47) .none kV0 dc0 pm0 an0 cd0 ct0),sl0⟩) (c0:PySem.W.codeIn K cd0 "_law_at" = true) (k0:PySem.W.keepIn K (.ref f0)=true)
  (a1:PySem.W.nsIn K mainGlobals "_law_planted" = some (some (.ref f1))) (l1:K.lookup f1=some ⟨oc1,od1,.func (PySem.W.fnOf "_law_planted" "_law_planted" (zan s_52) (zam s_52) (zac s_52) .none kV1 dc1 pm1 an1 cd1 ct1),sl1⟩) (c1:PySem.W.codeIn K cd1 "_law_planted" = true) (k1:PySem.W.keepIn K (.ref f1)=true)
  (a2:PySem.W.nsIn K mainGlobals "_law_step" = some (some (.ref f2))) (l2:K.lookup f2=some ⟨oc2,od2,.func (PySem.W.fnOf "_law_step" "_law_step" (zan s_63) (zam s_63) (zac s_63) .none kV2 dc2 pm2 an2 cd2 ct2),sl2⟩) (c2:PySem.W.codeIn K cd2 "_law_step" = true) (k2:PySem.W.keepIn K (.ref f2)=true)
  (a3:PySem.W.findIn K (.ref C_Exam) "__init__" = some (some (.ref f3))) (i3:PySem.W.isFn K (.ref f3)=true) (l3:K.lookup f3=some ⟨oc3,od3,.func (PySem.W.fnOf "__init__" "Exam.__init__" (zan s_24) (zam s_24) (zac s_24) .none kV3 dc3 pm3 an3 cd3 ct3),sl3⟩) (c3:PySem.W.codeIn K cd3 "Exam.__init__" = true) (k3:PySem.W.keepIn K (.ref f3)=true)
  (a4:PySem.W.findIn K (.ref C_Exam) "refuse_behind_dealing" = some (some (.ref f4))) (i4:PySem.W.isFn K (.ref f4)=true) (l4:K.lookup f4=some ⟨oc4,od4,.func (PySem.W.fnOf "refuse_behind_dealing" "Exam.refuse_behind_dealing" (zan s_39) (zam s_39) (zac s_39) .none kV4 dc4 pm4 an4 cd4 ct4),sl4⟩) (c4:PySem.W.codeIn K cd4 "Exam.refuse_behind_dealing" = true) (k4:PySem.W.keepIn K (.ref f4)=true)
  (a5:PySem.W.nsIn K mainGlobals "refuse_out_of_bounds" = some (some (.ref f5))) (l5:K.lookup f5=some ⟨oc5,od5,.func (PySem.W.fnOf "refuse_out_of_bounds" "refuse_out_of_bounds" (zan s_21) (zam s_21) (zac s_21) .none kV5 dc5 pm5 an5 cd5 ct5),sl5⟩) (c5:PySem.W.codeIn K cd5 "refuse_out_of_bounds" = true) (k5:PySem.W.keepIn K (.ref f5)=true)
  (a6:PySem.W.findIn K (.ref C_Exam) "set_step" = some (some (.ref f6))) (i6:PySem.W.isFn K (.ref f6)=true) (l6:K.lookup f6=some ⟨oc6,od6,.func (PySem.W.fnOf "set_step" "Exam.set_step" (zan s_27) (zam s_27) (zac s_27) .none kV6 dc6 pm6 an6 cd6 ct6),sl6⟩) (c6:PySem.W.codeIn K cd6 "Exam.set_step" = true) (k6:PySem.W.keepIn K (.ref f6)=true)
  (a7:PySem.W.nsIn K mainGlobals "refuse_unknown" = some (some (.ref f7))) (l7:K.lookup f7=some ⟨oc7,od7,.func (PySem.W.fnOf "refuse_unknown" "refuse_unknown" (zan s_20) (zam s_20) (zac s_20) .none kV7 dc7 pm7 an7 cd7 ct7),sl7⟩) (c7:PySem.W.codeIn K cd7 "refuse_unknown" = true) (k7:PySem.W.keepIn K (.ref f7)=true)
  (a8:PySem.W.nsIn K mainGlobals "refuse_full" = some (some (.ref f8))) (l8:K.lookup f8=some ⟨oc8,od8,.func (PySem.W.fnOf "refuse_full" "refuse_full" (zan s_22) (zam s_22) (zac s_22) .none kV8 dc8 pm8 an8 cd8 ct8),sl8⟩) (c8:PySem.W.codeIn K cd8 "refuse_full" = true) (k8:PySem.W.keepIn K (.ref f8)=true)
  (a9:PySem.W.findIn K (.ref C_Exam) "bring_paper" = some (some (.ref f9))) (i9:PySem.W.isFn K (.ref f9)=true) (l9:K.lookup f9=some ⟨oc9,od9,.func (PySem.W.fnOf "bring_paper" "Exam.bring_paper" (zan s_25) (zam s_25) (zac s_25) .none kV9 dc9 pm9 an9 cd9 ct9),sl9⟩) (c9:PySem.W.codeIn K cd9 "Exam.bring_paper" = true) (k9:PySem.W.keepIn K (.ref f9)=true)
  (a10:PySem.W.findIn K (.ref C_Exam) "bring_reader" = some (some (.ref f10))) (i10:PySem.W.isFn K (.ref f10)=true) (l10:K.lookup f10=some ⟨oc10,od10,.func (PySem.W.fnOf "bring_reader" "Exam.bring_reader" (zan s_26) (zam s_26) (zac s_26) .none kV10 dc10 pm10 an10 cd10 ct10),sl10⟩) (c10:PySem.W.codeIn K cd10 "Exam.bring_reader" = true) (k10:PySem.W.keepIn K (.ref f10)=true)
  (a11:PySem.W.nsIn K mainGlobals "_law_exam" = some (some (.ref f11))) (l11:K.lookup f11=some ⟨oc11,od11,.func (PySem.W.fnOf "_law_exam" "_law_exam" (zan s_55) (zam s_55) (zac s_55) .none kV11 dc11 pm11 an11 cd11 ct11),sl11⟩) (c11:PySem.W.codeIn K cd11 "_law_exam" = true) (k11:PySem.W.keepIn K (.ref f11)=true)
  (a12:PySem.W.nsIn K mainGlobals "_law_truth" = some (some (.ref f12))) (l12:K.lookup f12=some ⟨oc12,od12,.func (PySem.W.fnOf "_law_truth" "_law_truth" (zan s_49) (zam s_49) (zac s_49) .none kV12 dc12 pm12 an12 cd12 ct12),sl12⟩) (c12:PySem.W.codeIn K cd12 "_law_truth" = true) (k12:PySem.W.keepIn K (.ref f12)=true)
  (a13:PySem.W.nsIn K mainGlobals "pairs_of" = some (some (.ref f13))) (l13:K.lookup f13=some ⟨oc13,od13,.func (PySem.W.fnOf "pairs_of" "pairs_of" (zan s_12) (zam s_12) (zac s_12) .none kV13 dc13 pm13 an13 cd13 ct13),sl13⟩) (c13:PySem.W.codeIn K cd13 "pairs_of" = true) (k13:PySem.W.keepIn K (.ref f13)=true)
  (a14:PySem.W.nsIn K mainGlobals "may_read" = some (some (.ref f14))) (l14:K.lookup f14=some ⟨oc14,od14,.func (PySem.W.fnOf "may_read" "may_read" (zan s_1) (zam s_1) (zac s_1) .none kV14 dc14 pm14 an14 cd14 ct14),sl14⟩) (c14:PySem.W.codeIn K cd14 "may_read" = true) (k14:PySem.W.keepIn K (.ref f14)=true)
  (a15:PySem.W.nsIn K mainGlobals "readers_for" = some (some (.ref f15))) (l15:K.lookup f15=some ⟨oc15,od15,.func (PySem.W.fnOf "readers_for" "readers_for" (zan s_2) (zam s_2) (zac s_2) .none kV15 dc15 pm15 an15 cd15 ct15),sl15⟩) (c15:PySem.W.codeIn K cd15 "readers_for" = true) (k15:PySem.W.keepIn K (.ref f15)=true)
  (a16:PySem.W.nsIn K mainGlobals "times_in" = some (some (.ref f16))) (l16:K.lookup f16=some ⟨oc16,od16,.func (PySem.W.fnOf "times_in" "times_in" (zan s_9) (zam s_9) (zac s_9) .none kV16 dc16 pm16 an16 cd16 ct16),sl16⟩) (c16:PySem.W.codeIn K cd16 "times_in" = true) (k16:PySem.W.keepIn K (.ref f16)=true)
  (a17:PySem.W.nsIn K mainGlobals "left_after" = some (some (.ref f17))) (l17:K.lookup f17=some ⟨oc17,od17,.func (PySem.W.fnOf "left_after" "left_after" (zan s_8) (zam s_8) (zac s_8) .none kV17 dc17 pm17 an17 cd17 ct17),sl17⟩) (c17:PySem.W.codeIn K cd17 "left_after" = true) (k17:PySem.W.keepIn K (.ref f17)=true)
  (a18:PySem.W.nsIn K mainGlobals "keeps_to_limits" = some (some (.ref f18))) (l18:K.lookup f18=some ⟨oc18,od18,.func (PySem.W.fnOf "keeps_to_limits" "keeps_to_limits" (zan s_7) (zam s_7) (zac s_7) .none kV18 dc18 pm18 an18 cd18 ct18),sl18⟩) (c18:PySem.W.codeIn K cd18 "keeps_to_limits" = true) (k18:PySem.W.keepIn K (.ref f18)=true)
  (a19:PySem.W.findIn K (.ref C_Attempt) "__init__" = some (some (.ref f19))) (i19:PySem.W.isFn K (.ref f19)=true) (l19:K.lookup f19=some ⟨oc19,od19,.func (PySem.W.fnOf "__init__" "Attempt.__init__" (zan s_Attempt___init__) (zam s_Attempt___init__) (zac s_Attempt___init__) .none kV19 dc19 pm19 an19 cd19 ct19),sl19⟩) (c19:PySem.W.codeIn K cd19 "Attempt.__init__" = true) (k19:PySem.W.keepIn K (.ref f19)=true)
  (a20:PySem.W.findIn K (.ref C_Attempt) "free_reading" = some (some (.ref f20))) (i20:PySem.W.isFn K (.ref f20)=true) (l20:K.lookup f20=some ⟨oc20,od20,.func (PySem.W.fnOf "free_reading" "Attempt.free_reading" (zan s_Attempt_free_reading) (zam s_Attempt_free_reading) (zac s_Attempt_free_reading) .none kV20 dc20 pm20 an20 cd20 ct20),sl20⟩) (c20:PySem.W.codeIn K cd20 "Attempt.free_reading" = true) (k20:PySem.W.keepIn K (.ref f20)=true)
  (a21:PySem.W.findIn K (.ref C_Attempt) "find_reader" = some (some (.ref f21))) (i21:PySem.W.isFn K (.ref f21)=true) (l21:K.lookup f21=some ⟨oc21,od21,.func (PySem.W.fnOf "find_reader" "Attempt.find_reader" (zan s_Attempt_find_reader) (zam s_Attempt_find_reader) (zac s_Attempt_find_reader) .none kV21 dc21 pm21 an21 cd21 ct21),sl21⟩) (c21:PySem.W.codeIn K cd21 "Attempt.find_reader" = true) (k21:PySem.W.keepIn K (.ref f21)=true)
  (a22:PySem.W.nsIn K mainGlobals "readers_suffice" = some (some (.ref f22))) (l22:K.lookup f22=some ⟨oc22,od22,.func (PySem.W.fnOf "readers_suffice" "readers_suffice" (zan s_3) (zam s_3) (zac s_3) .none kV22 dc22 pm22 an22 cd22 ct22),sl22⟩) (c22:PySem.W.codeIn K cd22 "readers_suffice" = true) (k22:PySem.W.keepIn K (.ref f22)=true)
  (a23:PySem.W.nsIn K mainGlobals "with_limits" = some (some (.ref f23))) (l23:K.lookup f23=some ⟨oc23,od23,.func (PySem.W.fnOf "with_limits" "with_limits" (zan s_14) (zam s_14) (zac s_14) .none kV23 dc23 pm23 an23 cd23 ct23),sl23⟩) (c23:PySem.W.codeIn K cd23 "with_limits" = true) (k23:PySem.W.keepIn K (.ref f23)=true)
  (a24:PySem.W.nsIn K mainGlobals "can_go_on" = some (some (.ref f24))) (l24:K.lookup f24=some ⟨oc24,od24,.func (PySem.W.fnOf "can_go_on" "can_go_on" (zan s_13) (zam s_13) (zac s_13) .none kV24 dc24 pm24 an24 cd24 ct24),sl24⟩) (c24:PySem.W.codeIn K cd24 "can_go_on" = true) (k24:PySem.W.keepIn K (.ref f24)=true)
  (a25:PySem.W.nsIn K mainGlobals "first_row_behind" = some (some (.ref f25))) (l25:K.lookup f25=some ⟨oc25,od25,.func (PySem.W.fnOf "first_row_behind" "first_row_behind" (zan s_11) (zam s_11) (zac s_11) .none kV25 dc25 pm25 an25 cd25 ct25),sl25⟩) (c25:PySem.W.codeIn K cd25 "first_row_behind" = true) (k25:PySem.W.keepIn K (.ref f25)=true)
  (a26:PySem.W.nsIn K mainGlobals "first_dealing" = some (some (.ref f26))) (l26:K.lookup f26=some ⟨oc26,od26,.func (PySem.W.fnOf "first_dealing" "first_dealing" (zan s_10) (zam s_10) (zac s_10) .none kV26 dc26 pm26 an26 cd26 ct26),sl26⟩) (c26:PySem.W.codeIn K cd26 "first_dealing" = true) (k26:PySem.W.keepIn K (.ref f26)=true)
  (a27:PySem.W.findIn K (.ref C_Exam) "deal" = some (some (.ref f27))) (i27:PySem.W.isFn K (.ref f27)=true) (l27:K.lookup f27=some ⟨oc27,od27,.func (PySem.W.fnOf "deal" "Exam.deal" (zan s_28) (zam s_28) (zac s_28) .none kV27 dc27 pm27 an27 cd27 ct27),sl27⟩) (c27:PySem.W.codeIn K cd27 "Exam.deal" = true) (k27:PySem.W.keepIn K (.ref f27)=true)
  (a28:PySem.W.findIn K (.ref C_Exam) "dealing" = some (some (.ref f28))) (i28:PySem.W.isFn K (.ref f28)=true) (l28:K.lookup f28=some ⟨oc28,od28,.func (PySem.W.fnOf "dealing" "Exam.dealing" (zan s_34) (zam s_34) (zac s_34) .none kV28 dc28 pm28 an28 cd28 ct28),sl28⟩) (c28:PySem.W.codeIn K cd28 "Exam.dealing" = true) (k28:PySem.W.keepIn K (.ref f28)=true)
  (a29:PySem.W.nsIn K mainGlobals "_law_whole" = some (some (.ref f29))) (l29:K.lookup f29=some ⟨oc29,od29,.func (PySem.W.fnOf "_law_whole" "_law_whole" (zan s_48) (zam s_48) (zac s_48) .none kV29 dc29 pm29 an29 cd29 ct29),sl29⟩) (c29:PySem.W.codeIn K cd29 "_law_whole" = true) (k29:PySem.W.keepIn K (.ref f29)=true)
  (a30:PySem.W.nsIn K mainGlobals "_law_row" = some (some (.ref f30))) (l30:K.lookup f30=some ⟨oc30,od30,.func (PySem.W.fnOf "_law_row" "_law_row" (zan s_50) (zam s_50) (zac s_50) .none kV30 dc30 pm30 an30 cd30 ct30),sl30⟩) (c30:PySem.W.codeIn K cd30 "_law_row" = true) (k30:PySem.W.keepIn K (.ref f30)=true)
  (a31:PySem.W.nsIn K mainGlobals "_law_rows" = some (some (.ref f31))) (l31:K.lookup f31=some ⟨oc31,od31,.func (PySem.W.fnOf "_law_rows" "_law_rows" (zan s_51) (zam s_51) (zac s_51) .none kV31 dc31 pm31 an31 cd31 ct31),sl31⟩) (c31:PySem.W.codeIn K cd31 "_law_rows" = true) (k31:PySem.W.keepIn K (.ref f31)=true)
  (a32:PySem.W.nsIn K mainGlobals "_law_pair" = some (some (.ref f32))) (l32:K.lookup f32=some ⟨oc32,od32,.func (PySem.W.fnOf "_law_pair" "_law_pair" (zan s_53) (zam s_53) (zac s_53) .none kV32 dc32 pm32 an32 cd32 ct32),sl32⟩) (c32:PySem.W.codeIn K cd32 "_law_pair" = true) (k32:PySem.W.keepIn K (.ref f32)=true)
  (a33:PySem.W.nsIn K mainGlobals "_law_right" = some (some (.ref f33))) (l33:K.lookup f33=some ⟨oc33,od33,.func (PySem.W.fnOf "_law_right" "_law_right" (zan s_54) (zam s_54) (zac s_54) .none kV33 dc33 pm33 an33 cd33 ct33),sl33⟩) (c33:PySem.W.codeIn K cd33 "_law_right" = true) (k33:PySem.W.keepIn K (.ref f33)=true)
  (a34:PySem.W.nsIn K mainGlobals "_law_points" = some (some (.ref f34))) (l34:K.lookup f34=some ⟨oc34,od34,.func (PySem.W.fnOf "_law_points" "_law_points" (zan s_62) (zam s_62) (zac s_62) .none kV34 dc34 pm34 an34 cd34 ct34),sl34⟩) (c34:PySem.W.codeIn K cd34 "_law_points" = true) (k34:PySem.W.keepIn K (.ref f34)=true)
  (a35:PySem.W.nsIn K mainGlobals "_law_table" = some (some (.ref f35))) (l35:K.lookup f35=some ⟨oc35,od35,.func (PySem.W.fnOf "_law_table" "_law_table" (zan s_65) (zam s_65) (zac s_65) .none kV35 dc35 pm35 an35 cd35 ct35),sl35⟩) (c35:PySem.W.codeIn K cd35 "_law_table" = true) (k35:PySem.W.keepIn K (.ref f35)=true)
  (a36:PySem.W.nsIn K mainGlobals "_law_given" = some (some (.ref f36))) (l36:K.lookup f36=some ⟨oc36,od36,.func (PySem.W.fnOf "_law_given" "_law_given" (zan s_56) (zam s_56) (zac s_56) .none kV36 dc36 pm36 an36 cd36 ct36),sl36⟩) (c36:PySem.W.codeIn K cd36 "_law_given" = true) (k36:PySem.W.keepIn K (.ref f36)=true)
  (a37:PySem.W.nsIn K mainGlobals "_law_waiting" = some (some (.ref f37))) (l37:K.lookup f37=some ⟨oc37,od37,.func (PySem.W.fnOf "_law_waiting" "_law_waiting" (zan s_57) (zam s_57) (zac s_57) .none kV37 dc37 pm37 an37 cd37 ct37),sl37⟩) (c37:PySem.W.codeIn K cd37 "_law_waiting" = true) (k37:PySem.W.keepIn K (.ref f37)=true)
  (a38:PySem.W.nsIn K mainGlobals "_law_spare" = some (some (.ref f38))) (l38:K.lookup f38=some ⟨oc38,od38,.func (PySem.W.fnOf "_law_spare" "_law_spare" (zan s_59) (zam s_59) (zac s_59) .none kV38 dc38 pm38 an38 cd38 ct38),sl38⟩) (c38:PySem.W.codeIn K cd38 "_law_spare" = true) (k38:PySem.W.keepIn K (.ref f38)=true)
  (a39:PySem.W.nsIn K mainGlobals "_law_third" = some (some (.ref f39))) (l39:K.lookup f39=some ⟨oc39,od39,.func (PySem.W.fnOf "_law_third" "_law_third" (zan s_60) (zam s_60) (zac s_60) .none kV39 dc39 pm39 an39 cd39 ct39),sl39⟩) (c39:PySem.W.codeIn K cd39 "_law_third" = true) (k39:PySem.W.keepIn K (.ref f39)=true)
  (a40:PySem.W.nsIn K mainGlobals "_law_then" = some (some (.ref f40))) (l40:K.lookup f40=some ⟨oc40,od40,.func (PySem.W.fnOf "_law_then" "_law_then" (zan s_61) (zam s_61) (zac s_61) .none kV40 dc40 pm40 an40 cd40 ct40),sl40⟩) (c40:PySem.W.codeIn K cd40 "_law_then" = true) (k40:PySem.W.keepIn K (.ref f40)=true)
  (a41:PySem.W.nsIn K mainGlobals "_law_first_order" = some (some (.ref f41))) (l41:K.lookup f41=some ⟨oc41,od41,.func (PySem.W.fnOf "_law_first_order" "_law_first_order" (zan s_66) (zam s_66) (zac s_66) .none kV41 dc41 pm41 an41 cd41 ct41),sl41⟩) (c41:PySem.W.codeIn K cd41 "_law_first_order" = true) (k41:PySem.W.keepIn K (.ref f41)=true)
  (a42:PySem.W.findIn K (.ref C_Exam) "refuse_ahead_of_dealing" = some (some (.ref f42))) (i42:PySem.W.isFn K (.ref f42)=true) (l42:K.lookup f42=some ⟨oc42,od42,.func (PySem.W.fnOf "refuse_ahead_of_dealing" "Exam.refuse_ahead_of_dealing" (zan s_40) (zam s_40) (zac s_40) .none kV42 dc42 pm42 an42 cd42 ct42),sl42⟩) (c42:PySem.W.codeIn K cd42 "Exam.refuse_ahead_of_dealing" = true) (k42:PySem.W.keepIn K (.ref f42)=true)
  (a43:PySem.W.findIn K (.ref C_Exam) "due_readers" = some (some (.ref f43))) (i43:PySem.W.isFn K (.ref f43)=true) (l43:K.lookup f43=some ⟨oc43,od43,.func (PySem.W.fnOf "due_readers" "Exam.due_readers" (zan s_42) (zam s_42) (zac s_42) .none kV43 dc43 pm43 an43 cd43 ct43),sl43⟩) (c43:PySem.W.codeIn K cd43 "Exam.due_readers" = true) (k43:PySem.W.keepIn K (.ref f43)=true)
  (a44:PySem.W.findIn K (.ref C_Exam) "refuse_not_due" = some (some (.ref f44))) (i44:PySem.W.isFn K (.ref f44)=true) (l44:K.lookup f44=some ⟨oc44,od44,.func (PySem.W.fnOf "refuse_not_due" "Exam.refuse_not_due" (zan s_41) (zam s_41) (zac s_41) .none kV44 dc44 pm44 an44 cd44 ct44),sl44⟩) (c44:PySem.W.codeIn K cd44 "Exam.refuse_not_due" = true) (k44:PySem.W.keepIn K (.ref f44)=true)
  (a45:PySem.W.findIn K (.ref C_Exam) "points_for" = some (some (.ref f45))) (i45:PySem.W.isFn K (.ref f45)=true) (l45:K.lookup f45=some ⟨oc45,od45,.func (PySem.W.fnOf "points_for" "Exam.points_for" (zan s_43) (zam s_43) (zac s_43) .none kV45 dc45 pm45 an45 cd45 ct45),sl45⟩) (c45:PySem.W.codeIn K cd45 "Exam.points_for" = true) (k45:PySem.W.keepIn K (.ref f45)=true)
  (a46:PySem.W.nsIn K mainGlobals "agree" = some (some (.ref f46))) (l46:K.lookup f46=some ⟨oc46,od46,.func (PySem.W.fnOf "agree" "agree" (zan s_17) (zam s_17) (zac s_17) .none kV46 dc46 pm46 an46 cd46 ct46),sl46⟩) (c46:PySem.W.codeIn K cd46 "agree" = true) (k46:PySem.W.keepIn K (.ref f46)=true)
  (a47:PySem.W.findIn K (.ref C_Exam) "needs_third" = some (some (.ref f47))) (i47:PySem.W.isFn K (.ref f47)=true) (l47:K.lookup f47=some ⟨oc47,od47,.func (PySem.W.fnOf "needs_third" "Exam.needs_third" (zan s_46) (zam s_46) (zac s_46) .none kV47 dc47 pm47 an47 cd47 ct47),sl47⟩) (c47:PySem.W.codeIn K cd47 "Exam.needs_third" = true) (k47:PySem.W.keepIn K (.ref f47)=true)
  (a48:PySem.W.nsIn K mainGlobals "third_for" = some (some (.ref f48))) (l48:K.lookup f48=some ⟨oc48,od48,.func (PySem.W.fnOf "third_for" "third_for" (zan s_23) (zam s_23) (zac s_23) .none kV48 dc48 pm48 an48 cd48 ct48),sl48⟩) (c48:PySem.W.codeIn K cd48 "third_for" = true) (k48:PySem.W.keepIn K (.ref f48)=true)
  (a49:PySem.W.findIn K (.ref C_Exam) "left" = some (some (.ref f49))) (i49:PySem.W.isFn K (.ref f49)=true) (l49:K.lookup f49=some ⟨oc49,od49,.func (PySem.W.fnOf "left" "Exam.left" (zan s_38) (zam s_38) (zac s_38) .none kV49 dc49 pm49 an49 cd49 ct49),sl49⟩) (c49:PySem.W.codeIn K cd49 "Exam.left" = true) (k49:PySem.W.keepIn K (.ref f49)=true)
  (a50:PySem.W.findIn K (.ref C_Exam) "name_third" = some (some (.ref f50))) (i50:PySem.W.isFn K (.ref f50)=true) (l50:K.lookup f50=some ⟨oc50,od50,.func (PySem.W.fnOf "name_third" "Exam.name_third" (zan s_45) (zam s_45) (zac s_45) .none kV50 dc50 pm50 an50 cd50 ct50),sl50⟩) (c50:PySem.W.codeIn K cd50 "Exam.name_third" = true) (k50:PySem.W.keepIn K (.ref f50)=true)
  (a51:PySem.W.findIn K (.ref C_Exam) "enter" = some (some (.ref f51))) (i51:PySem.W.isFn K (.ref f51)=true) (l51:K.lookup f51=some ⟨oc51,od51,.func (PySem.W.fnOf "enter" "Exam.enter" (zan s_29) (zam s_29) (zac s_29) .none kV51 dc51 pm51 an51 cd51 ct51),sl51⟩) (c51:PySem.W.codeIn K cd51 "Exam.enter" = true) (k51:PySem.W.keepIn K (.ref f51)=true)
  (a52:PySem.W.nsIn K mainGlobals "_law_entered" = some (some (.ref f52))) (l52:K.lookup f52=some ⟨oc52,od52,.func (PySem.W.fnOf "_law_entered" "_law_entered" (zan s_68) (zam s_68) (zac s_68) .none kV52 dc52 pm52 an52 cd52 ct52),sl52⟩) (c52:PySem.W.codeIn K cd52 "_law_entered" = true) (k52:PySem.W.keepIn K (.ref f52)=true)
  (a53:PySem.W.nsIn K mainGlobals "_law_second_order" = some (some (.ref f53))) (l53:K.lookup f53=some ⟨oc53,od53,.func (PySem.W.fnOf "_law_second_order" "_law_second_order" (zan s_67) (zam s_67) (zac s_67) .none kV53 dc53 pm53 an53 cd53 ct53),sl53⟩) (c53:PySem.W.codeIn K cd53 "_law_second_order" = true) (k53:PySem.W.keepIn K (.ref f53)=true)
  (a54:PySem.W.findIn K (.ref C_Exam) "due" = some (some (.ref f54))) (i54:PySem.W.isFn K (.ref f54)=true) (l54:K.lookup f54=some ⟨oc54,od54,.func (PySem.W.fnOf "due" "Exam.due" (zan s_36) (zam s_36) (zac s_36) .none kV54 dc54 pm54 an54 cd54 ct54),sl54⟩) (c54:PySem.W.codeIn K cd54 "Exam.due" = true) (k54:PySem.W.keepIn K (.ref f54)=true)
  (a55:PySem.W.nsIn K mainGlobals "_law_mark" = some (some (.ref f55))) (l55:K.lookup f55=some ⟨oc55,od55,.func (PySem.W.fnOf "_law_mark" "_law_mark" (zan s_58) (zam s_58) (zac s_58) .none kV55 dc55 pm55 an55 cd55 ct55),sl55⟩) (c55:PySem.W.codeIn K cd55 "_law_mark" = true) (k55:PySem.W.keepIn K (.ref f55)=true)
  (a56:PySem.W.nsIn K mainGlobals "_law_all_marked" = some (some (.ref f56))) (l56:K.lookup f56=some ⟨oc56,od56,.func (PySem.W.fnOf "_law_all_marked" "_law_all_marked" (zan s_64) (zam s_64) (zac s_64) .none kV56 dc56 pm56 an56 cd56 ct56),sl56⟩) (c56:PySem.W.codeIn K cd56 "_law_all_marked" = true) (k56:PySem.W.keepIn K (.ref f56)=true)
  (a57:PySem.W.nsIn K mainGlobals "greatest_divisor" = some (some (.ref f57))) (l57:K.lookup f57=some ⟨oc57,od57,.func (PySem.W.fnOf "greatest_divisor" "greatest_divisor" (zan s_16) (zam s_16) (zac s_16) .none kV57 dc57 pm57 an57 cd57 ct57),sl57⟩) (c57:PySem.W.codeIn K cd57 "greatest_divisor" = true) (k57:PySem.W.keepIn K (.ref f57)=true)
  (a58:PySem.W.nsIn K mainGlobals "lowest" = some (some (.ref f58))) (l58:K.lookup f58=some ⟨oc58,od58,.func (PySem.W.fnOf "lowest" "lowest" (zan s_15) (zam s_15) (zac s_15) .none kV58 dc58 pm58 an58 cd58 ct58),sl58⟩) (c58:PySem.W.codeIn K cd58 "lowest" = true) (k58:PySem.W.keepIn K (.ref f58)=true)
  (a59:PySem.W.nsIn K mainGlobals "middle_of" = some (some (.ref f59))) (l59:K.lookup f59=some ⟨oc59,od59,.func (PySem.W.fnOf "middle_of" "middle_of" (zan s_19) (zam s_19) (zac s_19) .none kV59 dc59 pm59 an59 cd59 ct59),sl59⟩) (c59:PySem.W.codeIn K cd59 "middle_of" = true) (k59:PySem.W.keepIn K (.ref f59)=true)
  (a60:PySem.W.nsIn K mainGlobals "mark_of" = some (some (.ref f60))) (l60:K.lookup f60=some ⟨oc60,od60,.func (PySem.W.fnOf "mark_of" "mark_of" (zan s_18) (zam s_18) (zac s_18) .none kV60 dc60 pm60 an60 cd60 ct60),sl60⟩) (c60:PySem.W.codeIn K cd60 "mark_of" = true) (k60:PySem.W.keepIn K (.ref f60)=true)
  (a61:PySem.W.findIn K (.ref C_Exam) "mark_for" = some (some (.ref f61))) (i61:PySem.W.isFn K (.ref f61)=true) (l61:K.lookup f61=some ⟨oc61,od61,.func (PySem.W.fnOf "mark_for" "Exam.mark_for" (zan s_44) (zam s_44) (zac s_44) .none kV61 dc61 pm61 an61 cd61 ct61),sl61⟩) (c61:PySem.W.codeIn K cd61 "Exam.mark_for" = true) (k61:PySem.W.keepIn K (.ref f61)=true)
  (a62:PySem.W.findIn K (.ref C_Exam) "marks" = some (some (.ref f62))) (i62:PySem.W.isFn K (.ref f62)=true) (l62:K.lookup f62=some ⟨oc62,od62,.func (PySem.W.fnOf "marks" "Exam.marks" (zan s_37) (zam s_37) (zac s_37) .none kV62 dc62 pm62 an62 cd62 ct62),sl62⟩) (c62:PySem.W.codeIn K cd62 "Exam.marks" = true) (k62:PySem.W.keepIn K (.ref f62)=true)
  (a63:PySem.W.nsIn K mainGlobals "law" = some (some (.ref f63))) (l63:K.lookup f63=some ⟨oc63,od63,.func (PySem.W.fnOf "law" "law" (zan s_69) (zam s_69) (zac s_69) .none kV63 dc63 pm63 an63 cd63 ct63),sl63⟩) (c63:PySem.W.codeIn K cd63 "law" = true) (k63:PySem.W.keepIn K (.ref f63)=true)
  (z_abs:PySem.W.nsIn K mainGlobals "abs" = some none)
  (z_all:PySem.W.nsIn K mainGlobals "all" = some none)
  (z_bool:PySem.W.nsIn K mainGlobals "bool" = some none)
  (z_enumerate:PySem.W.nsIn K mainGlobals "enumerate" = some none)
  (z_int:PySem.W.nsIn K mainGlobals "int" = some none)
  (z_isinstance:PySem.W.nsIn K mainGlobals "isinstance" = some none)
  (z_len:PySem.W.nsIn K mainGlobals "len" = some none)
  (z_list:PySem.W.nsIn K mainGlobals "list" = some none)
  (z_max:PySem.W.nsIn K mainGlobals "max" = some none)
  (z_min:PySem.W.nsIn K mainGlobals "min" = some none)
  (z_range:PySem.W.nsIn K mainGlobals "range" = some none)
  (z_sorted:PySem.W.nsIn K mainGlobals "sorted" = some none)
  (z_sum:PySem.W.nsIn K mainGlobals "sum" = some none)
  (z_zip:PySem.W.nsIn K mainGlobals "zip" = some none)
  (pg_Attempt:PySem.W.plainGet K C_Attempt Str.empty=true) (hd_Attempt:PySem.W.hasDictIn K C_Attempt=true) (po_Attempt:PySem.W.plainOver K C_Attempt=true) (sa_Attempt:PySem.W.findIn K (.ref C_Attempt) "__setattr__" = some (some (.builtin "object.__setattr__"))) (mk_Attempt:PySem.W.makesIn K C_Attempt=true) (kc_Attempt:PySem.W.keepIn K (.ref C_Attempt)=true)
  (n_Attempt_allowed:PySem.W.findIn K (.ref C_Attempt) "allowed" = some none)
  (n_Attempt_given:PySem.W.findIn K (.ref C_Attempt) "given" = some none)
  (n_Attempt_spare:PySem.W.findIn K (.ref C_Attempt) "spare" = some none)
  (pg_Exam:PySem.W.plainGet K C_Exam Str.empty=true) (hd_Exam:PySem.W.hasDictIn K C_Exam=true) (po_Exam:PySem.W.plainOver K C_Exam=true) (sa_Exam:PySem.W.findIn K (.ref C_Exam) "__setattr__" = some (some (.builtin "object.__setattr__"))) (mk_Exam:PySem.W.makesIn K C_Exam=true) (kc_Exam:PySem.W.keepIn K (.ref C_Exam)=true)
  (n_Exam_paper_houses:PySem.W.findIn K (.ref C_Exam) "paper_houses" = some none)
  (n_Exam_reader_rows:PySem.W.findIn K (.ref C_Exam) "reader_rows" = some none)
  (n_Exam_widest_step:PySem.W.findIn K (.ref C_Exam) "widest_step" = some none)
  (n_Exam_is_dealt:PySem.W.findIn K (.ref C_Exam) "is_dealt" = some none)
  (n_Exam_named_readers:PySem.W.findIn K (.ref C_Exam) "named_readers" = some none)
  (n_Exam_entered_points:PySem.W.findIn K (.ref C_Exam) "entered_points" = some none)
  (v_READERS_EACH:PySem.W.nsIn K mainGlobals "READERS_EACH" = some (some (.int 2 tk_READERS_EACH)))
  (v_MOST_HOUSES:PySem.W.nsIn K mainGlobals "MOST_HOUSES" = some (some (.int 6 tk_MOST_HOUSES)))
  (v_MOST_PAPERS:PySem.W.nsIn K mainGlobals "MOST_PAPERS" = some (some (.int 10 tk_MOST_PAPERS)))
  (v_MOST_LIMIT:PySem.W.nsIn K mainGlobals "MOST_LIMIT" = some (some (.int 30 tk_MOST_LIMIT)))
  (v_MOST_READERS:PySem.W.nsIn K mainGlobals "MOST_READERS" = some (some (.int 8 tk_MOST_READERS)))
  (v_MOST_STEP:PySem.W.nsIn K mainGlobals "MOST_STEP" = some (some (.int 100 tk_MOST_STEP)))
  (v_MOST_POINTS:PySem.W.nsIn K mainGlobals "MOST_POINTS" = some (some (.int 100 tk_MOST_POINTS)))
  : ∃ fd:FuncData,(∀ (s:Shared) (v:Value),BindsTo s fd ⟨[v],[]⟩ [("_law_script",v)])∧∀ base:Heap,K.In base→base.Ns mainGlobals mg→FnOk l.prog w K mg base CX0 23 fa fd ["_law_script"] (zg8 K):=by
 have e:=hfa.symm.trans (PySem.W.mg_of X G a63)
 cases e
 have F0:=zaz (st:=s_47) l0 c0 k0;have F1:=zaz (st:=s_52) l1 c1 k1;have F2:=zaz (st:=s_63) l2 c2 k2;have F3:=zaz (st:=s_24) l3 c3 k3;have F4:=zaz (st:=s_39) l4 c4 k4;have F5:=zaz (st:=s_21) l5 c5 k5;have F6:=zaz (st:=s_27) l6 c6 k6;have F7:=zaz (st:=s_20) l7 c7 k7;have F8:=zaz (st:=s_22) l8 c8 k8;have F9:=zaz (st:=s_25) l9 c9 k9;have F10:=zaz (st:=s_26) l10 c10 k10;have F11:=zaz (st:=s_55) l11 c11 k11;have F12:=zaz (st:=s_49) l12 c12 k12;have F13:=zaz (st:=s_12) l13 c13 k13;have F14:=zaz (st:=s_1) l14 c14 k14;have F15:=zaz (st:=s_2) l15 c15 k15;have F16:=zaz (st:=s_9) l16 c16 k16;have F17:=zaz (st:=s_8) l17 c17 k17;have F18:=zaz (st:=s_7) l18 c18 k18;have F19:=zaz (st:=s_Attempt___init__) l19 c19 k19;have F20:=zaz (st:=s_Attempt_free_reading) l20 c20 k20;have F21:=zaz (st:=s_Attempt_find_reader) l21 c21 k21;have F22:=zaz (st:=s_3) l22 c22 k22;have F23:=zaz (st:=s_14) l23 c23 k23;have F24:=zaz (st:=s_13) l24 c24 k24;have F25:=zaz (st:=s_11) l25 c25 k25;have F26:=zaz (st:=s_10) l26 c26 k26;have F27:=zaz (st:=s_28) l27 c27 k27;have F28:=zaz (st:=s_34) l28 c28 k28;have F29:=zaz (st:=s_48) l29 c29 k29;have F30:=zaz (st:=s_50) l30 c30 k30;have F31:=zaz (st:=s_51) l31 c31 k31;have F32:=zaz (st:=s_53) l32 c32 k32;have F33:=zaz (st:=s_54) l33 c33 k33;have F34:=zaz (st:=s_62) l34 c34 k34;have F35:=zaz (st:=s_65) l35 c35 k35;have F36:=zaz (st:=s_56) l36 c36 k36;have F37:=zaz (st:=s_57) l37 c37 k37;have F38:=zaz (st:=s_59) l38 c38 k38;have F39:=zaz (st:=s_60) l39 c39 k39;have F40:=zaz (st:=s_61) l40 c40 k40;have F41:=zaz (st:=s_66) l41 c41 k41;have F42:=zaz (st:=s_40) l42 c42 k42;have F43:=zaz (st:=s_42) l43 c43 k43;have F44:=zaz (st:=s_41) l44 c44 k44;have F45:=zaz (st:=s_43) l45 c45 k45;have F46:=zaz (st:=s_17) l46 c46 k46;have F47:=zaz (st:=s_46) l47 c47 k47;have F48:=zaz (st:=s_23) l48 c48 k48;have F49:=zaz (st:=s_38) l49 c49 k49;have F50:=zaz (st:=s_45) l50 c50 k50;have F51:=zaz (st:=s_29) l51 c51 k51;have F52:=zaz (st:=s_68) l52 c52 k52;have F53:=zaz (st:=s_67) l53 c53 k53;have F54:=zaz (st:=s_36) l54 c54 k54;have F55:=zaz (st:=s_58) l55 c55 k55;have F56:=zaz (st:=s_64) l56 c56 k56;have F57:=zaz (st:=s_16) l57 c57 k57;have F58:=zaz (st:=s_15) l58 c58 k58;have F59:=zaz (st:=s_19) l59 c59 k59;have F60:=zaz (st:=s_18) l60 c60 k60;have F61:=zaz (st:=s_44) l61 c61 k61;have F62:=zaz (st:=s_37) l62 c62 k62;have F63:=zaz (st:=s_69) l63 c63 k63;have T:Txt K mg ⟨_,_,_,_,_,_,_,_,_,_,_,_,_,_,_,_,_,_,_,_,_,_,_,_,_,_,_,_,_,_,_,_,_,_,_,_,_,_,_,_,_,_,_,_,_,_,_,_,_,_,_,_,_,_,_,_,_,_,_,_,_,_,_,_,_,_,_,_,_,_,_,_,_,_,_,_,_,_,_,_,_,_,_,_,_,_,_,_,_,_,_,_,_,_,_,_,_,_,_,_,_,_,_,_,_,_,_,_,_,_,_,_,_,_,_,_,_,_,_,_,_,_,_,_,_,_,_,_,_,_,_,_,_,_,_,_,_⟩:=⟨F0,F0.binds (ps:=["_law_script","_law_k"]) (fun _ _ _ _ _ _ us hl=>match us,hl with | [_,_],_=>rfl),PySem.W.mg_of X G a0,F1,F1.binds (ps:=["_law_script","_law_first","_law_least"]) (fun _ _ _ _ _ _ us hl=>match us,hl with | [_,_,_],_=>rfl),PySem.W.mg_of X G a1,F2,F2.binds (ps:=["_law_cell"]) (fun _ _ _ _ _ _ us hl=>match us,hl with | [_],_=>rfl),PySem.W.mg_of X G a2,F3,F3.binds (ps:=["self"]) (fun _ _ _ _ _ _ us hl=>match us,hl with | [_],_=>rfl),⟨mk_Exam,a3,i3,kc_Exam⟩,F4,F4.binds (ps:=["self"]) (fun _ _ _ _ _ _ us hl=>match us,hl with | [_],_=>rfl),⟨a4,i4,k4⟩,F5,F5.binds (ps:=["number","most"]) (fun _ _ _ _ _ _ us hl=>match us,hl with | [_,_],_=>rfl),PySem.W.mg_of X G a5,F6,F6.binds (ps:=["self","step"]) (fun _ _ _ _ _ _ us hl=>match us,hl with | [_,_],_=>rfl),⟨a6,i6,k6⟩,F7,F7.binds (ps:=["number","least","most"]) (fun _ _ _ _ _ _ us hl=>match us,hl with | [_,_,_],_=>rfl),PySem.W.mg_of X G a7,F8,F8.binds (ps:=["many","most"]) (fun _ _ _ _ _ _ us hl=>match us,hl with | [_,_],_=>rfl),PySem.W.mg_of X G a8,F9,F9.binds (ps:=["self","house"]) (fun _ _ _ _ _ _ us hl=>match us,hl with | [_,_],_=>rfl),⟨a9,i9,k9⟩,F10,F10.binds (ps:=["self","house","limit"]) (fun _ _ _ _ _ _ us hl=>match us,hl with | [_,_,_],_=>rfl),⟨a10,i10,k10⟩,F11,F11.binds (ps:=["_law_homes","_law_staff","_law_step_here","_law_turn"]) (fun _ _ _ _ _ _ us hl=>match us,hl with | [_,_,_,_],_=>rfl),PySem.W.mg_of X G a11,F12,F12.binds (ps:=["_law_found","_law_due"]) (fun _ _ _ _ _ _ us hl=>match us,hl with | [_,_],_=>rfl),PySem.W.mg_of X G a12,F13,F13.binds (ps:=["numbers"]) (fun _ _ _ _ _ _ us hl=>match us,hl with | [_],_=>rfl),PySem.W.mg_of X G a13,F14,F14.binds (ps:=["papers","readers","paper","reader"]) (fun _ _ _ _ _ _ us hl=>match us,hl with | [_,_,_,_],_=>rfl),PySem.W.mg_of X G a14,F15,F15.binds (ps:=["papers","readers","paper"]) (fun _ _ _ _ _ _ us hl=>match us,hl with | [_,_,_],_=>rfl),PySem.W.mg_of X G a15,F16,F16.binds (ps:=["rows","reader"]) (fun _ _ _ _ _ _ us hl=>match us,hl with | [_,_],_=>rfl),PySem.W.mg_of X G a16,F17,F17.binds (ps:=["readers","rows"]) (fun _ _ _ _ _ _ us hl=>match us,hl with | [_,_],_=>rfl),PySem.W.mg_of X G a17,F18,F18.binds (ps:=["readers","rows"]) (fun _ _ _ _ _ _ us hl=>match us,hl with | [_,_],_=>rfl),PySem.W.mg_of X G a18,F19,F19.binds (ps:=["self","papers","readers"]) (fun _ _ _ _ _ _ us hl=>match us,hl with | [_,_,_],_=>rfl),⟨mk_Attempt,a19,i19,kc_Attempt⟩,F20,F20.binds (ps:=["self","reader","asked"]) (fun _ _ _ _ _ _ us hl=>match us,hl with | [_,_,_],_=>rfl),⟨a20,i20,k20⟩,F21,F21.binds (ps:=["self","paper","asked"]) (fun _ _ _ _ _ _ us hl=>match us,hl with | [_,_,_],_=>rfl),⟨a21,i21,k21⟩,F22,F22.binds (ps:=["papers","readers"]) (fun _ _ _ _ _ _ us hl=>match us,hl with | [_,_],_=>rfl),PySem.W.mg_of X G a22,F23,F23.binds (ps:=["readers","limits"]) (fun _ _ _ _ _ _ us hl=>match us,hl with | [_,_],_=>rfl),PySem.W.mg_of X G a23,F24,F24.binds (ps:=["papers","readers","rows"]) (fun _ _ _ _ _ _ us hl=>match us,hl with | [_,_,_],_=>rfl),PySem.W.mg_of X G a24,F25,F25.binds (ps:=["papers","readers","rows"]) (fun _ _ _ _ _ _ us hl=>match us,hl with | [_,_,_],_=>rfl),PySem.W.mg_of X G a25,F26,F26.binds (ps:=["papers","readers"]) (fun _ _ _ _ _ _ us hl=>match us,hl with | [_,_],_=>rfl),PySem.W.mg_of X G a26,F27,F27.binds (ps:=["self"]) (fun _ _ _ _ _ _ us hl=>match us,hl with | [_],_=>rfl),⟨a27,i27,k27⟩,F28,F28.binds (ps:=["self"]) (fun _ _ _ _ _ _ us hl=>match us,hl with | [_],_=>rfl),⟨a28,i28,k28⟩,F29,F29.binds (ps:=["_law_found"]) (fun _ _ _ _ _ _ us hl=>match us,hl with | [_],_=>rfl),PySem.W.mg_of X G a29,F30,F30.binds (ps:=["_law_found","_law_due"]) (fun _ _ _ _ _ _ us hl=>match us,hl with | [_,_],_=>rfl),PySem.W.mg_of X G a30,F31,F31.binds (ps:=["_law_found","_law_due"]) (fun _ _ _ _ _ _ us hl=>match us,hl with | [_,_],_=>rfl),PySem.W.mg_of X G a31,F32,F32.binds (ps:=["_law_staff","_law_house","_law_row_here"]) (fun _ _ _ _ _ _ us hl=>match us,hl with | [_,_,_],_=>rfl),PySem.W.mg_of X G a32,F33,F33.binds (ps:=["_law_homes","_law_staff","_law_rows_here"]) (fun _ _ _ _ _ _ us hl=>match us,hl with | [_,_,_],_=>rfl),PySem.W.mg_of X G a33,F34,F34.binds (ps:=["_law_cell","_law_step_here","_law_given_here"]) (fun _ _ _ _ _ _ us hl=>match us,hl with | [_,_,_],_=>rfl),PySem.W.mg_of X G a34,F35,F35.binds (ps:=["_law_script","_law_step_here","_law_many"]) (fun _ _ _ _ _ _ us hl=>match us,hl with | [_,_,_],_=>rfl),PySem.W.mg_of X G a35,F36,F36.binds (ps:=["_law_names","_law_entries","_law_paper"]) (fun _ _ _ _ _ _ us hl=>match us,hl with | [_,_,_],_=>rfl),PySem.W.mg_of X G a36,F37,F37.binds (ps:=["_law_names","_law_entries"]) (fun _ _ _ _ _ _ us hl=>match us,hl with | [_,_],_=>rfl),PySem.W.mg_of X G a37,F38,F38.binds (ps:=["_law_staff","_law_names"]) (fun _ _ _ _ _ _ us hl=>match us,hl with | [_,_],_=>rfl),PySem.W.mg_of X G a38,F39,F39.binds (ps:=["_law_homes","_law_staff","_law_names","_law_paper"]) (fun _ _ _ _ _ _ us hl=>match us,hl with | [_,_,_,_],_=>rfl),PySem.W.mg_of X G a39,F40,F40.binds (ps:=["_law_homes","_law_staff","_law_step_here","_law_names","_law_entries","_law_one"]) (fun _ _ _ _ _ _ us hl=>match us,hl with | [_,_,_,_,_,_],_=>rfl),PySem.W.mg_of X G a40,F41,F41.binds (ps:=["_law_script","_law_homes","_law_staff","_law_step_here","_law_names","_law_table_here"]) (fun _ _ _ _ _ _ us hl=>match us,hl with | [_,_,_,_,_,_],_=>rfl),PySem.W.mg_of X G a41,F42,F42.binds (ps:=["self"]) (fun _ _ _ _ _ _ us hl=>match us,hl with | [_],_=>rfl),⟨a42,i42,k42⟩,F43,F43.binds (ps:=["self","paper"]) (fun _ _ _ _ _ _ us hl=>match us,hl with | [_,_],_=>rfl),⟨a43,i43,k43⟩,F44,F44.binds (ps:=["self","paper","reader"]) (fun _ _ _ _ _ _ us hl=>match us,hl with | [_,_,_],_=>rfl),⟨a44,i44,k44⟩,F45,F45.binds (ps:=["self","paper"]) (fun _ _ _ _ _ _ us hl=>match us,hl with | [_,_],_=>rfl),⟨a45,i45,k45⟩,F46,F46.binds (ps:=["one","other","step"]) (fun _ _ _ _ _ _ us hl=>match us,hl with | [_,_,_],_=>rfl),PySem.W.mg_of X G a46,F47,F47.binds (ps:=["self","paper"]) (fun _ _ _ _ _ _ us hl=>match us,hl with | [_,_],_=>rfl),⟨a47,i47,k47⟩,F48,F48.binds (ps:=["papers","readers","left","paper","row"]) (fun _ _ _ _ _ _ us hl=>match us,hl with | [_,_,_,_,_],_=>rfl),PySem.W.mg_of X G a48,F49,F49.binds (ps:=["self"]) (fun _ _ _ _ _ _ us hl=>match us,hl with | [_],_=>rfl),⟨a49,i49,k49⟩,F50,F50.binds (ps:=["self","paper"]) (fun _ _ _ _ _ _ us hl=>match us,hl with | [_,_],_=>rfl),⟨a50,i50,k50⟩,F51,F51.binds (ps:=["self","paper","reader","points"]) (fun _ _ _ _ _ _ us hl=>match us,hl with | [_,_,_,_],_=>rfl),⟨a51,i51,k51⟩,F52,F52.binds (ps:=["_law_exam_here","_law_entries"]) (fun _ _ _ _ _ _ us hl=>match us,hl with | [_,_],_=>rfl),PySem.W.mg_of X G a52,F53,F53.binds (ps:=["_law_script","_law_step_here","_law_table_here","_law_entries"]) (fun _ _ _ _ _ _ us hl=>match us,hl with | [_,_,_,_],_=>rfl),PySem.W.mg_of X G a53,F54,F54.binds (ps:=["self"]) (fun _ _ _ _ _ _ us hl=>match us,hl with | [_],_=>rfl),⟨a54,i54,k54⟩,F55,F55.binds (ps:=["_law_given_here","_law_step_here"]) (fun _ _ _ _ _ _ us hl=>match us,hl with | [_,_],_=>rfl),PySem.W.mg_of X G a55,F56,F56.binds (ps:=["_law_found","_law_names","_law_entries","_law_step_here"]) (fun _ _ _ _ _ _ us hl=>match us,hl with | [_,_,_,_],_=>rfl),PySem.W.mg_of X G a56,F57,F57.binds (ps:=["one","other"]) (fun _ _ _ _ _ _ us hl=>match us,hl with | [_,_],_=>rfl),PySem.W.mg_of X G a57,F58,F58.binds (ps:=["top","bottom"]) (fun _ _ _ _ _ _ us hl=>match us,hl with | [_,_],_=>rfl),PySem.W.mg_of X G a58,F59,F59.binds (ps:=["points"]) (fun _ _ _ _ _ _ us hl=>match us,hl with | [_],_=>rfl),PySem.W.mg_of X G a59,F60,F60.binds (ps:=["points","step"]) (fun _ _ _ _ _ _ us hl=>match us,hl with | [_,_],_=>rfl),PySem.W.mg_of X G a60,F61,F61.binds (ps:=["self","paper"]) (fun _ _ _ _ _ _ us hl=>match us,hl with | [_,_],_=>rfl),⟨a61,i61,k61⟩,F62,F62.binds (ps:=["self"]) (fun _ _ _ _ _ _ us hl=>match us,hl with | [_],_=>rfl),⟨a62,i62,k62⟩,F63,F63.binds (ps:=["_law_script"]) (fun _ _ _ _ _ _ us hl=>match us,hl with | [_],_=>rfl),PySem.W.mg_of X G a63,⟨pg_Attempt,hd_Attempt,po_Attempt,sa_Attempt⟩,PySem.W.mg_of X G aC_Attempt,n_Attempt_allowed,n_Attempt_given,n_Attempt_spare,⟨pg_Exam,hd_Exam,po_Exam,sa_Exam⟩,PySem.W.mg_of X G aC_Exam,n_Exam_paper_houses,n_Exam_reader_rows,n_Exam_widest_step,n_Exam_is_dealt,n_Exam_named_readers,n_Exam_entered_points,PySem.W.mg_of X G v_READERS_EACH,⟨_,rfl⟩,PySem.W.mg_of X G v_MOST_HOUSES,⟨_,rfl⟩,PySem.W.mg_of X G v_MOST_PAPERS,⟨_,rfl⟩,PySem.W.mg_of X G v_MOST_LIMIT,⟨_,rfl⟩,PySem.W.mg_of X G v_MOST_READERS,⟨_,rfl⟩,PySem.W.mg_of X G v_MOST_STEP,⟨_,rfl⟩,PySem.W.mg_of X G v_MOST_POINTS,⟨_,rfl⟩,PySem.W.mg_none_of X G z_abs,PySem.W.mg_none_of X G z_all,PySem.W.mg_none_of X G z_bool,PySem.W.mg_none_of X G z_enumerate,PySem.W.mg_none_of X G z_int,PySem.W.mg_none_of X G z_isinstance,PySem.W.mg_none_of X G z_len,PySem.W.mg_none_of X G z_list,PySem.W.mg_none_of X G z_max,PySem.W.mg_none_of X G z_min,PySem.W.mg_none_of X G z_range,PySem.W.mg_none_of X G z_sorted,PySem.W.mg_none_of X G z_sum,PySem.W.mg_none_of X G z_zip⟩;exact ⟨_,fun s v=>.of_eq rfl,fun base _ _=>zn7 T⟩
theorem walk {l:PySem.W.OpenLaw} {q:Program} {loose:List Str} {XP:(Str→Option Value)→Heap→Prop} {YP:World→Heap→Prop} {d:DefRec} {K:Params→PySem.W.Frag} (hn:l.most=some 63) (hdf:d.params.defaults=[])
  (hY:∀ (w:World) (h:Heap),YP w h→(K w.params).In h)
  (F:∀ (w:World) (mg:Str→Option Value) (fa:Addr) (h:Heap),(K w.params).In h→h.Ns mainGlobals mg→mg d.name=some (.ref fa) →
   ∃ fd:FuncData,(∀ (s:Shared) (u:Value),BindsTo s fd ⟨[u],[]⟩ [("_law_script",u)])∧∀ base:Heap,(K w.params).In base→base.Ns mainGlobals mg→FnOk l.prog w (K w.params) mg base CX0 23 fa fd ["_law_script"] (zg8 (K w.params))) :
  PySem.W.WalkO q loose XP YP l.row.toRowW d [] (fun f vs=>PySem.call f vs) :=
 L2.zl4 (n:=63) (k:=23) (x:="_law_script") (CX:=fun _=>CX0) (sp:=fun w=>zg8 (K w.params)) hn (by decide) hdf ⟨rfl,by decide,by decide⟩ hY F (fun _ H a ns hl hO hS=>law_start hl hS) fun _ _ _ _ _ z=>z
end Prf
set_option genInjectivity false in
set_option genSizeOf false in
structure PySem.W.Fast:Prop where
 (tw17230000913193009790 tw1549946663798139353 tw89297596388091306 tw8142070192171635757 tw16538041470451556017 tw17617910962846577691 tw1405167774262915301 tw12960047731781164488 tw2779304736982985217 tw3069431290474366854 tw6518210747955620805 tw6283670587582206378 tw4705544992942624352 tw17760652001268527533 tw17721394263125254832 tw6884924572460078678 tw10772568718496298733 tw14256301256921509711 tw14800962204762424775 tw4926080967090334086 tw15452191052236497076 tw466737476703732552 tw977903166783463073 tw18245178070930887043 tw15097353190583459827 tw5376539510836573705 tw15174103522026720664 tw2013725713772713530 tw17198837697005043439 tw12136430746611938880 tw3033504117867700998 tw4483337900571833500 tw18182699635045223803 tw3184184678997539501 tw2327618448601342982 tw495896523628641945 tw1252654610238812468 tw734452323863014006 tw17948846732720087675 tw12318942832003954245:True)
 (tw16872793618095937436 tw17696833239693756993 tw17939707785350661504 tw15048745139374997720 tw14948791462486324038 tw9471262895334281305 tw12872497599317037465 tw673941404542913483 tw7274797842286305569 tw6386244251347448688 tw10568868363197873350 tw12470117809750975684 tw3557998656085239264 tw17921904512330680865 tw17718643628997045373 tw4886267510122949388 tw2420709482704028227 tw16273544252399200185 tw11050771021322574366 tw8599237349417933759 tw9467953939641621062 tw9322472780948949085 tw4078003669660731497 tw15396533113729543800 tw5701008274844615882 tw10914028547693016777 tw12404802424782981515 tw12078017564388175918 tw6272715797173541505 tw4778295600601849489 tw10366665266548850877 tw14303677528748485098 tw8086585478229663011 tw13341959925465939397 tw2896534083296974416 tw10450377481684749209 tw12687193277118235640 tw8374992275497336000 tw1973532670712060854 tw15971455325708814752:True)
 (tw5711273845135260949 tw7463746789664241158 tw3564581390216445488 tw2160532369471344719 tw1328278464688838507 tw16609092279816289720 tw13085315590663527610 tw11895599487394681821 tw11603109726175446531 tw559239943080095600 tw12906630949650558781 tw14376676158448039480 tw7624997780802967787 tw8543819036637368895 tw10055854792255876943 tw10585784255363813136 tw1113558283082482034 tw17621247625811454085 tw751063878226037650 tw8776113365327662698 tw13162548994255261885 tw16933227354697345765 tw12473733713674519061 tw321512957187489929 tw10960465300746626293 tw666396397025445176 tw1181803289355202472 tw9179972230743681781 tw15366528664403907248 tw17634179924419230959 tw10692344699122263851 tw12270928343007869952 tw18053318396526605124 tw12778688519578722267 tw18183821899263769792 tw4637836443587356517 tw8995078034424662169 tw13730604974523508342 tw12438355757503507739 tw3277063567757538308:True)
 (tw5895046987201743719 tw1030126202563545192 tw17173072303666077102 tw18414445051752681716 tw3607433907084409418 tw455847604986285759 tw9607045124857816214 tw3601853046014651395 tw14593779745351103518 tw10390256999210114866 tw16549340449808675046 tw4254574362104399324 tw3527843810301494973 tw11726449567526835710 tw7699356211390699852 tw364935595082083967 tw2438043085337597251 tw1911965272915795615 tw12412448784790226172 tw7479701426453012332 tw9533627099933636073 tw12819509141208722967 tw14363649109535211308 tw13499569113452854073 tw9051888712280531446 tw11219728715854002114 tw2004265615673961963 tw16854023103098957163 tw1170127263441081518 tw9742546234400516749 tw15868824517398778706 tw8365700951587897718 tw5246011760676413365 tw8927047280674251806 tw3720105143717039909 tw1106372937444039948 tw5211035693208947360 tw14277976052309669388 tw13307365805623905122 tw2587718458648800026:True)
 (tw1068166650684816715 tw16076290219534228931 tw12799758521086303371 tw14943070836241905038 tw2848051220444465073 tw13516446665954846352 tw2223403486455299981 tw7481553307706583924 tw11977592734197171066 tw12686089376046571190 tw2303983019714958559 tw5614674725866714903 tw6666897621916695406 tw5737079904390777192 tw15138259330420955030 tw985802590441021450 tw4677725082754855655 tw12193378085197151248 tw15350903460131370503 tw7446921554544917409 tw10494619273215489335 tw8829464327853574956 tw10563175884906679602 tw10844151098872549386 tw11395991180999319581 tw12629343875937602749 tw2430527418386224971 tw14965287062636762289 tw12153994634241568562 tw2889634579273457827 tw2591065602939757202 tw10243916055093371307 tw1465875775037415324 tw11914109639671569176 tw7669792363027846968 tw3673504640133283263 tw13104162577110816361 tw12682773275223991690 tw7601177121492161178 tw10928610921614130273:True)
 (tw8537004619068576457 tw3574556803140912633 tw9524331171686733951 tw12625752543473640856 tw2197275031440735527 tw15440594616939541523 tw5754453885449007721 tw4375679422718796211 tw8563726287726110059 tw7481005933462229221 tw16453522714399925240 tw3335327350368692198 tw14668106458375974732 tw17662927871878373016 tw13101303488947874511 tw11277504149723655915 tw14116242143219870840 tw17502629154735775571 tw121455997122584119 tw14985790791711312711 tw9102298286166961944 tw3362316540183299395 tw9305029153572539498 tw8045599857133724807 tw1851557871294184265 tw13656182779786225249 tw8526101206481114637 tw10688235704999058327 tw15535314200239959289 tw9972186818403216522 tw3560282634029680825 tw8633168385839777466 tw1581513483576557816 tw11307061765425235810 tw9030490550923801190 tw17389313732696769881 tw18385725745006916445 tw7291591123172406700 tw7583162265009888198 tw2333784531905962353:True)
 (tw15117710321406286182 tw15269440646098955290 tw1023930818802029548 tw1376424403125622913 tw8200333697863751501 tw17993227437177807163 tw17407754839235852468 tw2885238273239784094 tw2750951591768370649 tw2184638273627454776 tw16381661017856661314 tw729632583148416254 tw4811062701091377791 tw17528750484029807767 tw7099306568613324049 tw14217670476954725927 tw2161533430211341586 tw13587579284902619901 tw8543529525178267692 tw2979631544286392035 tw5149576286278222619 tw2868793260378999477 tw2035913756278935657 tw2272939131479850032 tw9659915237239797656 tw11689186100447701656 tw14786221292129193650 tw18091194749519167326 tw5901976514475711646 tw15465861579547119928 tw15577998600813330676 tw12160319170029171982 tw11966838913368794605 tw3313881748867165195 tw4520808263871167721 tw7009490060408455009 tw13343929560443232001 tw10768229721882940422 tw3192671322881526545 tw8617476270988853574:True)
 (tw11985550427543825058 tw4384248571150325969 tw6654561291380139967 tw18120140393910917632 tw15164110292267135283 tw490781215789479709 tw13240902680998433580 tw3766154052728590362 tw2497560759464723617 tw14017894544284507051 tw13416405234705472812 tw10574729566381740602 tw14553288074155622228 tw1978920144999383661 tw10633899500952530093 tw9765832586223906376 tw15878293788796759785 tw5050979602456999914 tw7308219844933493403 tw18363390102263458246 tw17147023214617865945 tw7611228035690126449 tw14128390588591116716 tw17927999869334343946 tw3345526604985731825 tw3287964135199331249 tw7283104252700430982 tw11326986134876097251 tw13253855715230492242 tw11801261833179569178 tw6923638940874251504 tw2232586610751584680 tw8434492892173848089 tw9773212630384767608 tw16559163214445100531 tw14407203921321819697 tw5720855258384082972 tw7288376869762047326 tw12724827478295555745 tw9872955641497265061:True)
 (tw3221599060625125843 tw5460993216853443094 tw15629546824377212168 tw12835851236221749707 tw13074361110119450304 tw6159130935658537982 tw16651354989378505385 tw18155379276985856361 tw2614163301596552080 tw9662929392339419905 tw9921941091905557511 tw6404728535034979148 tw12055135522492679146 tw15420107719181083367 tw72561165480302345 tw14550392982401890772 tw1035632451134052610 tw13543187485071716702 tw15267474656021461573 tw860311065344493269 tw2413880498436271784 tw4169973760307974844 tw10297175619405272020 tw9399402516385960726 tw5857239689372255019 tw15261212434502805638 tw16292951370008839445 tw2474810085100543012 tw15080880292744324391 tw8500389807135349153 tw13706795602618048940 tw7723054570067607630 tw12704272520287434182 tw6185190374587792708 tw3266217139878875729 tw18194225354648049005 tw14421542800926459935 tw12996719974221814415 tw8916487169471662890 tw16756395582661009696:True)
 (tw5093292586201859158 tw8808857429826683276 tw12897868088854897869 tw2915196211286330848 tw12165561620578757976 tw11176889285585490823 tw9733894946841947691 tw14102211946930968018 tw14199356803966956879 tw13212042705362370976 tw9442319149762912446 tw2808793961387794776 tw17682918031196235808 tw11324542977634914509 tw8385858095718440633 tw9161875387084448581 tw9469864906224924952 tw15138928473720985760 tw17265984498952155472 tw3677026521886850824 tw5033466678038307903 tw11314206573274142931 tw13056690044099559768 tw577649515936347237 tw2577069863081224794 tw5035591025903021997 tw11652386436973177845 tw2941275971969883855 tw13942961548715700975 tw6093378608784206831 tw13026412479230703814 tw17253081440025191064 tw6264645939409185180 tw9426836125552904836 tw17372619127277973272 tw8948560758105977828 tw2289993179104301610 tw7890374299514732109 tw4364006885805045011 tw17107095329024529043:True)
 (tw7106503917720960415 tw10136251075487369809 tw1843709536418223409 tw11185307067442279503 tw7335442798834230230 tw5021178448270869000 tw6998644720128316239 tw8143192403298281083 tw16063462194765801959 tw14337364918013417675 tw3673776366886599980 tw15284702980975981965 tw9637697799129501903 tw16838201459754754056 tw16929417160888602681 tw1836538684648148516 tw5821187005597320926 tw5710386884147044533 tw17189111722650636040 tw12038975094010028235 tw4266761042448177974 tw7945425471832822627 tw15523901317694702414 tw9702792998237819266 tw3331883223897443421 tw16939255966132648669 tw13875406006320828861 tw9248309296099627509 tw13937547501846109141 tw2347466076275588776 tw9516396874735417065 tw4258857447876380866 tw4529835859116563992 tw15248306241303339728 tw13393782694095396667 tw3721153370914441828 tw8230451190283900494 tw14398291937797188103 tw7719736794859621437 tw13885710175072819623:True)
 (tw14785817377126713592 tw15889566067307207822 tw16417274059889740187 tw8802876857407519817 tw4801948008215782000 tw8430726718123525530 tw57886138344592461 tw6697848552314460241 tw12677345300365868749 tw5683925782226311261 tw208690835749141311 tw12011931419816050963 tw3729125265051372825 tw5837382182987251391 tw2646836127201436701 tw8735614605063817488 tw11169038580333137613 tw8361191163789032313 tw6436649635884532322 tw17018157782896812347 tw2029597727707901864 tw5912139944603707437 tw16500208452921745696 tw4220738715089571281 tw8591326781754177953 tw9302887880257640435 tw7805089777790875803 tw5344407874491665268 tw5291483890450872493 tw11342759333114807201 tw1499444658305394862 tw1165078902928757654 tw11467105100799318924 tw1222168530494067936 tw8522385542760248037 tw15816955084840765616 tw9287715112341156507 tw12906407088978447159 tw13233189570076257663 tw1904720693505694526:True)
 (tw2578422689820103409 tw5192091675298383687 tw18274644517444095892 tw13769954799516570606 tw5922994973145606591 tw473114317617219990 tw12564197393143507012 tw13689186961294087142 tw17704393704728115088 tw18290153822404130453 tw5726949081417770348 tw2752718367324312768 tw13063419898991003530 tw3213091033267283969 tw11855350087772499254 tw16040590654006925583 tw526164609998382230 tw3915902365957149090 tw7353469568435802348 tw9665914239305076723 tw17472883143164898375 tw13449419528952676522 tw9177128947949497756 tw236584609586421136 tw7255214246586314960 tw4690652170005165179 tw3164373523413452897 tw9022483963226086693 tw6380426645434578355 tw16444483258427987501 tw485211817306373939 tw601749285264195895 tw10272497777104951360 tw14818636609489561097 tw10023504677260964188 tw16317063047849859438 tw6440543198582797019 tw16302242054420602473 tw5644112866317977636 tw17016127593212162082:True)
 (tw7127078816191471392 tw16308223286121390132 tw3343058624705953519 tw8004016980844866149 tw16249799419421020051 tw11489286187248427375 tw12133089823242680684 tw17146565220057894542 tw6654857429552615283 tw10463363488319998978 tw13040433671523015677 tw8220549463939775338 tw13302007808446009302 tw1074815742531933955 tw15596633488979289215 tw6674957383567970103 tw12868823625704960485 tw15146596536186763684 tw1763299764788463930 tw11320048626353851208 tw14333055700051446218 tw13358878538676744827 tw14349751348718777701 tw11405364491592828429 tw11510199710211182785 tw7681797188705983687 tw9108482781651561647 tw13752333275036299895 tw16606507468155008302 tw14401400826083031842 tw6685648420169145687 tw18291756207036020414 tw14190886301961427928 tw11859316975112184990 tw3172792806865463292 tw10423401215780949124 tw1402504239192810832 tw800720721253593563 tw4695582061218218427 tw9776362229699483700:True)
 (tw4112832428521941444 tw12399706448392651674 tw1530008313884934098 tw16124631288528899815 tw116515108259118145 tw4793341048245633926 tw10626840568300028785 tw1814790940959302434 tw18046290267617927926 tw5636466277994224715 tw894412740457076431 tw12085544252941936083 tw537074525734820013 tw4198036661317573114 tw14104659206277950589 tw13684653321778641424 tw14401913090054091900 tw4716619149158197663 tw167394449483319175 tw7559589950542132749 tw4125447436836259253 tw15866100976177746816 tw3650016563817071829 tw11929880419909543005 tw11863958663320234052 tw9844472292887143323 tw6534070508547254479 tw1695751335865309601 tw11707745812558232653 tw7456768669004058006 tw17460662164533095596 tw4991465608549066587 tw16485635412622263608 tw3232967274280648293 tw13000416605258244810 tw4696143569031269254 tw17053147938800843315 tw8080317959197160094 tw5269567309572019382 tw11665775676755532436:True)
 (tw3999824050081440141 tw5755223171701056799 tw10570605974145784174 tw6643867539319811058 tw1557093741686498292 tw3951872506635169881 tw7238740614776882232 tw11306250389886440893 tw15449286971047883965 tw5392743715926756892 tw16600025650191532263 tw3578313923066550531 tw15901579095656572679 tw7785470516552741635 tw4336600176602472687 tw6079412444137603151 tw16408937988782240042 tw2430336207777026930 tw13543558839363692704 tw18015097164532592307 tw14703303716472055127 tw2678575441796087425 tw6105191899797627410 tw14533550851087981455 tw5377922946967187355 tw11136317507446515140 tw6685608252490946130 tw7768018489840044052 tw15012072339172371209 tw5695257933031762972 tw10010520037289056860 tw12217518315390755604 tw1467102670125732950 tw336742938365913339 tw2477690040472057007 tw7122100639460250124 tw3239036232741108134 tw10818841057140981885 tw5612140456727476020 tw12416095345129992712:True)
 (tw1777643159166107101 tw12348680379276890846 tw11097716013611146773 tw9560106077271626776 tw16344034742098532223 tw11416726132318118832 tw2220908655151353067 tw3133879471788759902 tw3771325482127752308 tw12458772414693530387 tw4652356641994568564 tw14585187821104392388 tw10971248050334640456 tw15927294190615419193 tw12441976883561080637 tw13946254341057026577 tw6781607897617983355 tw6775812820507579809 tw10192464358729326120 tw1016069121494017625 tw15130112873963399458 tw2774795354026757621 tw1860480241540613567 tw14182138476701324287 tw9029609326265939357 tw11166899828325315397 tw13782064740332986999 tw7031832644328259971 tw10008973116467322607 tw15233304785208916187 tw3867832303554665070 tw8426580855301384576 tw1244187327918654031 tw8650485416849173772 tw4129939704821858447 tw2377836598467349670 tw11492810390678196180 tw6666333059900600388 tw5978380474646721214 tw14166876303377691887:True)
 (tw13639371654220117549 tw17163390459648193397 tw16597905211513037018 tw12368574477194451948 tw15036497325905091145 tw4361954302494907538 tw10685481875711179130 tw13185725423966594779 tw1179397706145683623 tw4079403808032626178 tw9575891823736522136 tw7531956662694235780 tw7404654085172021534 tw3325101090896742733 tw15481384577981730180 tw9243198969500142504 tw5065959575251373923 tw14814417899400263048:True)
open PySem PySem.W PyProof.Rows
set_option maxRecDepth 100000 in
set_option maxHeartbeats 0 in
theorem PySem.Challenge.cw_secondread_k42_whole_order_holds : PySem.Challenge.rw_secondread_k42_whole_order.Holds := by
 w_on;o_law;k_head;(case hw=>w_witness2)
 k_fill
 refine Prf.walk (l:=PySem.Challenge.rw_secondread_k42_whole_order) rfl rfl (fun w h Y=>PySem.W.kIn_of Y) ?F
 case F =>
  intro w mg fa h KX G hmg;refine' Prf.zn8 KX G hmg ?aC_Attempt ?aC_Exam ?a0 ?l0 ?c0 ?k0 ?a1 ?l1 ?c1 ?k1 ?a2 ?l2 ?c2 ?k2 ?a3 ?i3 ?l3 ?c3 ?k3 ?a4 ?i4 ?l4 ?c4 ?k4 ?a5 ?l5 ?c5 ?k5 ?a6 ?i6 ?l6 ?c6 ?k6 ?a7 ?l7 ?c7 ?k7 ?a8 ?l8 ?c8 ?k8 ?a9 ?i9 ?l9 ?c9 ?k9 ?a10 ?i10 ?l10 ?c10 ?k10 ?a11 ?l11 ?c11 ?k11 ?a12 ?l12 ?c12 ?k12 ?a13 ?l13 ?c13 ?k13 ?a14 ?l14 ?c14 ?k14 ?a15 ?l15 ?c15 ?k15 ?a16 ?l16 ?c16 ?k16 ?a17 ?l17 ?c17 ?k17 ?a18 ?l18 ?c18 ?k18 ?a19 ?i19 ?l19 ?c19 ?k19 ?a20 ?i20 ?l20 ?c20 ?k20 ?a21 ?i21 ?l21 ?c21 ?k21 ?a22 ?l22 ?c22 ?k22 ?a23 ?l23 ?c23 ?k23 ?a24 ?l24 ?c24 ?k24 ?a25 ?l25 ?c25 ?k25 ?a26 ?l26 ?c26 ?k26 ?a27 ?i27 ?l27 ?c27 ?k27 ?a28 ?i28 ?l28 ?c28 ?k28 ?a29 ?l29 ?c29 ?k29 ?a30 ?l30 ?c30 ?k30 ?a31 ?l31 ?c31 ?k31 ?a32 ?l32 ?c32 ?k32 ?a33 ?l33 ?c33 ?k33 ?a34 ?l34 ?c34 ?k34 ?a35 ?l35 ?c35 ?k35 ?a36 ?l36 ?c36 ?k36 ?a37 ?l37 ?c37 ?k37 ?a38 ?l38 ?c38 ?k38 ?a39 ?l39 ?c39 ?k39 ?a40 ?l40 ?c40 ?k40 ?a41 ?l41 ?c41 ?k41 ?a42 ?i42 ?l42 ?c42 ?k42 ?a43 ?i43 ?l43 ?c43 ?k43 ?a44 ?i44 ?l44 ?c44 ?k44 ?a45 ?i45 ?l45 ?c45 ?k45 ?a46 ?l46 ?c46 ?k46 ?a47 ?i47 ?l47 ?c47 ?k47 ?a48 ?l48 ?c48 ?k48 ?a49 ?i49 ?l49 ?c49 ?k49 ?a50 ?i50 ?l50 ?c50 ?k50 ?a51 ?i51 ?l51 ?c51 ?k51 ?a52 ?l52 ?c52 ?k52 ?a53 ?l53 ?c53 ?k53 ?a54 ?i54 ?l54 ?c54 ?k54 ?a55 ?l55 ?c55 ?k55 ?a56 ?l56 ?c56 ?k56 ?a57 ?l57 ?c57 ?k57 ?a58 ?l58 ?c58 ?k58 ?a59 ?l59 ?c59 ?k59 ?a60 ?l60 ?c60 ?k60 ?a61 ?i61 ?l61 ?c61 ?k61 ?a62 ?i62 ?l62 ?c62 ?k62 ?a63 ?l63 ?c63 ?k63 ?pg_Attempt ?hd_Attempt ?po_Attempt ?sa_Attempt ?mk_Attempt ?kc_Attempt ?n_Attempt_allowed ?n_Attempt_given ?n_Attempt_spare ?pg_Exam ?hd_Exam ?po_Exam ?sa_Exam ?mk_Exam ?kc_Exam ?n_Exam_paper_houses ?n_Exam_reader_rows ?n_Exam_widest_step ?n_Exam_is_dealt ?n_Exam_named_readers ?n_Exam_entered_points ?v_READERS_EACH ?v_MOST_HOUSES ?v_MOST_PAPERS ?v_MOST_LIMIT ?v_MOST_READERS ?v_MOST_STEP ?v_MOST_POINTS ?z_abs ?z_all ?z_bool ?z_enumerate ?z_int ?z_isinstance ?z_len ?z_list ?z_max ?z_min ?z_range ?z_sorted ?z_sum ?z_zip
  (case aC_Attempt=>k_is)
  (case aC_Exam=>k_is)
  all_goals (try k_is)
  all_goals k_is
